import PyProof.Rows.All
import Wide.All
import OpenK.AllK
import Wide.FinOn
import Open.SpecLaws
import KE.OsGo
import HandS.ForSpec
import HandS.ForMost
import HandS.Zip
import HandS.Wide
import HandS.Flow
import HandS.Iter
import KE.DataCmp
import KE.DataMinMax
import KE.SortKeyHeap
import HandS.SortKw
import HandS.Lambda
import KE.DataMinKey
import HandS.EndTab
import PySem.Challenge.RW_gridsteps_s03_short
set_option Elab.async false
set_option linter.all false
set_option maxRecDepth 100000
set_option maxHeartbeats 2000000
/-! # Words over the readings: an abstract environment in the place of slots and heaps -/
namespace Py
open PySem PySem.Spec PyProof.Rows L2

/-! ### Facts of a value that further objects don't change -/
structure MP where
  p : Hp → V → Prop
  m : ∀ {G G' : Hp} {v : V}, Same G G' → p G v → p G' v

abbrev PairG (G : Hp) (vs : List V) (Fs : List MP) : Prop := Paired (fun (x : V) (F : MP) => F.p G x) vs Fs
theorem PairG.mono {G G' : Hp} (s : Same G G') : ∀ {vs : List V} {Fs : List MP}, PairG G vs Fs → PairG G' vs Fs
  | _, _, .nil => .nil
  | _, _, .cons (b := F) h t => .cons (F.m s h) (PairG.mono s t)
theorem PairG.get {G : Hp} : ∀ {vs : List V} {Fs : List MP} {i : Nat} {F : MP}, PairG G vs Fs → Fs[i]? = some F → ∃ v, vs[i]? = some v ∧ F.p G v
  | _, _, i, F, .nil, h => by simp at h
  | _, _, 0, F, .cons (a := v) h t, e => by simp at e; subst e; exact ⟨v, rfl, h⟩
  | _, _, i + 1, F, .cons h t, e => by
    have e' := e
    simp only [List.getElem?_cons_succ] at e'
    obtain ⟨v, a, b⟩ := PairG.get t e'
    exact ⟨v, by simpa using a, b⟩
theorem PairG.append {G : Hp} : ∀ {vs ws : List V} {Fs Es : List MP}, PairG G vs Fs → PairG G ws Es → PairG G (vs ++ ws) (Fs ++ Es)
  | _, _, _, _, .nil, h => h
  | _, _, _, _, .cons a t, h => .cons a (PairG.append t h)
theorem PairG.take {G : Hp} : ∀ {vs : List V} {Fs : List MP} (n : Nat), PairG G vs Fs → PairG G (vs.take n) (Fs.take n)
  | _, _, 0, _ => .nil
  | _, _, _ + 1, .nil => .nil
  | _, _, n + 1, .cons a t => .cons a (PairG.take n t)
theorem PairG.drop {G : Hp} : ∀ {vs : List V} {Fs : List MP} (n : Nat), PairG G vs Fs → PairG G (vs.drop n) (Fs.drop n)
  | _, _, 0, h => h
  | _, _, _ + 1, .nil => .nil
  | _, _, n + 1, .cons _ t => PairG.drop n t
theorem PairG.set {G : Hp} {v : V} {F : MP} (h : F.p G v) : ∀ {vs : List V} {Fs : List MP} (n : Nat), PairG G vs Fs → PairG G (vs.set n v) (Fs.set n F)
  | _, _, _, .nil => .nil
  | _, _, 0, .cons _ t => .cons h t
  | _, _, n + 1, .cons a t => .cons a (PairG.set h n t)

/-- the very value -/
def MP.v (x : V) : MP := ⟨fun _ v => v = x, fun _ h => h⟩
abbrev MP.i (n : Int) : MP := MP.v (.int n)
abbrev MP.b (c : Bool) : MP := MP.v (.bl c)
/-- a list that may be read -/
def MP.sq (K : PySem.W.Frag) (Fs : List MP) : MP := ⟨fun G v => ∃ a vs, v = .ref a ∧ SqL K G a vs ∧ PairG G vs Fs,
  fun s h => let ⟨a, vs, e, q, r⟩ := h; ⟨a, vs, e, s.seq q, r.mono s⟩⟩
/-- a list that was made here -/
def MP.lst (Fs : List MP) : MP := ⟨fun G v => ∃ a vs, v = .ref a ∧ G a = some (.lst vs) ∧ PairG G vs Fs,
  fun s h => let ⟨a, vs, e, q, r⟩ := h; ⟨a, vs, e, s _ _ q, r.mono s⟩⟩
def MP.tup (Fs : List MP) : MP := ⟨fun G v => ∃ a vs, v = .ref a ∧ G a = some (.tup vs) ∧ PairG G vs Fs,
  fun s h => let ⟨a, vs, e, q, r⟩ := h; ⟨a, vs, e, s _ _ q, r.mono s⟩⟩
def MP.ex {A : Type} (F : A → MP) (P : A → Prop) : MP := ⟨fun G v => ∃ x, P x ∧ (F x).p G v, fun s h => let ⟨x, q, r⟩ := h; ⟨x, q, (F x).m s r⟩⟩
def MP.le (F E : MP) : Prop := ∀ G v, F.p G v → E.p G v
theorem MP.le.rfl {F : MP} : F.le F := fun _ _ h => h
theorem MP.le_sq {K : PySem.W.Frag} {Fs : List MP} : (MP.lst Fs).le (MP.sq K Fs) := fun _ _ h => let ⟨a, vs, e, q, r⟩ := h; ⟨a, vs, e, SqL.of q, r⟩

/-! ### Heaps: H as it stands, G the part that no longer changes -/
structure Ext (G H G' H' : Hp) : Prop where
  h : Same H H'
  g : Same G G'
  gh : Same G' H'
  nw : ∀ b, G b = none → H b ≠ none → G' b = none
theorem Ext.refl {G H : Hp} (s : Same G H) : Ext G H G H := ⟨Same.refl H, Same.refl G, s, fun _ h _ => h⟩
theorem Same.some_ne {H H' : Hp} (s : Same H H') {b : Addr} (h : H b ≠ none) : H' b ≠ none := by
  cases q : H b with
  | none => exact absurd q h
  | some o => rw [s b o q]; intro e; cases e
theorem Ext.trans {G H G1 H1 G2 H2 : Hp} (a : Ext G H G1 H1) (b : Ext G1 H1 G2 H2) : Ext G H G2 H2 :=
  ⟨a.h.trans b.h, a.g.trans b.g, b.gh, fun c h1 h2 => b.nw c (a.nw c h1 h2) (Same.some_ne a.h h2)⟩
theorem same_new {H : Hp} {p : Addr} {o : HO} (h : H p = none) : Same H (upd H p o) := fun b x e => by
  rw [upd_ne (ne_of_none e h)]
  exact e
theorem same_both {G H : Hp} {p : Addr} {o : HO} (s : Same G H) : Same (upd G p o) (upd H p o) := fun b x e => by
  by_cases hb : b = p
  · subst hb; rw [upd_same] at e ⊢; exact e
  · rw [upd_ne hb] at e ⊢; exact s b x e
/-- a new object that no longer changes -/
theorem Ext.new {G H : Hp} {p : Addr} {o : HO} (s : Same G H) (h : H p = none) : Ext G H (upd G p o) (upd H p o) :=
  ⟨same_new h, same_new (s.free h), same_both s, fun b h1 h2 => by
    by_cases hb : b = p
    · subst hb; exact absurd h h2
    · rw [upd_ne hb]; exact h1⟩
/-- an object that may change still -/
theorem Ext.loose {G H G1 H1 : Hp} {p : Addr} {o : HO} (e : Ext G H G1 H1) (h : H p = none) (g : G1 p = none) : Ext G H G1 (upd H1 p o) :=
  ⟨fun b x q => by rw [upd_ne (ne_of_none q h)]; exact e.h b x q, e.g, fun b x q => by rw [upd_ne (ne_of_none q g)]; exact e.gh b x q, e.nw⟩
/-- it no longer changes from here on -/
theorem Ext.froze {G H G1 H1 : Hp} {p : Addr} {o : HO} (e : Ext G H G1 H1) (h : H p = none) (g : G1 p = none) (q : H1 p = some o) : Ext G H (upd G1 p o) H1 :=
  ⟨e.h, e.g.trans (same_new g), fun b x r => by
    by_cases hb : b = p
    · subst hb; rw [upd_same] at r; rw [q]; exact r
    · rw [upd_ne hb] at r; exact e.gh b x r, fun b h1 h2 => by
    by_cases hb : b = p
    · subst hb; exact absurd h h2
    · rw [upd_ne hb]; exact e.nw b h1 h2⟩

/-- from the frozen part as it stands now on -/
theorem Ext.re {G H G1 H1 : Hp} (e : Ext G H G1 H1) : Ext G1 H G1 H1 := ⟨e.h, Same.refl _, e.gh, fun _ h _ => h⟩
theorem Ext.join {G H G1 H1 G2 H2 : Hp} (a : Ext G H G1 H1) (b : Ext G1 H G2 H2) : Ext G H G2 H2 := ⟨b.h, a.g.trans b.g, b.gh, fun c h1 h2 => b.nw c (a.nw c h1 h2) h2⟩

/-! ### The abstract environment -/
inductive En where
  | no
  /-- a value that no longer changes -/
  | im (F : MP)
  /-- a list of this def's own that still changes, its items not -/
  | mu (Fs : List MP)
  /-- a list that stood when the def was called, and doesn't change -/
  | sh (K : PySem.W.Frag) (Fs : List MP)
  /-- a list as it stands now -/
  | rd (K : PySem.W.Frag) (Fs : List MP)
/-- no name of a list as it stands now -/
def noRd : List En → Bool
  | [] => true
  | .rd _ _ :: _ => false
  | .no :: l => noRd l
  | .im _ :: l => noRd l
  | .mu _ :: l => noRd l
  | .sh _ _ :: l => noRd l
theorem noRd_at : ∀ {C : List En} {i : Nat} {K : PySem.W.Frag} {Fs : List MP}, noRd C = true → C[i]? = some (.rd K Fs) → False
  | [], i, _, _, _, h => by simp at h
  | .rd _ _ :: _, _, _, _, h, _ => by cases h
  | .no :: l, 0, _, _, _, h => by cases h
  | .im _ :: l, 0, _, _, _, h => by cases h
  | .mu _ :: l, 0, _, _, _, h => by cases h
  | .sh _ _ :: l, 0, _, _, _, h => by cases h
  | .no :: l, i + 1, _, _, n, h => noRd_at (C := l) (i := i) n h
  | .im _ :: l, i + 1, _, _, n, h => noRd_at (C := l) (i := i) n h
  | .mu _ :: l, i + 1, _, _, n, h => noRd_at (C := l) (i := i) n h
  | .sh _ _ :: l, i + 1, _, _, n, h => noRd_at (C := l) (i := i) n h
def SlE (H0 G H : Hp) : En → Option V → Prop
  | .no, _ => True
  | .im F, x => ∃ v, x = some v ∧ F.p G v
  | .mu Fs, x => ∃ o vs, x = some (.ref o) ∧ H0 o = none ∧ G o = none ∧ H o = some (.lst vs) ∧ PairG G vs Fs
  | .sh K Fs, x => ∃ o vs, x = some (.ref o) ∧ SqL K H0 o vs ∧ PairG G vs Fs
  | .rd K Fs, x => ∃ o vs, x = some (.ref o) ∧ SqL K H o vs ∧ PairG G vs Fs
theorem SlE.mono {H0 G H G' H' : Hp} (e : Ext G H G' H') : ∀ {c : En} {x : Option V}, SlE H0 G H c x → SlE H0 G' H' c x
  | .no, _, _ => trivial
  | .im F, _, ⟨v, a, b⟩ => ⟨v, a, F.m e.g b⟩
  | .mu Fs, _, ⟨o, vs, a, h0, b, c, d⟩ => ⟨o, vs, a, h0, e.nw o b (by rw [c]; intro z; cases z), e.h _ _ c, d.mono e.g⟩
  | .sh K Fs, _, ⟨o, vs, a, b, c⟩ => ⟨o, vs, a, b, c.mono e.g⟩
  | .rd K Fs, _, ⟨o, vs, a, b, c⟩ => ⟨o, vs, a, e.h.seq b, c.mono e.g⟩
structure Sta (G0 H0 : Hp) (C : List En) (G H : Hp) (s : L2.St) : Prop where
  ext : Ext G0 H0 G H
  len : s.length = C.length
  at_ : ∀ (i : Nat) (e : En), C[i]? = some e → ∃ x, s[i]? = some x ∧ SlE H0 G H e x
  apart : ∀ (i j : Nat) (Fs Es : List MP) (o : Addr), i ≠ j → C[i]? = some (.mu Fs) → C[j]? = some (.mu Es) → s[i]? = some (some (.ref o)) → s[j]? ≠ some (some (.ref o))
theorem Sta.re {G0 H0 G H : Hp} {C : List En} {s : L2.St} (S : Sta G0 H0 C G H s) : Sta G H0 C G H s := ⟨S.ext.re, S.len, S.at_, S.apart⟩
theorem Sta.join {G0 H0 G1 H1 G H : Hp} {C : List En} {s : L2.St} (S : Sta G1 H0 C G H s) (e : Ext G0 H0 G1 H1) : Sta G0 H0 C G H s := ⟨e.join S.ext, S.len, S.at_, S.apart⟩
theorem Sta.gh {G0 H0 G H : Hp} {C : List En} {s : L2.St} (S : Sta G0 H0 C G H s) : Same G H := S.ext.gh
theorem Sta.mono {G0 H0 G H G' H' : Hp} {C : List En} {s : L2.St} (S : Sta G0 H0 C G H s) (e : Ext G H G' H') : Sta G0 H0 C G' H' s :=
  ⟨S.ext.trans e, S.len, fun i c h => let ⟨x, a, b⟩ := S.at_ i c h; ⟨x, a, b.mono e⟩, S.apart⟩
theorem Sta.im {G0 H0 G H : Hp} {C : List En} {s : L2.St} (S : Sta G0 H0 C G H s) {i : Nat} {F : MP} (h : C[i]? = some (.im F)) : ∃ v, s[i]? = some (some v) ∧ F.p G v := by
  obtain ⟨x, a, v, e, q⟩ := S.at_ i _ h
  subst e
  exact ⟨v, a, q⟩
theorem Sta.mu {G0 H0 G H : Hp} {C : List En} {s : L2.St} (S : Sta G0 H0 C G H s) {i : Nat} {Fs : List MP} (h : C[i]? = some (.mu Fs)) : ∃ o vs, s[i]? = some (some (.ref o)) ∧ H0 o = none ∧ G o = none ∧ H o = some (.lst vs) ∧ PairG G vs Fs := by
  obtain ⟨x, a, o, vs, e, q⟩ := S.at_ i _ h
  subst e
  exact ⟨o, vs, a, q⟩
theorem set_get {α : Type} {l : List α} {i j : Nat} {x y : α} (h : (l.set i x)[j]? = some y) : (i = j ∧ y = x ∧ i < l.length) ∨ (i ≠ j ∧ l[j]? = some y) := by
  by_cases e : i = j
  · subst e
    rw [List.getElem?_set_self'] at h
    cases q : l[i]? with
    | none => rw [q] at h; simp at h
    | some z =>
      rw [q] at h
      have := (List.getElem?_eq_some_iff.mp q).1
      simp at h
      exact .inl ⟨rfl, h.symm, this⟩
  · rw [List.getElem?_set_ne e] at h
    exact .inr ⟨e, h⟩
theorem get_set_lt {α : Type} {l : List α} {i : Nat} {x : α} (h : i < l.length) : (l.set i x)[i]? = some x := by
  rw [List.getElem?_set_self h]
/-- a slot gets a value that no longer changes -/
theorem Sta.put {G0 H0 G H : Hp} {C : List En} {s : L2.St} (S : Sta G0 H0 C G H s) {i : Nat} {v : V} {F : MP} (h : F.p G v) : Sta G0 H0 (C.set i (.im F)) G H (s.set i (some v)) where
  ext := S.ext
  len := by rw [List.length_set, List.length_set]; exact S.len
  at_ := fun j e q => by
    rcases set_get q with ⟨rfl, rfl, hl⟩ | ⟨hn, q⟩
    · exact ⟨some v, get_set_lt (by rw [S.len]; exact hl), v, rfl, h⟩
    · obtain ⟨x, a, b⟩ := S.at_ j e q
      exact ⟨x, by rw [List.getElem?_set_ne hn]; exact a, b⟩
  apart := fun j k Fs Es o hjk h1 h2 h3 h4 => by
    rcases set_get h1 with ⟨_, z, _⟩ | ⟨n1, h1⟩
    · cases z
    rcases set_get h2 with ⟨_, z, _⟩ | ⟨n2, h2⟩
    · cases z
    rw [List.getElem?_set_ne n1] at h3
    rw [List.getElem?_set_ne n2] at h4
    exact S.apart j k Fs Es o hjk h1 h2 h3 h4
/-- a slot is forgotten -/
theorem Sta.forget {G0 H0 G H : Hp} {C : List En} {s : L2.St} (S : Sta G0 H0 C G H s) {i : Nat} (x : Option V) : Sta G0 H0 (C.set i .no) G H (s.set i x) where
  ext := S.ext
  len := by rw [List.length_set, List.length_set]; exact S.len
  at_ := fun j e q => by
    rcases set_get q with ⟨rfl, rfl, hl⟩ | ⟨hn, q⟩
    · exact ⟨x, get_set_lt (by rw [S.len]; exact hl), trivial⟩
    · obtain ⟨x, a, b⟩ := S.at_ j e q
      exact ⟨x, by rw [List.getElem?_set_ne hn]; exact a, b⟩
  apart := fun j k Fs Es o hjk h1 h2 h3 h4 => by
    rcases set_get h1 with ⟨_, z, _⟩ | ⟨n1, h1⟩
    · cases z
    rcases set_get h2 with ⟨_, z, _⟩ | ⟨n2, h2⟩
    · cases z
    rw [List.getElem?_set_ne n1] at h3
    rw [List.getElem?_set_ne n2] at h4
    exact S.apart j k Fs Es o hjk h1 h2 h3 h4
theorem wipe_set {s : L2.St} {j : Nat} {x : Option V} : ∀ {vs : List Nat}, j ∈ vs → wipe (s.set j x) vs = wipe s vs
  | v :: vs, h => by
    unfold wipe
    by_cases e : j ∈ vs
    · rw [wipe_set e]
    · have ev : j = v := by
        rcases List.mem_cons.mp h with h | h
        · exact h
        · exact absurd h e
      subst ev
      have c : ∀ {vs : List Nat} (s : L2.St), j ∉ vs → wipe (s.set j x) vs = (wipe s vs).set j x := by
        intro vs
        induction vs with
        | nil => intro s _; rfl
        | cons w ws ih =>
          intro s hn
          have n1 : j ≠ w := fun z => hn (by rw [z]; exact List.mem_cons_self)
          have n2 : j ∉ ws := fun z => hn (List.mem_cons_of_mem _ z)
          show (wipe (s.set j x) ws).set w none = ((wipe s ws).set w none).set j x
          rw [ih s n2, List.set_comm _ _ n1]
      rw [c s e, List.set_set]
theorem wipe_wipe {s : L2.St} {vs : List Nat} : ∀ {us : List Nat}, (∀ u ∈ us, u ∈ vs) → wipe (wipe s us) vs = wipe s vs
  | [], _ => rfl
  | u :: us, h => by
    show wipe ((wipe s us).set u none) vs = wipe s vs
    rw [wipe_set (h u List.mem_cons_self), wipe_wipe fun w hw => h w (List.mem_cons_of_mem _ hw)]
def wipeE (C : List En) : List Nat → List En
  | [] => C
  | v :: vs => (wipeE C vs).set v .no
theorem Sta.wipe {G0 H0 G H : Hp} {C : List En} {s : L2.St} (S : Sta G0 H0 C G H s) : ∀ vs : List Nat, Sta G0 H0 (wipeE C vs) G H (L2.wipe s vs)
  | [] => S
  | v :: vs => (S.wipe vs).forget none

/-! ### Expressions -/
def Ev (t : TE) (C : List En) (F : MP) : Prop := ∀ G0 H0 G H s, Sta G0 H0 C G H s → ∀ Q : VK, (∀ G' H' v, Ext G H G' H' → F.p G' v → Q v H') → t s H Q
def Et (t : TT) (C : List En) (b : Bool) : Prop := ∀ G0 H0 G H s, Sta G0 H0 C G H s → ∀ Q : Bool → Hp → Prop, (∀ G' H', Ext G H G' H' → Q b H') → t s H Q
def Ea (t : TA) (C : List En) (Fs : List MP) : Prop := ∀ G0 H0 G H s, Sta G0 H0 C G H s → ∀ Q : List V → Hp → Prop, (∀ G' H' vs, Ext G H G' H' → PairG G' vs Fs → Q vs H') → t s H Q
variable {C : List En} {F E : MP}
theorem Ev.le {t : TE} (h : Ev t C F) (l : F.le E) : Ev t C E := fun G0 H0 G H s S Q q => h G0 H0 G H s S Q fun G' H' v e p => q G' H' v e (l _ _ p)
theorem ev_var {i : Nat} (h : C[i]? = some (.im F)) : Ev (tVar i) C F := fun G0 H0 G H s S Q q => by
  obtain ⟨v, a, p⟩ := S.im h
  exact ⟨v, a, q G H v (Ext.refl S.gh) p⟩
theorem ev_c (x : V) : Ev (tC x) C (.v x) := fun G0 H0 G H s S Q q => q G H x (Ext.refl S.gh) rfl
/-- two operands, then an operation on values -/
theorem ev_op2 {r : R2} {ta tb : TE} {Fa Fb : MP} (ha : Ev ta C Fa) (hb : Ev tb C Fb)
    (h : ∀ (G H : Hp) (x y : V), Same G H → Fa.p G x → Fb.p G y → ∀ Q : VK, (∀ G' H' v, Ext G H G' H' → F.p G' v → Q v H') → r x y H Q) : Ev (tOp r ta tb) C F := fun G0 H0 G H s S Q q =>
  ha G0 H0 G H s S _ fun G1 H1 x e1 p1 => hb G0 H0 G1 H1 s (S.mono e1) _ fun G2 H2 y e2 p2 =>
    h G2 H2 x y e2.gh (Fa.m e2.g p1) p2 Q fun G3 H3 v e3 p3 => q G3 H3 v ((e1.trans e2).trans e3) p3
theorem ev_op1 {r : V → Hp → VK → Prop} {ta : TE} {Fa : MP} (ha : Ev ta C Fa)
    (h : ∀ (G H : Hp) (x : V), Same G H → Fa.p G x → ∀ Q : VK, (∀ G' H' v, Ext G H G' H' → F.p G' v → Q v H') → r x H Q) : Ev (tUn r ta) C F := fun G0 H0 G H s S Q q =>
  ha G0 H0 G H s S _ fun G1 H1 x e1 p1 => h G1 H1 x e1.gh p1 Q fun G3 H3 v e3 p3 => q G3 H3 v (e1.trans e3) p3
theorem ev_int0 {g : Int → Int → V} {ta tb : TE} {i j : Int} (ha : Ev ta C (.i i)) (hb : Ev tb C (.i j)) : Ev (tOp (rI0 g) ta tb) C (.v (g i j)) :=
  ev_op2 ha hb fun G H x y s p1 p2 Q q => ⟨i, j, p1, p2, q G H _ (Ext.refl s) rfl⟩
theorem ev_int {R : Int → Int → Prop} {g : Int → Int → V} {ta tb : TE} {i j : Int} (ha : Ev ta C (.i i)) (hb : Ev tb C (.i j)) (h : R i j) : Ev (tOp (rI R g) ta tb) C (.v (g i j)) :=
  ev_op2 ha hb fun G H x y s p1 p2 Q q => ⟨i, j, p1, p2, h, q G H _ (Ext.refl s) rfl⟩
theorem ev_un {g : Int → V} {ta : TE} {i : Int} (ha : Ev ta C (.i i)) : Ev (tUn (rU g) ta) C (.v (g i)) :=
  ev_op1 ha fun G H x s p1 Q q => ⟨i, p1, q G H _ (Ext.refl s) rfl⟩
theorem ev_eq {ta tb : TE} {x y : V} (ha : Ev ta C (.v x)) (hb : Ev tb C (.v y)) (h : scal x y = true) : Ev (tOp rEq ta tb) C (.b (decide (x = y))) :=
  ev_op2 ha hb fun G H u v s p1 p2 Q q => by
    obtain rfl : u = x := p1
    obtain rfl : v = y := p2
    exact ⟨h, q G H _ (Ext.refl s) rfl⟩
theorem ev_ne {ta tb : TE} {x y : V} (ha : Ev ta C (.v x)) (hb : Ev tb C (.v y)) (h : scal x y = true) : Ev (tOp rNe ta tb) C (.b (!decide (x = y))) :=
  ev_op2 ha hb fun G H u v s p1 p2 Q q => by
    obtain rfl : u = x := p1
    obtain rfl : v = y := p2
    exact ⟨h, q G H _ (Ext.refl s) rfl⟩
theorem ev_ix {K : PySem.W.Frag} {ta tb : TE} {Fs : List MP} {i : Int} (ha : Ev ta C (.sq K Fs)) (hb : Ev tb C (.i i)) (h : atI Fs i = some F) : Ev (tOp (rIxL K) ta tb) C F :=
  ev_op2 ha hb fun G H x y s p1 p2 Q q => by
    obtain ⟨a, vs, rfl, hs, hp⟩ := p1
    unfold atI at h
    cases hn : ixN Fs.length i with
    | none => rw [hn] at h; simp at h
    | some j =>
      rw [hn] at h
      obtain ⟨v, hv, pv⟩ := hp.get (show Fs[j]? = some F from h)
      refine ⟨a, vs, i, v, rfl, p2, s.seq hs, ?_, q G H v (Ext.refl s) pv⟩
      unfold atI
      rw [Paired.length hp, hn]
      exact hv
theorem atI_of {B : Type} {l : List B} {j : Nat} {x : B} {i : Int} (e : i = (j : Int)) (h : l[j]? = some x) : atI l i = some x := by
  subst e
  exact atI_nat h

/-! arguments -/
theorem ea_nil : Ea tNil C [] := fun G0 H0 G H s S Q q => q G H [] (Ext.refl S.gh) .nil
theorem ea_cons {te : TE} {tr : TA} {Fs : List MP} (h1 : Ev te C F) (h2 : Ea tr C Fs) : Ea (tCons te tr) C (F :: Fs) := fun G0 H0 G H s S Q q =>
  h1 G0 H0 G H s S _ fun G1 H1 x e1 p1 => h2 G0 H0 G1 H1 s (S.mono e1) _ fun G2 H2 xs e2 p2 => q G2 H2 (x :: xs) (e1.trans e2) (.cons (F.m e2.g p1) p2)
theorem Ea.le {t : TA} {Fs Es : List MP} (h : Ea t C Fs) (l : ∀ G vs, PairG G vs Fs → PairG G vs Es) : Ea t C Es := fun G0 H0 G H s S Q q => h G0 H0 G H s S Q fun G' H' v e p => q G' H' v e (l _ _ p)
/-- a built-in over values -/
theorem ev_cb {r : List V → Hp → VK → Prop} {t : TA} {Fs : List MP} (ha : Ea t C Fs)
    (h : ∀ (G H : Hp) (vs : List V), Same G H → PairG G vs Fs → ∀ Q : VK, (∀ G' H' v, Ext G H G' H' → F.p G' v → Q v H') → r vs H Q) : Ev (tCB r t) C F := fun G0 H0 G H s S Q q =>
  ha G0 H0 G H s S _ fun G1 H1 vs e1 p1 => h G1 H1 vs e1.gh p1 Q fun G3 H3 v e3 p3 => q G3 H3 v (e1.trans e3) p3
theorem pair1 {G : Hp} {vs : List V} (h : PairG G vs [F]) : ∃ v, vs = [v] ∧ F.p G v := by
  cases h with
  | cons a t => cases t; exact ⟨_, rfl, a⟩
theorem pair2 {G : Hp} {vs : List V} (h : PairG G vs [F, E]) : ∃ v w, vs = [v, w] ∧ F.p G v ∧ E.p G w := by
  cases h with
  | cons a t =>
    obtain ⟨w, rfl, b⟩ := pair1 t
    exact ⟨_, _, rfl, a, b⟩
def nums (ns : List Int) : List MP := ns.map MP.i
theorem pair_nums {G : Hp} : ∀ {ns : List Int} {vs : List V}, PairG G vs (nums ns) → vs = ns.map V.int
  | [], _, h => by cases h; rfl
  | n :: ns, _, h => by
    cases h with
    | cons a t => rw [pair_nums t]; rw [show _ = V.int n from a]; rfl
theorem nums_pair {G : Hp} : ∀ (ns : List Int), PairG G (ns.map V.int) (nums ns)
  | [] => .nil
  | n :: ns => .cons rfl (nums_pair ns)
theorem nums_length (ns : List Int) : (nums ns).length = ns.length := by unfold nums; rw [List.length_map]
theorem nums_get {ns : List Int} {i : Nat} {z : Int} (h : ns[i]? = some z) : (nums ns)[i]? = some (.i z) := by
  unfold nums; rw [List.getElem?_map, h]; rfl
/-- a list of nums, a list of such -/
abbrev MP.il (K : PySem.W.Frag) (ns : List Int) : MP := .sq K (nums ns)
abbrev MP.ill (K : PySem.W.Frag) (rs : List (List Int)) : MP := .sq K (rs.map (MP.il K))
theorem ev_sum {K : PySem.W.Frag} {t : TA} {ns : List Int} (h : Ea t C [.il K ns]) : Ev (tCB (rSum K) t) C (.i ns.sum) :=
  ev_cb h fun G H vs s p Q q => by
    obtain ⟨v, rfl, a, xs, rfl, hs, hp⟩ := pair1 p
    exact ⟨a, ns, rfl, by rw [← pair_nums hp]; exact s.seq hs, q G H _ (Ext.refl s) rfl⟩
abbrev rLenQ (K : PySem.W.Frag) : List V → Hp → VK → Prop := fun xs H Q => ∃ p ys, xs = [V.ref p] ∧ (SqL K H p ys ∨ SqT K H p ys) ∧ Q (.int ys.length) H
theorem ev_len {K : PySem.W.Frag} {t : TA} {Fs : List MP} (h : Ea t C [.sq K Fs]) : Ev (tCB (rLenQ K) t) C (.i Fs.length) :=
  ev_cb h fun G H vs s p Q q => by
    obtain ⟨v, rfl, a, xs, rfl, hs, hp⟩ := pair1 p
    exact ⟨a, xs, rfl, .inl (s.seq hs), q G H _ (Ext.refl s) (by rw [Paired.length hp]; rfl)⟩
theorem ev_abs {t : TA} {n : Int} (h : Ea t C [.i n]) : Ev (tCB (fun xs H Q => ∃ i, xs = [V.int i] ∧ Q (.int (if i < 0 then -i else i)) H) t) C (.i (if n < 0 then -n else n)) :=
  ev_cb h fun G H vs s p Q q => by
    obtain ⟨v, rfl, e⟩ := pair1 p
    exact ⟨n, by rw [show v = V.int n from e], q G H _ (Ext.refl s) rfl⟩
/-! displays, slices, joins -/
theorem ev_lst {t : TA} {Fs : List MP} (h : Ea t C Fs) (hl : Fs.length ≤ sizeLine) : Ev (tLst t) C (.lst Fs) := fun G0 H0 G H s S Q q =>
  h G0 H0 G H s S _ fun G1 H1 vs e1 p1 => ⟨by rw [Paired.length p1]; exact hl, fun p hp =>
    q (upd G1 p (.lst vs)) _ (.ref p) (e1.trans (Ext.new e1.gh hp)) ⟨p, vs, rfl, upd_same, p1.mono (same_new (e1.gh.free hp))⟩⟩
theorem ev_tup {t : TA} {Fs : List MP} (h : Ea t C Fs) (hl : Fs.length ≤ sizeLine) : Ev (tTup t) C (.tup Fs) := fun G0 H0 G H s S Q q =>
  h G0 H0 G H s S _ fun G1 H1 vs e1 p1 => ⟨by rw [Paired.length p1]; exact hl, fun p hp =>
    q (upd G1 p (.tup vs)) _ (.ref p) (e1.trans (Ext.new e1.gh hp)) ⟨p, vs, rfl, upd_same, p1.mono (same_new (e1.gh.free hp))⟩⟩
def Eo (t : TO) (C : List En) (o : Option Int) : Prop := ∀ G0 H0 G H s, Sta G0 H0 C G H s → ∀ Q : Option Int → Hp → Prop, (∀ G' H', Ext G H G' H' → Q o H') → t s H Q
theorem eo_none : Eo tNoPart C none := fun G0 H0 G H s S Q q => q G H (Ext.refl S.gh)
theorem eo_some {t : TE} {i : Int} (h : Ev t C (.i i)) : Eo (tPart t) C (some i) := fun G0 H0 G H s S Q q =>
  h G0 H0 G H s S _ fun G1 H1 x e1 p1 => ⟨i, p1, q G1 H1 e1⟩
def cutL {α : Type} (xs : List α) (lo hi : Option Int) : List α := (xs.drop (HT.sIx xs.length 0 lo)).take (HT.sIx xs.length xs.length hi - HT.sIx xs.length 0 lo)
theorem PairG.cut {G : Hp} {vs : List V} {Fs : List MP} (h : PairG G vs Fs) (lo hi : Option Int) : PairG G (cutV vs lo hi) (cutL Fs lo hi) := by
  unfold cutV cutL
  rw [Paired.length h]
  exact (h.drop _).take _
theorem ev_slice {K : PySem.W.Frag} {te : TE} {tl th : TO} {Fs : List MP} {lo hi : Option Int} (h : Ev te C (.sq K Fs)) (h1 : Eo tl C lo) (h2 : Eo th C hi) : Ev (tSl (rSlL K) te tl th) C (.lst (cutL Fs lo hi)) := fun G0 H0 G H s S Q q =>
  h G0 H0 G H s S _ fun G1 H1 x e1 p1 => h1 G0 H0 G1 H1 s (S.mono e1) _ fun G2 H2 e2 => h2 G0 H0 G2 H2 s (S.mono (e1.trans e2)) _ fun G3 H3 e3 => by
    obtain ⟨a, vs, rfl, hs, hp⟩ := p1
    have e : Ext G H G3 H3 := (e1.trans e2).trans e3
    refine ⟨a, vs, rfl, (e2.g.trans (e3.g.trans e3.gh)).seq hs, fun p hn => q (upd G3 p _) _ (.ref p) (e.trans (Ext.new e3.gh hn)) ⟨p, _, rfl, upd_same, ?_⟩⟩
    exact PairG.mono ((e2.g.trans e3.g).trans (same_new (e3.gh.free hn))) (hp.cut lo hi)
theorem ev_cat {ta tb : TE} {Fs Es : List MP} (ha : Ev ta C (.lst Fs)) (hb : Ev tb C (.lst Es)) (hl : Fs.length + Es.length ≤ sizeLine) : Ev (tOp rCat ta tb) C (.lst (Fs ++ Es)) :=
  ev_op2 ha hb fun G H x y s p1 p2 Q q => by
    obtain ⟨a, vs, rfl, hs, hp⟩ := p1
    obtain ⟨b, ws, rfl, hs2, hp2⟩ := p2
    refine ⟨a, b, vs, ws, rfl, rfl, s _ _ hs, s _ _ hs2, by rw [Paired.length hp, Paired.length hp2]; exact hl, fun p hn => q (upd G p _) _ (.ref p) (Ext.new s hn) ⟨p, _, rfl, upd_same, ?_⟩⟩
    exact (hp.append hp2).mono (same_new (s.free hn))
/-! truth -/
theorem et_test {t : TE} {b : Bool} (h : Ev t C (.b b)) : Et (tTest t) C b := fun G0 H0 G H s S Q q =>
  h G0 H0 G H s S _ fun G1 H1 x e1 p1 => ⟨b, p1, q G1 H1 e1⟩
theorem et_b {t : TE} {b : Bool} (h : Ev t C (.b b)) : Et (tB t) C b := fun G0 H0 G H s S Q q =>
  h G0 H0 G H s S _ fun G1 H1 x e1 p1 => ⟨b, p1, q G1 H1 e1⟩
theorem et_or {t u : TT} {a b : Bool} (h : Et t C a) (h2 : a = false → Et u C b) : Et (tOr t u) C (a || b) := fun G0 H0 G H s S Q q =>
  h G0 H0 G H s S _ fun G1 H1 e1 => by
    cases a with
    | true => exact iteT (q G1 H1 e1)
    | false => exact iteF (h2 rfl G0 H0 G1 H1 s (S.mono e1) Q fun G2 H2 e2 => q G2 H2 (e1.trans e2))
theorem et_and {t u : TT} {a b : Bool} (h : Et t C a) (h2 : a = true → Et u C b) : Et (tAnd t u) C (a && b) := fun G0 H0 G H s S Q q =>
  h G0 H0 G H s S _ fun G1 H1 e1 => by
    cases a with
    | false => exact iteF (q G1 H1 e1)
    | true => exact iteT (h2 rfl G0 H0 G1 H1 s (S.mono e1) Q fun G2 H2 e2 => q G2 H2 (e1.trans e2))
theorem et_not {t : TT} {a : Bool} (h : Et t C a) : Et (tNot t) C (!a) := fun G0 H0 G H s S Q q =>
  h G0 H0 G H s S _ fun G1 H1 e1 => q G1 H1 e1
theorem ev_andV {t u : TE} {a b : Bool} (h : Ev t C (.b a)) (h2 : a = true → Ev u C (.b b)) : Ev (tAndV t u) C (.b (a && b)) := fun G0 H0 G H s S Q q =>
  h G0 H0 G H s S _ fun G1 H1 x e1 p1 => ⟨a, p1, by
    cases a with
    | false => exact iteF (q G1 H1 _ e1 rfl)
    | true => exact iteT (h2 rfl G0 H0 G1 H1 s (S.mono e1) Q fun G2 H2 v e2 p2 => q G2 H2 v (e1.trans e2) p2)⟩
theorem ev_orV {t u : TE} {a b : Bool} (h : Ev t C (.b a)) (h2 : a = false → Ev u C (.b b)) : Ev (tOrV t u) C (.b (a || b)) := fun G0 H0 G H s S Q q =>
  h G0 H0 G H s S _ fun G1 H1 x e1 p1 => ⟨a, p1, by
    cases a with
    | true => exact iteT (q G1 H1 _ e1 rfl)
    | false => exact iteF (h2 rfl G0 H0 G1 H1 s (S.mono e1) Q fun G2 H2 v e2 p2 => q G2 H2 v (e1.trans e2) p2)⟩
theorem ev_if {c : TT} {t u : TE} {b : Bool} (h : Et c C b) (h1 : b = true → Ev t C F) (h2 : b = false → Ev u C F) : Ev (tIf c t u) C F := fun G0 H0 G H s S Q q =>
  h G0 H0 G H s S _ fun G1 H1 e1 => by
    cases b with
    | true => exact iteT (h1 rfl G0 H0 G1 H1 s (S.mono e1) Q fun G2 H2 v e2 p2 => q G2 H2 v (e1.trans e2) p2)
    | false => exact iteF (h2 rfl G0 H0 G1 H1 s (S.mono e1) Q fun G2 H2 v e2 p2 => q G2 H2 v (e1.trans e2) p2)

/-! ### Defs -/
/-- the promise of a def that changes nothing of what it is handed -/
def spF {A : Type} (pre : A → Prop) (args : A → List MP) (post : A → MP) : Sp := fun vs H Q _ => ∃ G c, pre c ∧ Same G H ∧ PairG G vs (args c) ∧ ∀ G' H' v, Ext G H G' H' → (post c).p G' v → Q v H'
theorem ev_call {A : Type} {pre : A → Prop} {args : A → List MP} {post : A → MP} {X : XK} {t : TA} (c : A) (h : Ea t C (args c)) (hp : pre c) : Ev (tCall (spF pre args post) [] X t) C (post c) := fun G0 H0 G H s S Q q =>
  h G0 H0 G H s S _ fun G1 H1 vs e1 p1 => by
    show spF pre args post (vs ++ []) H1 Q X
    rw [List.append_nil]
    exact ⟨G1, c, hp, e1.gh, p1, fun G' H' v e p => q G' H' v (e1.trans e) p⟩

/-! ### Statements -/
structure AE where
  nx : List En → Prop
  rt : MP → Prop
  bk : List En → Prop := fun _ => False
  ct : List En → Prop := fun _ => False
def Ex (t : TS) (C : List En) (A : AE) : Prop := ∀ G0 H0 G H s, Sta G0 H0 C G H s → ∀ D : Ends,
  (∀ C' G' H' s', A.nx C' → Sta G0 H0 C' G' H' s' → D.nx s' H') → (∀ C' G' H' s', A.bk C' → Sta G0 H0 C' G' H' s' → D.bk s' H') → (∀ C' G' H' s', A.ct C' → Sta G0 H0 C' G' H' s' → D.ct s' H') →
  (∀ F G' H' v, A.rt F → Ext G0 H0 G' H' → F.p G' v → D.rt v H') → t D s H
variable {A : AE}
theorem ex_next (h : A.nx C) : Ex tNext C A := fun G0 H0 G H s S D h1 _ _ _ => h1 C G H s h S
theorem ex_break (h : A.bk C) : Ex tBreak C A := fun G0 H0 G H s S D _ h2 _ _ => h2 C G H s h S
theorem ex_cont (h : A.ct C) : Ex tCont C A := fun G0 H0 G H s S D _ _ h3 _ => h3 C G H s h S
theorem ex_seq {t u : TS} (h : Ex t C { A with nx := fun C' => Ex u C' A }) : Ex (tSeq t u) C A := fun G0 H0 G H s S D h1 h2 h3 h4 =>
  h G0 H0 G H s S { D with nx := u D } (fun C' G' H' s' q S' => q G0 H0 G' H' s' S' D h1 h2 h3 h4) h2 h3 h4
theorem ex_ret {te : TE} (h : Ev te C F) (r : A.rt F) : Ex (tRet te) C A := fun G0 H0 G H s S D _ _ _ h4 =>
  h G0 H0 G H s S _ fun G1 H1 v e p => h4 F G1 H1 v r (S.ext.trans e) p
theorem ex_set {te : TE} {i : Nat} (h : Ev te C F) (n : A.nx (C.set i (.im F))) : Ex (tAsg te (gName i)) C A := fun G0 H0 G H s S D h1 _ _ _ =>
  h G0 H0 G H s S _ fun G1 H1 v e p => h1 _ G1 H1 _ n ((S.mono e).put p)
theorem ex_drop {te : TE} (h : Ev te C F) (n : A.nx C) : Ex (tDrop te) C A := fun G0 H0 G H s S D h1 _ _ _ =>
  h G0 H0 G H s S _ fun G1 H1 v e p => h1 _ G1 H1 _ n (S.mono e)
theorem ex_if {c : TT} {t u : TS} {b : Bool} (h : Et c C b) (h1 : b = true → Ex t C A) (h2 : b = false → Ex u C A) : Ex (tIfS c t u) C A := fun G0 H0 G H s S D a1 a2 a3 a4 =>
  h G0 H0 G H s S _ fun G1 H1 e1 => by
    cases b with
    | true => exact iteT (h1 rfl G0 H0 G1 H1 s (S.mono e1) D a1 a2 a3 a4)
    | false => exact iteF (h2 rfl G0 H0 G1 H1 s (S.mono e1) D a1 a2 a3 a4)
/-- a list of the def's own no longer changes from here on -/
theorem ex_froze {t : TS} {i : Nat} {Fs : List MP} (hi : C[i]? = some (.mu Fs)) (h : Ex t (C.set i (.im (.lst Fs))) A) : Ex t C A := fun G0 H0 G H s S D => by
  obtain ⟨o, vs, a, h0, g, hh, p⟩ := S.mu hi
  refine h G0 H0 (upd G o (.lst vs)) H s ?_ D
  have sg : Same G (upd G o (.lst vs)) := same_new g
  refine ⟨S.ext.froze h0 g hh, by rw [List.length_set]; exact S.len, fun j e q => ?_, fun j k Fs' Es' o' hjk q1 q2 q3 q4 => ?_⟩
  · rcases set_get q with ⟨rfl, rfl, hl⟩ | ⟨hn, q⟩
    · exact ⟨_, a, _, rfl, o, vs, rfl, upd_same, p.mono sg⟩
    · obtain ⟨x, b, c⟩ := S.at_ j e q
      refine ⟨x, b, ?_⟩
      cases e with
      | no => trivial
      | im F' =>
        obtain ⟨v, r1, r2⟩ := c
        exact ⟨v, r1, F'.m sg r2⟩
      | mu Fs' =>
        obtain ⟨o', ws, r1, r2, r3, r4, r5⟩ := c
        subst r1
        refine ⟨o', ws, rfl, r2, ?_, r4, r5.mono sg⟩
        rw [upd_ne (fun z => S.apart i j Fs Fs' o hn hi q a (by rw [← z]; exact b))]
        exact r3
      | sh K' Fs' =>
        obtain ⟨o', ws, r1, r2, r3⟩ := c
        exact ⟨o', ws, r1, r2, r3.mono sg⟩
      | rd K' Fs' =>
        obtain ⟨o', ws, r1, r2, r3⟩ := c
        exact ⟨o', ws, r1, r2, r3.mono sg⟩
  · rcases set_get q1 with ⟨_, z, _⟩ | ⟨n1, q1⟩
    · cases z
    rcases set_get q2 with ⟨_, z, _⟩ | ⟨n2, q2⟩
    · cases z
    exact S.apart j k Fs' Es' o' hjk q1 q2 q3 q4
/-- name = [..], a list that is to change -/
theorem ex_new {t : TA} {Fs : List MP} {i : Nat} (h : Ea t C Fs) (hl : Fs.length ≤ sizeLine) (n : A.nx (C.set i (.mu Fs))) : Ex (tAsg (tLst t) (gName i)) C A := fun G0 H0 G H s S D h1 _ _ _ =>
  h G0 H0 G H s S _ fun G1 H1 vs e p => ⟨by rw [Paired.length p]; exact hl, fun o ho => h1 _ G1 (upd H1 o (.lst vs)) _ n (by
    have S1 := S.mono e
    have g0 : H0 o = none := S1.ext.h.free ho
    have g1 : G1 o = none := e.gh.free ho
    refine ⟨S1.ext.loose g0 g1, by rw [List.length_set, List.length_set]; exact S1.len, fun j c q => ?_, fun j k Fs' Es' o' hjk q1 q2 q3 q4 => ?_⟩
    · rcases set_get q with ⟨rfl, rfl, hl⟩ | ⟨hn, q⟩
      · exact ⟨_, get_set_lt (by rw [S1.len]; exact hl), o, vs, rfl, g0, g1, upd_same, p⟩
      · obtain ⟨x, b, c'⟩ := S1.at_ j c q
        refine ⟨x, by rw [List.getElem?_set_ne hn]; exact b, ?_⟩
        cases c with
        | no => trivial
        | im F' => exact c'
        | mu Fs' =>
          obtain ⟨o', ws, r1, r2, r3, r4, r5⟩ := c'
          exact ⟨o', ws, r1, r2, r3, by rw [upd_ne (ne_of_none r4 ho)]; exact r4, r5⟩
        | sh K' Fs' => exact c'
        | rd K' Fs' =>
          obtain ⟨o', ws, r1, r2, r3⟩ := c'
          exact ⟨o', ws, r1, (same_new ho).seq r2, r3⟩
    · rcases set_get q1 with ⟨rfl, z, hl⟩ | ⟨n1, q1⟩
      · rw [get_set_lt (by rw [S1.len]; exact hl)] at q3
        cases q3
        rcases set_get q2 with ⟨rfl, _, _⟩ | ⟨n2, q2⟩
        · exact hjk rfl
        rw [List.getElem?_set_ne n2] at q4
        obtain ⟨o2, ws, r1, _, _, r4, _⟩ := S1.mu q2
        rw [r1] at q4
        cases q4
        rw [ho] at r4
        cases r4
      · rw [List.getElem?_set_ne n1] at q3
        rcases set_get q2 with ⟨rfl, z, hl⟩ | ⟨n2, q2⟩
        · rw [get_set_lt (by rw [S1.len]; exact hl)] at q4
          cases q4
          obtain ⟨o2, ws, r1, _, _, r4, _⟩ := S1.mu q1
          rw [r1] at q3
          cases q3
          rw [ho] at r4
          cases r4
        · rw [List.getElem?_set_ne n2] at q4
          exact S1.apart j k Fs' Es' o' hjk q1 q2 q3 q4)⟩
/-- a change of a list of the def's own -/
theorem Sta.write {G0 H0 G H : Hp} {s : L2.St} (S : Sta G0 H0 C G H s) {i : Nat} {Fs Es : List MP} {o : Addr} {vs ws : List V} (hi : C[i]? = some (.mu Fs)) (a : s[i]? = some (some (.ref o))) (h0 : H0 o = none) (g : G o = none) (p : PairG G ws Es) (nr : noRd C = true) : Sta G0 H0 (C.set i (.mu Es)) G (upd H o (.lst ws)) s := by
  refine ⟨S.ext.loose h0 g, by rw [List.length_set]; exact S.len, fun j c q => ?_, fun j k Fs' Es' o' hjk q1 q2 q3 q4 => ?_⟩
  · rcases set_get q with ⟨rfl, rfl, hl⟩ | ⟨hn, q⟩
    · exact ⟨_, a, o, ws, rfl, h0, g, upd_same, p⟩
    · obtain ⟨x, b, c'⟩ := S.at_ j c q
      refine ⟨x, b, ?_⟩
      cases c with
      | no => trivial
      | im F' => exact c'
      | mu Fs' =>
        obtain ⟨o', us, r1, r2, r3, r4, r5⟩ := c'
        subst r1
        refine ⟨o', us, rfl, r2, r3, ?_, r5⟩
        rw [upd_ne (fun z => S.apart i j Fs Fs' o hn hi q a (by rw [← z]; exact b))]
        exact r4
      | sh K' Fs' => exact c'
      | rd K' Fs' => exact (noRd_at nr q).elim
  · have h1 : ∃ Fs'', C[j]? = some (.mu Fs'') := by
      rcases set_get q1 with ⟨rfl, _, _⟩ | ⟨n1, q1⟩
      · exact ⟨_, hi⟩
      · exact ⟨_, q1⟩
    have h2 : ∃ Fs'', C[k]? = some (.mu Fs'') := by
      rcases set_get q2 with ⟨rfl, _, _⟩ | ⟨n1, q1⟩
      · exact ⟨_, hi⟩
      · exact ⟨_, q1⟩
    obtain ⟨_, h1⟩ := h1
    obtain ⟨_, h2⟩ := h2
    exact S.apart j k _ _ o' hjk h1 h2 q3 q4
theorem ex_append {K : PySem.W.Frag} {te : TE} {i : Nat} {Fs : List MP} (hi : C[i]? = some (.mu Fs)) (h : Ev te C F) (hl : Fs.length < sizeLine) (n : A.nx (C.set i (.mu (Fs ++ [F])))) (nr : noRd C = true := by rfl) : Ex (tDrop (tBM K "list" rAppend (tVar i) (tCons te tNil))) C A := fun G0 H0 G H s S D h1 _ _ _ => by
  obtain ⟨o, vs, a, h0, g, hh, p⟩ := S.mu hi
  refine ⟨_, a, .inl ⟨rfl, vs, SqL.of hh⟩, h G0 H0 G H s S _ fun G1 H1 x e p1 => ?_⟩
  have S1 := S.mono e
  obtain ⟨o', vs', a', h0', g', hh', p'⟩ := S1.mu hi
  rw [a] at a'
  cases a'
  refine ⟨o, vs', x, rfl, rfl, hh', by rw [Paired.length p']; exact hl, h1 _ G1 _ s n (S1.write (vs := vs') hi a h0 g' (p'.append (.cons p1 .nil)) nr)⟩

/-! ### What is walked -/
def Itf (J : It) (G : Hp) (Fs : List MP) : Prop := ∀ G' H', Same G G' → Same G' H' → ∀ i, (∀ F, Fs[i]? = some F → J.go i H' ∧ ∀ x H'', J.yld i H' x H'' → ∃ G'', Ext G' H' G'' H'' ∧ F.p G'' x) ∧ (i = Fs.length → J.stop i H')
def Ei (wi : TI) (C : List En) (Fs : List MP) : Prop := ∀ G0 H0 G H s, Sta G0 H0 C G H s → ∀ R : It → Hp → Prop, (∀ G' H' J, Ext G H G' H' → Itf J G' Fs → R J H') → wi s H R
theorem ei_list {K : PySem.W.Frag} {tl : TE} {Fs : List MP} (h : Ev tl C (.sq K Fs)) : Ei (iList K tl) C Fs := fun G0 H0 G H s S R r =>
  h G0 H0 G H s S _ fun G1 H1 x e1 p1 => by
    obtain ⟨a, vs, rfl, hs, hp⟩ := p1
    refine ⟨a, rfl, ⟨vs, e1.gh.seq hs⟩, r G1 H1 _ e1 fun G' H' s1 s2 i => ⟨fun F hF => ?_, fun hi => ?_⟩⟩
    · obtain ⟨v, hv, pv⟩ := hp.get hF
      refine ⟨⟨vs, v, (s1.trans s2).seq hs, hv⟩, fun x H'' y => ?_⟩
      obtain ⟨rfl, y⟩ := y
      have e := y vs ((s1.trans s2).seq hs)
      rw [hv] at e
      cases e
      exact ⟨G', Ext.refl s2, F.m s1 pv⟩
    · exact ⟨vs, (s1.trans s2).seq hs, by rw [hi, Paired.length hp]; exact Nat.le_refl _⟩
theorem itf_range (lo : Int) (n : Nat) (G : Hp) : Itf (Itr lo n) G ((List.range n).map fun i => .i (lo + (i : Nat))) := fun G' H' s1 s2 i => ⟨fun F hF => by
    have hi : i < n := by
      have := (List.getElem?_eq_some_iff.mp hF).1
      simpa using this
    rw [List.getElem?_map, List.getElem?_range hi] at hF
    cases hF
    refine ⟨hi, fun x H'' y => ?_⟩
    obtain ⟨rfl, rfl⟩ := y
    exact ⟨G', Ext.refl s2, rfl⟩, fun h => by
    subst h
    show n ≤ _
    simp⟩
theorem ei_range1 {ta : TA} {j : Int} (h : Ea ta C [.i j]) (h1 : -(2 ^ 62) ≤ j) (h2 : j < 2 ^ 62) : Ei (iRng1 ta) C ((List.range j.toNat).map fun i => .i (i : Nat)) := fun G0 H0 G H s S R r =>
  h G0 H0 G H s S _ fun G1 H1 vs e1 p1 => by
    obtain ⟨v, rfl, e⟩ := pair1 p1
    refine ⟨j, by rw [show v = V.int j from e], h1, h2, r G1 H1 _ e1 ?_⟩
    have q := itf_range 0 j.toNat G1
    simp only [Int.zero_add] at q
    exact q
theorem ei_range2 {ta : TA} {i j : Int} (h : Ea ta C [.i i, .i j]) (h1 : -(2 ^ 62) ≤ i ∧ i < 2 ^ 62 ∧ -(2 ^ 62) ≤ j ∧ j < 2 ^ 62) : Ei (iRng2 ta) C ((List.range (j - i).toNat).map fun k => .i (i + (k : Nat))) := fun G0 H0 G H s S R r =>
  h G0 H0 G H s S _ fun G1 H1 vs e1 p1 => by
    obtain ⟨v, w, rfl, e, e'⟩ := pair2 p1
    exact ⟨i, j, by rw [show v = V.int i from e, show w = V.int j from e'], h1, r G1 H1 _ e1 (itf_range i _ G1)⟩
theorem zip_get {α β : Type} {xs : List α} {ys : List β} {i : Nat} {x : α} {y : β} (h1 : xs[i]? = some x) (h2 : ys[i]? = some y) : (List.zip xs ys)[i]? = some (x, y) := by
  rw [List.getElem?_zip_eq_some]
  exact ⟨h1, h2⟩
theorem ei_zip {K : PySem.W.Frag} {ta : TA} {Fs Es : List MP} (h : Ea ta C [.sq K Fs, .sq K Es]) : Ei (iZip K ta) C (List.zipWith (fun F E => MP.tup [F, E]) Fs Es) := fun G0 H0 G H s S R r =>
  h G0 H0 G H s S _ fun G1 H1 vs e1 p1 => by
    obtain ⟨v, w, rfl, ⟨a, xs, rfl, hx, px⟩, ⟨b, ys, rfl, hy, py⟩⟩ := pair2 p1
    refine ⟨a, b, xs, ys, rfl, e1.gh.seq hx, e1.gh.seq hy, r G1 H1 _ e1 fun G' H' s1 s2 i => ⟨fun F hF => ?_, fun hi => ?_⟩⟩
    · rw [List.getElem?_zipWith] at hF
      cases q1 : Fs[i]? with
      | none => rw [q1] at hF; simp at hF
      | some F1 =>
        cases q2 : Es[i]? with
        | none => rw [q1, q2] at hF; simp at hF
        | some F2 =>
          rw [q1, q2] at hF
          cases hF
          obtain ⟨x, vx, hx1⟩ := px.get q1
          obtain ⟨y, vy, hy1⟩ := py.get q2
          refine ⟨⟨xs, ys, x, y, (s1.trans s2).seq hx, (s1.trans s2).seq hy, vx, vy⟩, fun z H'' yl => ?_⟩
          obtain ⟨T, x', y', rfl, hT, rfl, f1, f2⟩ := yl
          have ex := f1 xs ((s1.trans s2).seq hx)
          have ey := f2 ys ((s1.trans s2).seq hy)
          rw [vx] at ex
          rw [vy] at ey
          cases ex
          cases ey
          refine ⟨upd G' T (.tup [x, y]), Ext.new s2 hT, T, [x, y], rfl, upd_same, .cons ?_ (.cons ?_ .nil)⟩
          · exact F1.m (s1.trans (same_new (s2.free hT))) hx1
          · exact F2.m (s1.trans (same_new (s2.free hT))) hy1
    · refine ⟨xs, ys, (s1.trans s2).seq hx, (s1.trans s2).seq hy, ?_⟩
      rw [List.length_zipWith] at hi
      rw [Paired.length px, Paired.length py, hi]
      omega
/-- a target gets a value; js: the slots that it changes -/
def Eg (g : TG) (F : MP) (js : List Nat) (C C' : List En) : Prop := ∀ G0 H0 G H s v, Sta G0 H0 C G H s → F.p G v → ∀ Q : L2.St → Hp → Prop, (∀ s', Sta G0 H0 C' G H s' → (∀ vs : List Nat, (∀ j ∈ js, j ∈ vs) → wipe s' vs = wipe s vs) → Q s' H) → g v s H Q
theorem eg_name {i : Nat} : Eg (gName i) F [i] C (C.set i (.im F)) := fun G0 H0 G H s v S p Q q =>
  q _ (S.put p) fun vs h => wipe_set (h i List.mem_cons_self)
theorem eg_tup2 {K : PySem.W.Frag} {i j : Nat} : Eg (gTup K 2 (gCons (gName i) (gCons (gName j) gNil))) (.tup [F, E]) [i, j] C ((C.set i (.im F)).set j (.im E)) := fun G0 H0 G H s v S p Q q => by
  obtain ⟨a, vs, rfl, hs, hp⟩ := p
  obtain ⟨x, y, rfl, p1, p2⟩ := pair2 hp
  refine ⟨a, [x, y], rfl, .inl (.inl (S.gh _ _ hs)), rfl, x, [y], rfl, y, [], rfl, rfl, q _ ((S.put p1).put p2) fun vs h => ?_⟩
  rw [wipe_set (h j (by simp)), wipe_set (h i (by simp))]
theorem eg_tup3 {K : PySem.W.Frag} {F3 : MP} {i j k : Nat} : Eg (gTup K 3 (gCons (gName i) (gCons (gName j) (gCons (gName k) gNil)))) (.tup [F, E, F3]) [i, j, k] C (((C.set i (.im F)).set j (.im E)).set k (.im F3)) := fun G0 H0 G H s v S p Q q => by
  obtain ⟨a, vs, rfl, hs, hp⟩ := p
  cases hp with
  | cons p1 t =>
    rename_i x l
    obtain ⟨y, z, rfl, p2, p3⟩ := pair2 t
    refine ⟨a, [x, y, z], rfl, .inl (.inl (S.gh _ _ hs)), rfl, x, [y, z], rfl, y, [z], rfl, z, [], rfl, rfl, q _ (((S.put p1).put p2).put p3) fun vs h => ?_⟩
    rw [wipe_set (h k (by simp)), wipe_set (h j (by simp)), wipe_set (h i (by simp))]
/-- for: I holds of the environment ahead of the i-th turn -/
theorem ex_for {wi : TI} {g : TG} {tb : TS} {Fs : List MP} (I : Nat → List En → Prop) (hi : Ei wi C Fs) (h0 : I 0 C)
    (hs : ∀ (i : Nat) (F : MP) (C' : List En), Fs[i]? = some F → I i C' → ∃ js C'', Eg g F js C' C'' ∧ Ex tb C'' { nx := I (i + 1), ct := I (i + 1), bk := A.nx, rt := A.rt })
    (hd : ∀ C', I Fs.length C' → A.nx C') : Ex (tFor wi g tb) C A := fun G0 H0 G H s S D h1 h2 h3 h4 =>
  hi G0 H0 G H s S _ fun G1 H1 J e1 it => by
    refine ⟨fun i m s' H' => m = Fs.length - i ∧ i ≤ Fs.length ∧ ∃ C' G', I i C' ∧ Same G1 G' ∧ Sta G0 H0 C' G' H' s', ⟨Fs.length, by simp, Nat.zero_le _, C, G1, h0, Same.refl _, S.mono e1⟩, ?_⟩
    rintro i m s' H' ⟨rfl, hle, C', G', hI, sg, S'⟩
    obtain ⟨a, b⟩ := it G' H' sg S'.gh i
    by_cases hlt : i < Fs.length
    · obtain ⟨go, yl⟩ := a Fs[i] (List.getElem?_eq_getElem hlt)
      refine .inr ⟨go, fun s'' H'' => ∃ C'' G'', I (i + 1) C'' ∧ Same G1 G'' ∧ Sta G0 H0 C'' G'' H'' s'', fun s'' H'' ⟨C'', G'', q1, q2, q3⟩ => ⟨_, by omega, rfl, hlt, C'', G'', q1, q2, q3⟩, fun x H'' y => ?_⟩
      obtain ⟨G'', e'', px⟩ := yl x H'' y
      obtain ⟨js, C2, eg, ex⟩ := hs i Fs[i] C' (List.getElem?_eq_getElem hlt) hI
      refine eg G0 H0 G'' H'' s' x (S'.mono e'') px _ fun s2 S2 _ => ?_
      have sg2 : Same G1 G'' := sg.trans e''.g
      -- the frozen part only grows: the body's states lie over G2
      have e0 := S2.ext
      refine ex G'' H0 G'' H'' s2 S2.re _ (fun C3 G3 H3 s3 q S3 => ?_) (fun C3 G3 H3 s3 q S3 => ?_) (fun C3 G3 H3 s3 q S3 => ?_) (fun F3 G3 H3 v q e3 p3 => ?_)
      · exact ⟨C3, G3, q, sg2.trans S3.ext.g, S3.join e0⟩
      · exact h1 C3 G3 H3 s3 q (S3.join e0)
      · exact ⟨C3, G3, q, sg2.trans S3.ext.g, S3.join e0⟩
      · exact h4 F3 G3 H3 v q (e0.join e3) p3
    · have e : i = Fs.length := by omega
      exact .inl ⟨b e, h1 C' G' H' s' (hd C' (by rw [← e]; exact hI)) S'⟩
/-! ### Comprehensions -/
/-- the items that are kept -/
def kept (bs : Nat → Bool) (Es : Nat → MP) (n : Nat) : List MP := ((List.range n).filter bs).map Es
theorem kept_succ (bs : Nat → Bool) (Es : Nat → MP) (n : Nat) : kept bs Es (n + 1) = kept bs Es n ++ (if bs n = true then [Es n] else []) := by
  unfold kept
  rw [List.range_succ, List.filter_append, List.map_append]
  by_cases h : bs n = true
  · rw [if_pos h]; simp [h]
  · rw [if_neg h]; simp [h]
theorem kept_length (bs : Nat → Bool) (Es : Nat → MP) (n : Nat) : (kept bs Es n).length ≤ n := by
  unfold kept
  rw [List.length_map]
  exact Nat.le_trans (List.length_filter_le _ _) (by simp)
theorem ev_lc_if {wi : TI} {g : TG} {tt : TT} {te : TE} {vs : List Nat} {Fs : List MP} (bs : Nat → Bool) (Es : Nat → MP) (hi : Ei wi C Fs) (hl : Fs.length ≤ sizeLine)
    (hs : ∀ (i : Nat) (F : MP), Fs[i]? = some F → ∃ js C', Eg g F js (wipeE C vs) C' ∧ (∀ j ∈ js, j ∈ vs) ∧ Et tt C' (bs i) ∧ (bs i = true → Ev te C' (Es i))) : Ev (tLc wi g tt te vs) C (.lst (kept bs Es Fs.length)) := fun G0 H0 G H s S Q q =>
  hi G0 H0 G H s S _ fun G1 H1 J e1 it => fun D hD => by
    refine ⟨fun i m H' => m = Fs.length - i ∧ i ≤ Fs.length ∧ ∃ G' acc, Ext G1 H1 G' H' ∧ G' D = none ∧ H' D = some (.lst acc) ∧ PairG G' acc (kept bs Es i), ⟨Fs.length, by simp, Nat.zero_le _, G1, [], (Ext.refl e1.gh).loose hD (e1.gh.free hD), e1.gh.free hD, upd_same, .nil⟩, ?_⟩
    rintro i m H' ⟨rfl, hle, G', acc, e', gD, hD', hp⟩
    obtain ⟨a, b⟩ := it G' H' e'.g e'.gh i
    by_cases hlt : i < Fs.length
    · obtain ⟨go, yl⟩ := a Fs[i] (List.getElem?_eq_getElem hlt)
      refine .inr ⟨go, fun H'' => ∃ G'' acc, Ext G1 H1 G'' H'' ∧ G'' D = none ∧ H'' D = some (.lst acc) ∧ PairG G'' acc (kept bs Es (i + 1)), fun H'' q => ⟨_, by omega, rfl, hlt, q⟩, fun x H'' y => ?_⟩
      obtain ⟨G2, e2, px⟩ := yl x H'' y
      obtain ⟨js, C2, eg, hj, hb, he⟩ := hs i Fs[i] (List.getElem?_eq_getElem hlt)
      have S2 : Sta G0 H0 C G2 H'' s := S.mono (e1.trans (e'.trans e2 |>.trans (Ext.refl e2.gh)) |> fun z => z)
      refine eg G0 H0 G2 H'' _ x (S2.wipe vs) px _ fun s2 S3 hw => ⟨?_, ?_⟩
      · rw [hw vs hj, wipe_wipe fun _ h => h]
      refine hb G0 H0 G2 H'' s2 S3 _ fun G3 H3 e3 => ?_
      have nz : H' D ≠ none := by rw [hD']; intro z; cases z
      have e23 : Ext G' H' G3 H3 := e2.trans e3
      have ks := kept_succ bs Es i
      cases hbi : bs i with
      | false =>
        refine iteF ⟨G3, acc, e'.trans e23, e23.nw D gD nz, e23.h _ _ hD', ?_⟩
        rw [ks, hbi, if_neg Bool.false_ne_true, List.append_nil]
        exact hp.mono e23.g
      | true =>
        refine iteT (he hbi G0 H0 G3 H3 s2 (S3.mono e3) _ fun G4 H4 v e4 pv => ?_)
        have e24 : Ext G' H' G4 H4 := e23.trans e4
        have g4 := e24.nw D gD nz
        refine ⟨acc, e24.h _ _ hD', ?_, G4, acc ++ [v], (e'.trans e24).loose hD g4, g4, upd_same, ?_⟩
        · rw [Paired.length hp]
          exact Nat.lt_of_le_of_lt (kept_length bs Es i) (Nat.lt_of_lt_of_le hlt hl)
        · rw [ks, hbi, if_pos rfl]
          exact (hp.mono e24.g).append (.cons pv .nil)
    · have e : i = Fs.length := by omega
      subst e
      exact .inl ⟨b rfl, q (upd G' D (.lst acc)) H' (.ref D) (e1.trans (e'.froze hD gD hD')) ⟨D, acc, rfl, upd_same, hp.mono (same_new gD)⟩⟩
theorem kept_all (Es : Nat → MP) (n : Nat) : kept (fun _ => true) Es n = (List.range n).map Es := by
  unfold kept
  rw [List.filter_eq_self.mpr (fun _ _ => rfl)]
theorem et_yes : Et tYes C true := fun G0 H0 G H s S Q q => q G H (Ext.refl S.gh)
theorem ev_lc {wi : TI} {g : TG} {te : TE} {vs : List Nat} {Fs : List MP} (Es : Nat → MP) (hi : Ei wi C Fs) (hl : Fs.length ≤ sizeLine)
    (hs : ∀ (i : Nat) (F : MP), Fs[i]? = some F → ∃ js C', Eg g F js (wipeE C vs) C' ∧ (∀ j ∈ js, j ∈ vs) ∧ Ev te C' (Es i)) : Ev (tLc wi g tYes te vs) C (.lst ((List.range Fs.length).map Es)) := by
  have h := ev_lc_if (fun _ => true) Es hi hl (tt := tYes) (te := te) (g := g) (vs := vs) fun i F hF => by
    obtain ⟨js, C', a, b, c⟩ := hs i F hF
    exact ⟨js, C', a, b, et_yes, fun _ => c⟩
  rw [kept_all] at h
  exact h

/-! ### A def's body -/
def envOf (Fs : List MP) (n : Nat) : List En := Fs.map En.im ++ List.replicate (n - Fs.length) .no
theorem sta_start {G H : Hp} {N : List Str} {vs : List V} {Fs : List MP} (s : Same G H) (p : PairG G vs Fs) : Sta G H (envOf Fs N.length) G H (L2.start N vs) where
  ext := Ext.refl s
  len := by unfold L2.start envOf; simp only [List.length_append, List.length_map, List.length_replicate]; rw [Paired.length p]
  at_ := fun i e h => by
    unfold envOf at h
    unfold L2.start
    have l := Paired.length p
    by_cases hi : i < Fs.length
    · rw [List.getElem?_append_left (by simpa using hi), List.getElem?_map, List.getElem?_eq_getElem hi] at h
      cases h
      obtain ⟨v, hv, pv⟩ := p.get (List.getElem?_eq_getElem hi)
      refine ⟨some v, ?_, v, rfl, pv⟩
      rw [List.getElem?_append_left (by rw [List.length_map, l]; exact hi), List.getElem?_map, hv]
      rfl
    · rw [List.getElem?_append_right (by simpa using hi)] at h
      obtain ⟨hlt, e'⟩ := List.getElem?_eq_some_iff.mp h
      rw [List.getElem_replicate] at e'
      subst e'
      rw [List.length_replicate, List.length_map] at hlt
      refine ⟨none, ?_, trivial⟩
      rw [List.getElem?_append_right (by rw [List.length_map, l]; omega), List.length_map, List.getElem?_replicate, if_pos (by rw [l]; omega)]
  apart := fun i j Fs' Es' o _ h => by
    have := List.mem_of_getElem? h
    unfold envOf at this
    rcases List.mem_append.mp this with h | h
    · obtain ⟨_, _, e⟩ := List.mem_map.mp h
      cases e
    · have := List.eq_of_mem_replicate h
      cases this
/-- the body's reading, from the promise -/
theorem spF_body {B : Type} {pre : B → Prop} {args : B → List MP} {post : B → MP} {vs : List V} {H : Hp} {Q : VK} {X : XK} {N : List Str} {t : TS} (h : spF pre args post vs H Q X)
    (hb : ∀ c, pre c → Ex t (envOf (args c) N.length) { nx := fun _ => (post c).p = (MP.v .non).p, rt := fun F => F.le (post c) }) : t { nx := fun _ H' => Q .non H', rt := Q } (L2.start N vs) H := by
  obtain ⟨G, c, hc, s, p, q⟩ := h
  refine hb c hc G H G H _ (sta_start s p) _ (fun C' G' H' s' e S' => q G' H' _ S'.ext (by rw [e]; rfl)) (fun _ _ _ _ z => z.elim) (fun _ _ _ _ z => z.elim) (fun F G' H' v l e p' => q G' H' v e (l _ _ p'))
theorem spF_len {B : Type} {pre : B → Prop} {args : B → List MP} {post : B → MP} {n : Nat} (hn : ∀ c, (args c).length = n) (vs : List V) (H : Hp) (Q : VK) (X : XK) (h : spF pre args post vs H Q X) : vs.length = n := by
  obtain ⟨G, c, hc, s, p, q⟩ := h
  rw [Paired.length p, hn]
/-! ### The same over data -/
theorem range_map_get {B : Type} (xs : List B) (Em : B → MP) (d : MP) : (List.range xs.length).map (fun i => (xs[i]?.map Em).getD d) = xs.map Em := by
  refine List.ext_getElem? fun i => ?_
  rw [List.getElem?_map, List.getElem?_map]
  by_cases h : i < xs.length
  · rw [List.getElem?_range h, List.getElem?_eq_getElem h]
    show some ((xs[i]?.map Em).getD d) = some (Em xs[i])
    rw [List.getElem?_eq_getElem h]
    rfl
  · rw [List.getElem?_eq_none (by simpa using h), List.getElem?_eq_none (by simpa using h)]
    rfl
theorem ev_lc_map {B : Type} {wi : TI} {g : TG} {te : TE} {vs : List Nat} (xs : List B) (f Em : B → MP) (hi : Ei wi C (xs.map f)) (hl : xs.length ≤ sizeLine)
    (hs : ∀ x ∈ xs, ∃ js C', Eg g (f x) js (wipeE C vs) C' ∧ (∀ j ∈ js, j ∈ vs) ∧ Ev te C' (Em x)) : Ev (tLc wi g tYes te vs) C (.lst (xs.map Em)) := by
  have h := ev_lc (fun i => (xs[i]?.map Em).getD (.v .non)) hi (by rw [List.length_map]; exact hl) (te := te) (g := g) (vs := vs) fun i F hF => by
    rw [List.getElem?_map] at hF
    cases q : xs[i]? with
    | none => rw [q] at hF; simp at hF
    | some x =>
      rw [q] at hF
      cases hF
      exact hs x (List.mem_of_getElem? q)
  rw [List.length_map, range_map_get] at h
  exact h
theorem ev_lc_filter {B : Type} {wi : TI} {g : TG} {tt : TT} {te : TE} {vs : List Nat} (xs : List B) (f Em : B → MP) (p : B → Bool) (hi : Ei wi C (xs.map f)) (hl : xs.length ≤ sizeLine)
    (hs : ∀ x ∈ xs, ∃ js C', Eg g (f x) js (wipeE C vs) C' ∧ (∀ j ∈ js, j ∈ vs) ∧ Et tt C' (p x) ∧ (p x = true → Ev te C' (Em x))) : Ev (tLc wi g tt te vs) C (.lst ((xs.filter p).map Em)) := by
  have h := ev_lc_if (fun i => (xs[i]?.map p).getD false) (fun i => (xs[i]?.map Em).getD (.v .non)) hi (by rw [List.length_map]; exact hl) (tt := tt) (te := te) (g := g) (vs := vs) fun i F hF => by
    rw [List.getElem?_map] at hF
    cases q : xs[i]? with
    | none => rw [q] at hF; simp at hF
    | some x =>
      rw [q] at hF
      cases hF
      exact hs x (List.mem_of_getElem? q)
  rw [List.length_map] at h
  have e : ∀ n, n ≤ xs.length → kept (fun i => (xs[i]?.map p).getD false) (fun i => (xs[i]?.map Em).getD (.v .non)) n = ((xs.take n).filter p).map Em := by
    intro n
    induction n with
    | zero => intro _; rfl
    | succ n ih =>
      intro hn
      rw [kept_succ, ih (by omega), List.take_add_one, List.getElem?_eq_getElem (show n < xs.length by omega), List.filter_append, List.map_append]
      congr 1
      simp only [Option.map_some, Option.getD_some, Option.toList_some]
      by_cases hp : p xs[n] = true
      · rw [if_pos hp]; simp [hp]
      · rw [if_neg hp]; simp [hp]
  rw [e _ (Nat.le_refl _), List.take_length] at h
  exact h
theorem ex_for_map {B : Type} {wi : TI} {g : TG} {tb : TS} (xs : List B) (f : B → MP) (I : Nat → List En → Prop) (hi : Ei wi C (xs.map f)) (h0 : I 0 C)
    (hs : ∀ (i : Nat) (x : B) (C' : List En), xs[i]? = some x → I i C' → ∃ js C'', Eg g (f x) js C' C'' ∧ Ex tb C'' { nx := I (i + 1), ct := I (i + 1), bk := A.nx, rt := A.rt })
    (hd : ∀ C', I xs.length C' → A.nx C') : Ex (tFor wi g tb) C A :=
  ex_for I hi h0 (fun i F C' hF hI => by
    rw [List.getElem?_map] at hF
    cases q : xs[i]? with
    | none => rw [q] at hF; simp at hF
    | some x =>
      rw [q] at hF
      cases hF
      exact hs i x C' q hI) fun C' h => hd C' (by rw [List.length_map] at h; exact h)
theorem Ei.of_eq {wi : TI} {Fs Es : List MP} (h : Ei wi C Fs) (e : Fs = Es) : Ei wi C Es := e ▸ h
theorem Ev.of_eq {t : TE} (h : Ev t C F) (e : F = E) : Ev t C E := e ▸ h
theorem Ev.sq {K : PySem.W.Frag} {t : TE} {Fs : List MP} (h : Ev t C (.lst Fs)) : Ev t C (.sq K Fs) := h.le MP.le_sq
theorem pair_le {G : Hp} {B : Type} {f g : B → MP} (h : ∀ x, (f x).le (g x)) : ∀ {xs : List B} {vs : List V}, PairG G vs (xs.map f) → PairG G vs (xs.map g)
  | [], _, .nil => .nil
  | x :: xs, _, .cons a t => .cons (h x _ _ a) (pair_le h t)
theorem MP.le_lst_map {B : Type} {f g : B → MP} (h : ∀ x, (f x).le (g x)) (xs : List B) : (MP.lst (xs.map f)).le (.lst (xs.map g)) := fun _ _ ⟨a, vs, e, q, r⟩ => ⟨a, vs, e, q, pair_le h r⟩
theorem MP.le_sq_map {K : PySem.W.Frag} {B : Type} {f g : B → MP} (h : ∀ x, (f x).le (g x)) (xs : List B) : (MP.sq K (xs.map f)).le (.sq K (xs.map g)) := fun _ _ ⟨a, vs, e, q, r⟩ => ⟨a, vs, e, q, pair_le h r⟩
theorem MP.le.trans {F E E2 : MP} (a : F.le E) (b : E.le E2) : F.le E2 := fun G v h => b G v (a G v h)
theorem cutL_map {B D : Type} (f : B → D) (xs : List B) (lo hi : Option Int) : cutL (xs.map f) lo hi = (cutL xs lo hi).map f := by
  unfold cutL
  rw [List.length_map, List.map_take, List.map_drop]
/-- rows that were made here: a list of lists of ints -/
abbrev MP.row (ns : List Int) : MP := .lst (nums ns)
abbrev MP.rows (rs : List (List Int)) : MP := .lst (rs.map MP.row)
theorem MP.rows_ill {K : PySem.W.Frag} (rs : List (List Int)) : (MP.rows rs).le (.ill K rs) := (MP.le_lst_map (fun _ => MP.le_sq) rs).trans MP.le_sq
end Py

set_option Elab.async false
set_option linter.all false
set_option maxRecDepth 100000
set_option maxHeartbeats 2000000
/-! # Words over the readings: lists that still change, while, further statements -/
namespace Py
open PySem PySem.Spec PyProof.Rows L2
variable {C : List En} {F E : MP} {A : AE}
/-! ### Lists as they stand -/
def El (K : PySem.W.Frag) (t : TE) (C : List En) (Fs : List MP) : Prop := ∀ G0 H0 G H s, Sta G0 H0 C G H s → ∀ Q : VK, (∀ G' H' a vs, Ext G H G' H' → SqL K H' a vs → PairG G' vs Fs → Q (.ref a) H') → t s H Q
theorem el_ev {K : PySem.W.Frag} {t : TE} {Fs : List MP} (h : Ev t C (.sq K Fs)) : El K t C Fs := fun G0 H0 G H s S Q q =>
  h G0 H0 G H s S _ fun G' H' v e p => by
    obtain ⟨a, vs, rfl, hs, hp⟩ := p
    exact q G' H' a vs e (e.gh.seq hs) hp
theorem el_mu {K : PySem.W.Frag} {i : Nat} {Fs : List MP} (h : C[i]? = some (.mu Fs)) : El K (tVar i) C Fs := fun G0 H0 G H s S Q q => by
  obtain ⟨o, vs, a, _, _, hh, p⟩ := S.mu h
  exact ⟨_, a, q G H o vs (Ext.refl S.gh) (SqL.of hh) p⟩
theorem el_sh {K : PySem.W.Frag} {i : Nat} {Fs : List MP} (h : C[i]? = some (.sh K Fs)) : El K (tVar i) C Fs := fun G0 H0 G H s S Q q => by
  obtain ⟨x, b, o, vs, rfl, hs, p⟩ := S.at_ i _ h
  exact ⟨_, b, q G H o vs (Ext.refl S.gh) (S.ext.h.seq hs) p⟩
theorem el_rd {K : PySem.W.Frag} {i : Nat} {Fs : List MP} (h : C[i]? = some (.rd K Fs)) : El K (tVar i) C Fs := fun G0 H0 G H s S Q q => by
  obtain ⟨x, b, o, vs, rfl, hs, p⟩ := S.at_ i _ h
  exact ⟨_, b, q G H o vs (Ext.refl S.gh) hs p⟩
theorem el_if {K : PySem.W.Frag} {c : TT} {t u : TE} {b : Bool} {Fs : List MP} (h : Et c C b) (h1 : b = true → El K t C Fs) (h2 : b = false → El K u C Fs) : El K (tIf c t u) C Fs := fun G0 H0 G H s S Q q =>
  h G0 H0 G H s S _ fun G1 H1 e1 => by
    cases b with
    | true => exact iteT (h1 rfl G0 H0 G1 H1 s (S.mono e1) Q fun G2 H2 a vs e2 => q G2 H2 a vs (e1.trans e2))
    | false => exact iteF (h2 rfl G0 H0 G1 H1 s (S.mono e1) Q fun G2 H2 a vs e2 => q G2 H2 a vs (e1.trans e2))
theorem El.le {K : PySem.W.Frag} {t : TE} {Fs Es : List MP} (h : El K t C Fs) (l : ∀ G vs, PairG G vs Fs → PairG G vs Es) : El K t C Es := fun G0 H0 G H s S Q q =>
  h G0 H0 G H s S Q fun G' H' a vs e hs hp => q G' H' a vs e hs (l _ _ hp)
theorem El.of_eq {K : PySem.W.Frag} {t : TE} {Fs Es : List MP} (h : El K t C Fs) (e : Fs = Es) : El K t C Es := e ▸ h
theorem ev_ixl {K : PySem.W.Frag} {ta tb : TE} {Fs : List MP} {i : Int} (ha : El K ta C Fs) (hb : Ev tb C (.i i)) (h : atI Fs i = some F) : Ev (tOp (rIxL K) ta tb) C F := fun G0 H0 G H s S Q q =>
  ha G0 H0 G H s S _ fun G1 H1 a vs e1 hs hp => hb G0 H0 G1 H1 s (S.mono e1) _ fun G2 H2 y e2 p2 => by
    unfold atI at h
    cases hn : ixN Fs.length i with
    | none => rw [hn] at h; simp at h
    | some j =>
      rw [hn] at h
      obtain ⟨v, hv, pv⟩ := hp.get (show Fs[j]? = some F from h)
      refine ⟨a, vs, i, v, rfl, p2, e2.h.seq hs, ?_, q G2 H2 v (e1.trans e2) (F.m e2.g pv)⟩
      unfold atI
      rw [Paired.length hp, hn]
      exact hv
theorem ev_lenl {K : PySem.W.Frag} {te : TE} {Fs : List MP} (h : El K te C Fs) : Ev (tCB (rLenQ K) (tCons te tNil)) C (.i Fs.length) := fun G0 H0 G H s S Q q =>
  h G0 H0 G H s S _ fun G1 H1 a vs e1 hs hp => ⟨a, vs, rfl, .inl hs, q G1 H1 _ e1 (by rw [Paired.length hp]; rfl)⟩
theorem ev_slicel {K : PySem.W.Frag} {te : TE} {tl th : TO} {Fs : List MP} {lo hi : Option Int} (h : El K te C Fs) (h1 : Eo tl C lo) (h2 : Eo th C hi) : Ev (tSl (rSlL K) te tl th) C (.lst (cutL Fs lo hi)) := fun G0 H0 G H s S Q q =>
  h G0 H0 G H s S _ fun G1 H1 a vs e1 hs hp => h1 G0 H0 G1 H1 s (S.mono e1) _ fun G2 H2 e2 => h2 G0 H0 G2 H2 s (S.mono (e1.trans e2)) _ fun G3 H3 e3 => by
    have e : Ext G H G3 H3 := (e1.trans e2).trans e3
    refine ⟨a, vs, rfl, (e2.h.trans e3.h).seq hs, fun p hn => q (upd G3 p _) _ (.ref p) (e.trans (Ext.new e3.gh hn)) ⟨p, _, rfl, upd_same, ?_⟩⟩
    exact PairG.mono ((e2.g.trans e3.g).trans (same_new (e3.gh.free hn))) (hp.cut lo hi)
/-- list(x) -/
abbrev rListOf (K : PySem.W.Frag) : List V → Hp → VK → Prop := fun xs H Q => ∃ p ys, xs = [.ref p] ∧ (SqL K H p ys ∨ SqT K H p ys) ∧ ∀ l, H l = none → Q (.ref l) (upd H l (.lst ys))
theorem ev_list {K : PySem.W.Frag} {te : TE} {Fs : List MP} (h : El K te C Fs) : Ev (tCB (rListOf K) (tCons te tNil)) C (.lst Fs) := fun G0 H0 G H s S Q q =>
  h G0 H0 G H s S _ fun G1 H1 a vs e1 hs hp => ⟨a, vs, rfl, .inl hs, fun l hl => q (upd G1 l (.lst vs)) _ (.ref l) (e1.trans (Ext.new e1.gh hl)) ⟨l, vs, rfl, upd_same, hp.mono (same_new (e1.gh.free hl))⟩⟩
/-! ### Defs that are handed lists as they stand -/
inductive AP where
  | f (F : MP)
  | l (K : PySem.W.Frag) (Fs : List MP)
def AP.p (G H : Hp) : AP → V → Prop
  | .f F, v => F.p G v
  | .l K Fs, v => ∃ a vs, v = .ref a ∧ SqL K H a vs ∧ PairG G vs Fs
theorem AP.mono {G H G' H' : Hp} (e : Ext G H G' H') : ∀ {a : AP} {v : V}, a.p G H v → a.p G' H' v
  | .f F, _, h => F.m e.g h
  | .l K Fs, _, ⟨a, vs, x, y, z⟩ => ⟨a, vs, x, e.h.seq y, z.mono e.g⟩
abbrev PairA (G H : Hp) (vs : List V) (As : List AP) : Prop := Paired (fun (x : V) (a : AP) => a.p G H x) vs As
theorem PairA.mono {G H G' H' : Hp} (e : Ext G H G' H') : ∀ {vs : List V} {As : List AP}, PairA G H vs As → PairA G' H' vs As
  | _, _, .nil => .nil
  | _, _, .cons a t => .cons (AP.mono e a) (PairA.mono e t)
def Eb (t : TA) (C : List En) (As : List AP) : Prop := ∀ G0 H0 G H s, Sta G0 H0 C G H s → ∀ Q : List V → Hp → Prop, (∀ G' H' vs, Ext G H G' H' → PairA G' H' vs As → Q vs H') → t s H Q
theorem eb_nil : Eb tNil C [] := fun G0 H0 G H s S Q q => q G H [] (Ext.refl S.gh) .nil
theorem eb_f {te : TE} {tr : TA} {As : List AP} (h1 : Ev te C F) (h2 : Eb tr C As) : Eb (tCons te tr) C (.f F :: As) := fun G0 H0 G H s S Q q =>
  h1 G0 H0 G H s S _ fun G1 H1 x e1 p1 => h2 G0 H0 G1 H1 s (S.mono e1) _ fun G2 H2 xs e2 p2 => q G2 H2 (x :: xs) (e1.trans e2) (.cons (F.m e2.g p1) p2)
theorem eb_l {K : PySem.W.Frag} {te : TE} {tr : TA} {Fs : List MP} {As : List AP} (h1 : El K te C Fs) (h2 : Eb tr C As) : Eb (tCons te tr) C (.l K Fs :: As) := fun G0 H0 G H s S Q q =>
  h1 G0 H0 G H s S _ fun G1 H1 a vs e1 hs hp => h2 G0 H0 G1 H1 s (S.mono e1) _ fun G2 H2 xs e2 p2 => q G2 H2 (.ref a :: xs) (e1.trans e2) (.cons ⟨a, vs, rfl, e2.h.seq hs, hp.mono e2.g⟩ p2)
def spG {B : Type} (pre : B → Prop) (args : B → List AP) (post : B → MP) : Sp := fun vs H Q _ => ∃ G c, pre c ∧ Same G H ∧ PairA G H vs (args c) ∧ ∀ G' H' v, Ext G H G' H' → (post c).p G' v → Q v H'
theorem ev_callG {B : Type} {pre : B → Prop} {args : B → List AP} {post : B → MP} {X : XK} {t : TA} (c : B) (h : Eb t C (args c)) (hp : pre c) : Ev (tCall (spG pre args post) [] X t) C (post c) := fun G0 H0 G H s S Q q =>
  h G0 H0 G H s S _ fun G1 H1 vs e1 p1 => by
    show spG pre args post (vs ++ []) H1 Q X
    rw [List.append_nil]
    exact ⟨G1, c, hp, e1.gh, p1, fun G' H' v e p => q G' H' v (e1.trans e) p⟩
def AP.en : AP → En
  | .f F => .im F
  | .l K Fs => .sh K Fs
def envA (As : List AP) (n : Nat) : List En := As.map AP.en ++ List.replicate (n - As.length) .no
theorem PairA.get {G H : Hp} : ∀ {vs : List V} {As : List AP} {i : Nat} {a : AP}, PairA G H vs As → As[i]? = some a → ∃ v, vs[i]? = some v ∧ a.p G H v
  | _, _, 0, _, .cons h _, e => by cases e; exact ⟨_, rfl, h⟩
  | _, _, i + 1, _, .cons _ t, e => PairA.get (i := i) t e
  | _, _, 0, _, .nil, e => by cases e
  | _, _, i + 1, _, .nil, e => by cases e
theorem sta_startA {G H : Hp} {N : List Str} {vs : List V} {As : List AP} (s : Same G H) (p : PairA G H vs As) : Sta G H (envA As N.length) G H (L2.start N vs) where
  ext := Ext.refl s
  len := by unfold L2.start envA; simp only [List.length_append, List.length_map, List.length_replicate]; rw [Paired.length p]
  at_ := fun i e h => by
    unfold envA at h
    unfold L2.start
    have l := Paired.length p
    by_cases hi : i < As.length
    · rw [List.getElem?_append_left (by simpa using hi), List.getElem?_map, List.getElem?_eq_getElem hi] at h
      cases h
      obtain ⟨v, hv, pv⟩ := p.get (List.getElem?_eq_getElem hi)
      refine ⟨some v, ?_, ?_⟩
      · rw [List.getElem?_append_left (by rw [List.length_map, l]; exact hi), List.getElem?_map, hv]
        rfl
      · generalize As[i] = a at pv
        cases a with
        | f F => exact ⟨v, rfl, pv⟩
        | l K Fs =>
          obtain ⟨o, ws, rfl, q1, q2⟩ := pv
          exact ⟨o, ws, rfl, q1, q2⟩
    · rw [List.getElem?_append_right (by simpa using hi)] at h
      obtain ⟨hlt, e'⟩ := List.getElem?_eq_some_iff.mp h
      rw [List.getElem_replicate] at e'
      subst e'
      rw [List.length_replicate, List.length_map] at hlt
      refine ⟨none, ?_, trivial⟩
      rw [List.getElem?_append_right (by rw [List.length_map, l]; omega), List.length_map, List.getElem?_replicate, if_pos (by rw [l]; omega)]
  apart := fun i j Fs' Es' o _ h => by
    have := List.mem_of_getElem? h
    unfold envA at this
    rcases List.mem_append.mp this with h | h
    · obtain ⟨a, _, e⟩ := List.mem_map.mp h
      cases a <;> cases e
    · cases (List.mem_replicate.mp h).2
theorem spG_body {B : Type} {pre : B → Prop} {args : B → List AP} {post : B → MP} {vs : List V} {H : Hp} {Q : VK} {X : XK} {N : List Str} {t : TS} (h : spG pre args post vs H Q X)
    (hb : ∀ c, pre c → Ex t (envA (args c) N.length) { nx := fun _ => (post c).p = (MP.v .non).p, rt := fun F => F.le (post c) }) : t { nx := fun _ H' => Q .non H', rt := Q } (L2.start N vs) H := by
  obtain ⟨G, c, hc, s, p, q⟩ := h
  refine hb c hc G H G H _ (sta_startA s p) _ (fun C' G' H' s' e S' => q G' H' _ S'.ext (by rw [e]; rfl)) (fun _ _ _ _ z => z.elim) (fun _ _ _ _ z => z.elim) (fun F G' H' v l e p' => q G' H' v e (l _ _ p'))
theorem spG_len {B : Type} {pre : B → Prop} {args : B → List AP} {post : B → MP} {n : Nat} (hn : ∀ c, (args c).length = n) (vs : List V) (H : Hp) (Q : VK) (X : XK) (h : spG pre args post vs H Q X) : vs.length = n := by
  obtain ⟨G, c, _, _, p, _⟩ := h
  rw [Paired.length p]; exact hn c
/-! ### Statements -/
/-- while: I holds of the measure and the environment ahead of each turn -/
theorem ex_while {c : TT} {tb : TS} (I : Nat → List En → Prop) (m0 : Nat) (h0 : I m0 C)
    (hs : ∀ (m : Nat) (C' : List En), I m C' → ∃ b, Et c C' b ∧ (b = true → Ex tb C' { nx := fun C2 => ∃ m', m' < m ∧ I m' C2, ct := fun C2 => ∃ m', m' < m ∧ I m' C2, bk := A.nx, rt := A.rt }) ∧ (b = false → A.nx C')) : Ex (tWhile c tb) C A := fun G0 H0 G H s S D h1 h2 h3 h4 => by
  refine ⟨fun m s' H' => ∃ C' G', I m C' ∧ Same G G' ∧ Sta G0 H0 C' G' H' s', ⟨m0, C, G, h0, Same.refl _, S⟩, ?_⟩
  rintro m s' H' ⟨C', G', hI, sg, S'⟩
  obtain ⟨b, he, ht, hf⟩ := hs m C' hI
  refine he G0 H0 G' H' s' S' _ fun G1 H1 e1 => ?_
  have S1 := S'.mono e1
  cases b with
  | true =>
    refine iteT ⟨fun s2 H2 => ∃ m', m' < m ∧ ∃ C2 G2, I m' C2 ∧ Same G G2 ∧ Sta G0 H0 C2 G2 H2 s2, fun s2 H2 ⟨m', q1, q2⟩ => ⟨m', q1, q2⟩, ?_⟩
    have e0 := S1.ext
    refine ht rfl G1 H0 G1 H1 s' S1.re _ (fun C3 G3 H3 s3 q S3 => ?_) (fun C3 G3 H3 s3 q S3 => ?_) (fun C3 G3 H3 s3 q S3 => ?_) (fun F3 G3 H3 v q e3 p3 => ?_)
    · obtain ⟨m', q1, q2⟩ := q
      exact ⟨m', q1, C3, G3, q2, (sg.trans e1.g).trans S3.ext.g, S3.join e0⟩
    · exact h1 C3 G3 H3 s3 q (S3.join e0)
    · obtain ⟨m', q1, q2⟩ := q
      exact ⟨m', q1, C3, G3, q2, (sg.trans e1.g).trans S3.ext.g, S3.join e0⟩
    · exact h4 F3 G3 H3 v q (e0.join e3) p3
  | false => exact iteF (h1 C' G1 H1 s' (hf rfl) S1)
/-- xs[i] = e, a list of the def's own -/
theorem ex_store {te ti : TE} {i j : Nat} {k : Int} {Fs : List MP} (hi : C[i]? = some (.mu Fs)) (h : Ev te C F) (h2 : Ev ti C (.i k)) (hj : ixN Fs.length k = some j) (n : A.nx (C.set i (.mu (Fs.set j F)))) (nr : noRd C = true := by rfl) : Ex (tAsg te (gSub (tVar i) ti rSetL)) C A := fun G0 H0 G H s S D h1 _ _ _ => by
  obtain ⟨o, vs, a, h0, _, _, _⟩ := S.mu hi
  refine h G0 H0 G H s S _ fun G1 H1 x e1 p1 => ⟨_, a, h2 G0 H0 G1 H1 s (S.mono e1) _ fun G2 H2 y e2 p2 => ?_⟩
  have S2 := (S.mono e1).mono e2
  obtain ⟨o', vs', a', h0', g', hh', p'⟩ := S2.mu hi
  rw [a] at a'
  cases a'
  exact ⟨o, vs', k, j, rfl, p2, hh', by rw [Paired.length p']; exact hj, h1 _ G2 _ s n (S2.write (vs := vs') hi a h0 g' (p'.set (F.m e2.g p1) j) nr)⟩
/-- x op= e, whole numbers -/
theorem ex_aug {f : Int → Int → Int} {te : TE} {i : Nat} {x y : Int} (hi : C[i]? = some (.im (.i x))) (h : Ev te C (.i y)) (n : A.nx (C.set i (.im (.i (f x y))))) : Ex (tAug i te (ipI f)) C A := fun G0 H0 G H s S D h1 _ _ _ => by
  obtain ⟨v, a, rfl⟩ := S.im hi
  exact ⟨_, a, h G0 H0 G H s S _ fun G1 H1 w e p => ⟨x, y, rfl, p, h1 _ G1 H1 _ n ((S.mono e).put rfl)⟩⟩
theorem ex_augR {R : Int → Int → Prop} {g : Int → Int → Int} {te : TE} {i : Nat} {x y : Int} (hi : C[i]? = some (.im (.i x))) (h : Ev te C (.i y)) (r : R x y) (n : A.nx (C.set i (.im (.i (g x y))))) : Ex (tAug i te (rI R fun i j => .int (g i j))) C A := fun G0 H0 G H s S D h1 _ _ _ => by
  obtain ⟨v, a, rfl⟩ := S.im hi
  exact ⟨_, a, h G0 H0 G H s S _ fun G1 H1 w e p => ⟨x, y, rfl, p, r, h1 _ G1 H1 _ n ((S.mono e).put rfl)⟩⟩
/-- a name of a list as it stands -/
theorem Sta.putRd {G0 H0 G H : Hp} {s : L2.St} (S : Sta G0 H0 C G H s) {i : Nat} {K : PySem.W.Frag} {Fs : List MP} {o : Addr} {vs : List V} (hs : SqL K H o vs) (p : PairG G vs Fs) : Sta G0 H0 (C.set i (.rd K Fs)) G H (s.set i (some (.ref o))) where
  ext := S.ext
  len := by rw [List.length_set, List.length_set]; exact S.len
  at_ := fun j c q => by
    rcases set_get q with ⟨rfl, rfl, hl⟩ | ⟨hn, q⟩
    · exact ⟨_, get_set_lt (by rw [S.len]; exact hl), o, vs, rfl, hs, p⟩
    · obtain ⟨x, b, c'⟩ := S.at_ j c q
      exact ⟨x, by rw [List.getElem?_set_ne hn]; exact b, c'⟩
  apart := fun j k Fs' Es' o' hjk q1 q2 q3 q4 => by
    rcases set_get q1 with ⟨_, z, _⟩ | ⟨n1, q1⟩
    · cases z
    rcases set_get q2 with ⟨_, z, _⟩ | ⟨n2, q2⟩
    · cases z
    rw [List.getElem?_set_ne n1] at q3
    rw [List.getElem?_set_ne n2] at q4
    exact S.apart j k Fs' Es' o' hjk q1 q2 q3 q4
theorem ex_setl {K : PySem.W.Frag} {te : TE} {i : Nat} {Fs : List MP} (h : El K te C Fs) (n : A.nx (C.set i (.rd K Fs))) : Ex (tAsg te (gName i)) C A := fun G0 H0 G H s S D h1 _ _ _ =>
  h G0 H0 G H s S _ fun G1 H1 o vs e hs hp => h1 _ G1 H1 _ n ((S.mono e).putRd hs hp)
/-- what a name holds is no longer asked -/
theorem Sta.drop {G0 H0 G H : Hp} {s : L2.St} (S : Sta G0 H0 C G H s) (i : Nat) : Sta G0 H0 (C.set i .no) G H s where
  ext := S.ext
  len := by rw [List.length_set]; exact S.len
  at_ := fun j c q => by
    rcases set_get q with ⟨rfl, rfl, hl⟩ | ⟨hn, q⟩
    · obtain ⟨x, b, _⟩ := S.at_ i C[i] (List.getElem?_eq_getElem hl)
      exact ⟨x, b, trivial⟩
    · exact S.at_ j c q
  apart := fun j k Fs' Es' o' hjk q1 q2 q3 q4 => by
    rcases set_get q1 with ⟨_, z, _⟩ | ⟨n1, q1⟩
    · cases z
    rcases set_get q2 with ⟨_, z, _⟩ | ⟨n2, q2⟩
    · cases z
    exact S.apart j k Fs' Es' o' hjk q1 q2 q3 q4
theorem ex_forget {t : TS} (i : Nat) (h : Ex t (C.set i .no) A) : Ex t C A := fun G0 H0 G H s S D => h G0 H0 G H s (S.drop i) D
/-- name = list(..), .., a new list that is to change -/
theorem ex_newv {te : TE} {i : Nat} {Fs : List MP} (h : ∀ G0 H0 G H s, Sta G0 H0 C G H s → ∀ Q : VK, (∀ G' H' vs o, Ext G H G' H' → PairG G' vs Fs → H' o = none → Q (.ref o) (upd H' o (.lst vs))) → te s H Q) (n : A.nx (C.set i (.mu Fs))) : Ex (tAsg te (gName i)) C A := fun G0 H0 G H s S D h1 _ _ _ =>
  h G0 H0 G H s S _ fun G1 H1 vs o e p ho => h1 _ G1 (upd H1 o (.lst vs)) _ n (by
    have S1 := S.mono e
    have g0 : H0 o = none := S1.ext.h.free ho
    have g1 : G1 o = none := e.gh.free ho
    refine ⟨S1.ext.loose g0 g1, by rw [List.length_set, List.length_set]; exact S1.len, fun j c q => ?_, fun j k Fs' Es' o' hjk q1 q2 q3 q4 => ?_⟩
    · rcases set_get q with ⟨rfl, rfl, hl⟩ | ⟨hn, q⟩
      · exact ⟨_, get_set_lt (by rw [S1.len]; exact hl), o, vs, rfl, g0, g1, upd_same, p⟩
      · obtain ⟨x, b, c'⟩ := S1.at_ j c q
        refine ⟨x, by rw [List.getElem?_set_ne hn]; exact b, ?_⟩
        cases c with
        | no => trivial
        | im F' => exact c'
        | mu Fs' =>
          obtain ⟨o', ws, r1, r2, r3, r4, r5⟩ := c'
          exact ⟨o', ws, r1, r2, r3, by rw [upd_ne (ne_of_none r4 ho)]; exact r4, r5⟩
        | sh K' Fs' => exact c'
        | rd K' Fs' =>
          obtain ⟨o', ws, r1, r2, r3⟩ := c'
          exact ⟨o', ws, r1, (same_new ho).seq r2, r3⟩
    · rcases set_get q1 with ⟨rfl, z, hl⟩ | ⟨n1, q1⟩
      · rw [get_set_lt (by rw [S1.len]; exact hl)] at q3
        cases q3
        rcases set_get q2 with ⟨rfl, _, _⟩ | ⟨n2, q2⟩
        · exact hjk rfl
        rw [List.getElem?_set_ne n2] at q4
        obtain ⟨o2, ws, r1, _, _, r4, _⟩ := S1.mu q2
        rw [r1] at q4
        cases q4
        rw [ho] at r4
        cases r4
      · rw [List.getElem?_set_ne n1] at q3
        rcases set_get q2 with ⟨rfl, z, hl⟩ | ⟨n2, q2⟩
        · rw [get_set_lt (by rw [S1.len]; exact hl)] at q4
          cases q4
          obtain ⟨o2, ws, r1, _, _, r4, _⟩ := S1.mu q1
          rw [r1] at q3
          cases q3
          rw [ho] at r4
          cases r4
        · rw [List.getElem?_set_ne n2] at q4
          exact S1.apart j k Fs' Es' o' hjk q1 q2 q3 q4)
theorem ex_list {K : PySem.W.Frag} {te : TE} {i : Nat} {Fs : List MP} (h : El K te C Fs) (n : A.nx (C.set i (.mu Fs))) : Ex (tAsg (tCB (rListOf K) (tCons te tNil)) (gName i)) C A :=
  ex_newv (fun G0 H0 G H s S Q q => h G0 H0 G H s S _ fun G1 H1 a vs e hs hp => ⟨a, vs, rfl, .inl hs, fun l hl => q G1 H1 vs l e hp hl⟩) n
theorem ex_extend {K : PySem.W.Frag} {te : TE} {i : Nat} {Fs Es : List MP} (hi : C[i]? = some (.mu Fs)) (h : Ev te C (.lst Es)) (hl : Fs.length + Es.length ≤ sizeLine) (n : A.nx (C.set i (.mu (Fs ++ Es)))) (nr : noRd C = true := by rfl) : Ex (tDrop (tBM K "list" rExtend (tVar i) (tCons te tNil))) C A := fun G0 H0 G H s S D h1 _ _ _ => by
  obtain ⟨o, vs, a, h0, g, hh, p⟩ := S.mu hi
  refine ⟨_, a, .inl ⟨rfl, vs, SqL.of hh⟩, h G0 H0 G H s S _ fun G1 H1 x e p1 => ?_⟩
  have S1 := S.mono e
  obtain ⟨o', vs', a', h0', g', hh', p'⟩ := S1.mu hi
  rw [a] at a'
  cases a'
  obtain ⟨b, ws, rfl, hb, pw⟩ := p1
  refine ⟨o, b, vs', ws, rfl, rfl, hh', e.gh _ _ hb, by rw [Paired.length p', Paired.length pw]; exact hl, h1 _ G1 _ s n (S1.write (vs := vs') hi a h0 g' (p'.append pw) nr)⟩
/-! ### range(a, b, -1), max, ** -/
theorem itf_down (lo : Int) (n : Nat) (G : Hp) : Itf (Itc lo (-1) n) G ((List.range n).map fun i => .i (lo - (i : Nat))) := fun G' H' s1 s2 i => ⟨fun F hF => by
    have hi : i < n := by
      have := (List.getElem?_eq_some_iff.mp hF).1
      simpa using this
    rw [List.getElem?_map, List.getElem?_range hi] at hF
    cases hF
    refine ⟨hi, fun x H'' y => ?_⟩
    obtain ⟨rfl, rfl⟩ := y
    refine ⟨G', Ext.refl s2, ?_⟩
    show V.int _ = V.int _
    congr 1; omega, fun h => by
    subst h
    show n ≤ _
    simp⟩
theorem ei_down {ta : TA} {i j : Int} (h : Ea ta C [.i i, .i j, .i (-1)]) (h1 : -(2 ^ 62) ≤ i ∧ i < 2 ^ 62 ∧ -(2 ^ 62) ≤ j ∧ j < 2 ^ 62) : Ei (iRng3 ta) C ((List.range (i - j).toNat).map fun k => .i (i - (k : Nat))) := fun G0 H0 G H s S R r =>
  h G0 H0 G H s S _ fun G1 H1 vs e1 p1 => by
    cases p1 with
    | cons a t =>
      obtain ⟨v, w, rfl, e, e'⟩ := pair2 t
      exact ⟨i, j, -1, (i - j).toNat, by rw [show _ = V.int i from a, show v = V.int j from e, show w = V.int (-1) from e'], RgC.neg h1.1 h1.2.1 h1.2.2.1 h1.2.2.2, r G1 H1 _ e1 (itf_down i _ G1)⟩
theorem ev_max2 {t : TA} {m n : Int} (h : Ea t C [.i m, .i n]) : Ev (tCB (fun xs H Q => ∃ i j, xs = [V.int i, V.int j] ∧ Q (.int (if j > i then j else i)) H) t) C (.i (max m n)) :=
  ev_cb h fun G H vs s p Q q => by
    obtain ⟨v, w, rfl, e, e'⟩ := pair2 p
    refine ⟨m, n, by rw [show v = V.int m from e, show w = V.int n from e'], q G H _ (Ext.refl s) ?_⟩
    show V.int _ = V.int _
    congr 1; omega
/-- ** of great numbers -/
def CPowW (i j : Int) : Prop := 0 ≤ j ∧ (Builtin.Int.intBits i : Int) * j ≤ 2 ^ 27
theorem op_powW {X : Cx} : OpR X (binaryOp .Pow) (rI CPowW fun i j => .int (i ^ j.toNat)) := opI fun _ _ _ _ _ _ _ hc q => pow_int hc.1 hc.2 q
theorem wide_pow2 {i : Int} {a : Nat} (h : i.natAbs < 2 ^ a) (h0 : 0 < a) (ha : a ≤ 1000000) : CPowW i 2 := by
  have x := PySem.Flt.log2_lt_of h0 h
  refine ⟨by decide, ?_⟩
  have b : Builtin.Int.intBits i ≤ i.natAbs.log2 + 1 := by
    unfold Builtin.Int.intBits
    split <;> omega
  omega
def dropE (C : List En) : List Nat → List En
  | [] => C
  | i :: is => dropE (C.set i .no) is
theorem Sta.drops {G0 H0 G H : Hp} {s : L2.St} : ∀ {is : List Nat} {C : List En}, Sta G0 H0 C G H s → Sta G0 H0 (dropE C is) G H s
  | [], _, S => S
  | i :: is, _, S => Sta.drops (is := is) (S.drop i)
/-- what some names hold is no longer asked behind a statement -/
theorem ex_nxdrop {t : TS} (is : List Nat) (h : Ex t C { A with nx := fun C' => A.nx (dropE C' is) }) : Ex t C A := fun G0 H0 G H s S D h1 h2 h3 h4 =>
  h G0 H0 G H s S D (fun C' G' H' s' q S' => h1 _ G' H' s' q S'.drops) h2 h3 h4
end Py

set_option Elab.async false
set_option linter.all false
set_option maxRecDepth 100000
set_option maxHeartbeats 2000000
/-! # Lists of whole numbers in their order: >, min -/
namespace Py
open PySem PySem.Spec PyProof.Rows L2
section
variable {X : Cx}
def rowD (ns : List Int) : PyData := .list (ns.map PyData.int)
theorem dp_ints {K : PySem.W.Frag} {H : Hp} : ∀ ns : List Int, DpAll K H (ns.map V.int) (ns.map PyData.int)
  | [] => .nil
  | n :: ns => .cons (.int n) (dp_ints ns)
theorem alike_ints : ∀ ns ms : List Int, PySem.W.alikeAll (ns.map PyData.int) (ms.map PyData.int) = true
  | [], _ => by cases ‹List Int› <;> rfl
  | _ :: _, [] => rfl
  | n :: ns, m :: ms => by
    have := alike_ints ns ms
    simp [PySem.W.alikeAll, PySem.W.alike, this]
theorem depth_ints : ∀ ns : List Int, PyData.depthAll (ns.map PyData.int) = 0
  | [] => rfl
  | n :: ns => by
    show max (PyData.depth (.int n)) (PyData.depthAll (ns.map PyData.int)) = 0
    rw [depth_ints ns]; rfl
theorem lt_ints (ns ms : List Int) : PySem.W.dataLt (rowD ns) (rowD ms) = decide (ns < ms) := (PySem.W.dataLt_list _ _).trans (PySem.W.dataLt_ints ns ms)
theorem Dp.row {K : PySem.W.Frag} {H : Hp} {a : Addr} {ns : List Int} (h : SqL K H a (ns.map V.int)) : Dp K H (.ref a) (rowD ns) := .lst h (dp_ints ns)
theorem rowD_depth (ns : List Int) : (rowD ns).depth = 1 := by
  show PyData.depthAll (ns.map PyData.int) + 1 = 1
  rw [depth_ints]
/-- x > y, two lists of whole numbers -/
def rGtL (K : PySem.W.Frag) : R2 := fun x y H Q => ∃ (a b : Addr) (ns ms : List Int), x = .ref a ∧ y = .ref b ∧ SqL K H a (ns.map V.int) ∧ SqL K H b (ms.map V.int) ∧ Q (.bl (decide (ms < ns))) H
theorem op_gtL (hu : X.A.units + 64 < cLine) : OpR X (compareOp .Gt) (rGtL X.K) := by
  intro pins s σ H x y v u Q I rx ry h
  obtain ⟨a, b, ns, ms, rfl, rfl, ha, hb, q⟩ := h
  obtain ⟨as, r1⟩ := Dp.reads I (rowD ns) (.ref a) v (Dp.row ha) rx
  obtain ⟨bs, r2⟩ := Dp.reads I (rowD ms) (.ref b) u (Dp.row hb) ry
  refine PySem.W.gt_data r1 r2 (alike_ints ns ms) (fun z => by cases z) (by rw [rowD_depth, rowD_depth]; omega) ⟨.bl _, H, I, rfl, ?_⟩
  rw [lt_ints]; exact q
/-! the least of some lists -/
theorem fold_least : ∀ (rs : List (List Int)) (r : List Int), ∃ m, (m = r ∨ m ∈ rs) ∧ (rs.map rowD).foldl (fun a y => if PySem.W.dataLt y a then y else a) (rowD r) = rowD m ∧ (∀ y, y ∈ rs → ¬ y < m) ∧ ∀ y, ¬ y < r → ¬ y < m
  | [], r => ⟨r, .inl rfl, rfl, fun y hy => by simp at hy, fun y h => h⟩
  | x :: rs, r => by
    rw [List.map_cons, List.foldl_cons, lt_ints]
    by_cases c : x < r
    · rw [if_pos (by simpa using c)]
      obtain ⟨m, h1, h2, h3, h4⟩ := fold_least rs x
      refine ⟨m, .inr ?_, h2, fun y hy => ?_, fun y hy => h4 y fun z => hy (List.lt_trans z c)⟩
      · rcases h1 with h1 | h1
        · rw [h1]; exact List.mem_cons_self ..
        · exact List.mem_cons_of_mem _ h1
      · rcases List.mem_cons.1 hy with e | e
        · subst e; exact h4 y (List.lt_irrefl y)
        · exact h3 y e
    · rw [if_neg (by simpa using c)]
      obtain ⟨m, h1, h2, h3, h4⟩ := fold_least rs r
      refine ⟨m, ?_, h2, fun y hy => ?_, h4⟩
      · rcases h1 with h1 | h1
        · exact .inl h1
        · exact .inr (List.mem_cons_of_mem _ h1)
      · rcases List.mem_cons.1 hy with e | e
        · subst e; exact h4 y c
        · exact h3 y e
theorem depth_rows : ∀ rs : List (List Int), PyData.depthAll (rs.map rowD) ≤ 1
  | [] => Nat.zero_le _
  | r :: rs => by
    have := depth_rows rs
    show max (rowD r).depth (PyData.depthAll (rs.map rowD)) ≤ 1
    rw [rowD_depth]; omega
abbrev RowAt (K : PySem.W.Frag) (H : Hp) (x : V) (r : List Int) : Prop := ∃ b, x = .ref b ∧ SqL K H b (r.map V.int)
theorem dp_rows {K : PySem.W.Frag} {H : Hp} : ∀ {xs : List V} {rs : List (List Int)}, Paired (RowAt K H) xs rs → DpAll K H xs (rs.map rowD)
  | _, _, .nil => .nil
  | _, _, .cons ⟨b, e, h⟩ t => .cons (e ▸ Dp.row h) (dp_rows t)
/-- min(xs), xs a list of lists of whole numbers: the item itself -/
def rMinL (K : PySem.W.Frag) : List V → Hp → VK → Prop := fun vs H Q => ∃ (a : Addr) (xs : List V) (rs : List (List Int)), vs = [.ref a] ∧ SqL K H a xs ∧ Paired (RowAt K H) xs rs ∧ rs ≠ [] ∧
  ∀ (i : Nat) x r, xs[i]? = some x → rs[i]? = some r → (∀ y, y ∈ rs → ¬ y < r) → Q x H
theorem reads_get {h : Heap} : ∀ {us : List Value} {ds : List PyData} {as : List Addr}, ReadsAll h us ds as → ∀ {i : Nat} {u : Value}, us[i]? = some u → ∃ d bs, ds[i]? = some d ∧ Reads h u d bs
  | _, _, _, .nil, i, u, e => by simp at e
  | _, _, _, .cons r t, 0, u, e => by
    have e := Option.some.inj (show some _ = some u from e)
    subst e; exact ⟨_, _, rfl, r⟩
  | _, _, _, .cons r t, i + 1, u, e => reads_get t (i := i) (by simpa using e)
theorem vals_get : ∀ {xs : List V} {us : List Value}, Vals xs us → ∀ {i : Nat} {u : Value}, us[i]? = some u → ∃ x, xs[i]? = some x ∧ RelV x u
  | _, _, .nil, i, u, e => by simp at e
  | _, _, .cons r t, 0, u, e => by
    have e := Option.some.inj (show some _ = some u from e)
    subst e; exact ⟨_, rfl, r⟩
  | _, _, .cons r t, i + 1, u, e => vals_get t (i := i) (by simpa using e)
theorem cr_minL (hc : X.calm = true) (hu : X.A.units + 64 < cLine) : CallR X (.builtin "min") (rMinL X.K) := by
  intro pins s σ H vs us Q I r h
  obtain ⟨a, xs, rs, rfl, hs, hp, hne, q⟩ := h
  obtain ⟨its, rv, hl, _⟩ := I.list hs
  rw [Vals.ref1 r]
  obtain ⟨as, ra⟩ := Dp.readsAll I (rs.map rowD) xs its (dp_rows hp) rv
  obtain ⟨r0, rs', rfl⟩ : ∃ r0 rs', rs = r0 :: rs' := by
    cases rs with
    | nil => exact absurd rfl hne
    | cons r0 rs' => exact ⟨r0, rs', rfl⟩
  have al : PySem.W.AlikeAll ((r0 :: rs').map rowD) := ⟨fun x hx y hy => by
    obtain ⟨m, _, rfl⟩ := List.mem_map.1 hx
    obtain ⟨n, _, rfl⟩ := List.mem_map.1 hy
    exact alike_ints m n, fun x hx z => by
    obtain ⟨m, _, rfl⟩ := List.mem_map.1 hx
    cases z⟩
  have dr := depth_rows (r0 :: rs')
  refine PySem.W.min_list_data (I.ok.hd hc) hl.isList (show ReadsAll s.heap its.toArray.toList (rowD r0 :: rs'.map rowD) as by simpa using ra) al (by
    have : PyData.depthAll (rowD r0 :: rs'.map rowD) ≤ 1 := dr
    omega) fun i v h' tk bs hi hr hk => ?_
  have hi : its[i]? = some v := by simpa using hi
  obtain ⟨x, hx, rx⟩ := vals_get rv hi
  obtain ⟨d, cs, hd, rd⟩ := reads_get ra hi
  obtain ⟨m, m1, m2, m3, m4⟩ := fold_least rs' r0
  have e : d = rowD m := by
    have := (Reads.unique (PyProof.Rows.Reads.keeps hk rd) _ _ hr).1
    rw [this]; exact m2
  rw [List.getElem?_map] at hd
  cases hri : (r0 :: rs')[i]? with
  | none => rw [hri] at hd; simp at hd
  | some r =>
    rw [hri] at hd
    have hd : rowD r = d := Option.some.inj hd
    have : r = m := by
      have e2 : rowD r = rowD m := hd.trans e
      unfold rowD at e2
      injection e2 with e2
      exact (List.map_inj_right fun a b z => by injection z).1 e2
    subst this
    refine ⟨x, H, I.kept hk, rx, q i x r hx hri fun y hy => ?_⟩
    rcases List.mem_cons.1 hy with z | z
    · subst z; exact m4 y (List.lt_irrefl y)
    · exact m3 y z
variable {C : List En}
theorem ev_gtL {K : PySem.W.Frag} {ta tb : TE} {ns ms : List Int} (ha : Ev ta C (.il K ns)) (hb : Ev tb C (.il K ms)) : Ev (tOp (rGtL K) ta tb) C (.b (decide (ms < ns))) :=
  ev_op2 ha hb fun G H x y s p1 p2 Q q => by
    obtain ⟨a, vs, rfl, hs, hp⟩ := p1
    obtain ⟨b, ws, rfl, hs2, hp2⟩ := p2
    refine ⟨a, b, ns, ms, rfl, rfl, ?_, ?_, q G H _ (Ext.refl s) rfl⟩
    · rw [← pair_nums hp]; exact s.seq hs
    · rw [← pair_nums hp2]; exact s.seq hs2
theorem rows_at {K : PySem.W.Frag} {G H : Hp} (s : Same G H) : ∀ {vs : List V} {rs : List (List Int)}, PairG G vs (rs.map MP.row) → Paired (RowAt K H) vs rs
  | _, [], h => by cases h; exact .nil
  | _, r :: rs, h => by
    cases h with
    | cons a t =>
      obtain ⟨b, ws, rfl, q, p⟩ := a
      refine .cons ⟨b, rfl, ?_⟩ (rows_at s t)
      rw [← pair_nums p]; exact SqL.of (s _ _ q)
theorem ev_minL {K : PySem.W.Frag} {t : TA} {rs : List (List Int)} {m : List Int} (h : Ea t C [.lst (rs.map MP.row)]) (hne : rs ≠ []) (hm : ∀ r, r ∈ rs → (∀ y, y ∈ rs → ¬ y < r) → r = m) : Ev (tCB (rMinL K) t) C (.row m) :=
  ev_cb h fun G H vs s p Q q => by
    obtain ⟨v, rfl, a, xs, rfl, hs, hp⟩ := pair1 p
    refine ⟨a, xs, rs, rfl, SqL.of (s _ _ hs), rows_at s hp, hne, fun i x r hx hr hl => ?_⟩
    have e := hm r (List.mem_of_getElem? hr) hl
    subst e
    obtain ⟨v, hv, pv⟩ := hp.get (show (rs.map MP.row)[i]? = some (MP.row r) by rw [List.getElem?_map, hr]; rfl)
    rw [hx] at hv
    cases hv
    exact q G H x (Ext.refl s) pv
end
end Py

set_option Elab.async false
set_option linter.all false
set_option maxRecDepth 100000
set_option maxHeartbeats 2000000
/-! # sorted(.., key=f), f a def of the program that gives whole numbers -/
namespace Py
open PySem PySem.Spec PySem.W PyProof.Rows L2
section
variable {prog : Program} {w : World} {A : Around} {E : Value → Shared → Prop} {a kS : Addr} {vs : List Value} {kz : List PyData} {P : PySem.Fin → Shared → Prop}
/-- the heap without the object at p -/
def Heap.less (h : Heap) (p : Addr) : Heap := h.update p fun o => { o with data := .freed }
theorem less_at (h : Heap) (p : Addr) : (Heap.less h p).get? p = none := by
  cases h with
  | mk objs l =>
    unfold Heap.less Heap.update Heap.get?
    simp only [Array.getElem?_modify, if_true]
    cases objs[p]? <;> rfl
theorem less_else (h : Heap) {p q : Addr} (ne : p ≠ q) : (Heap.less h p).get? q = h.get? q := Heap.get?_update_other h _ ne
/-- the keys are asked for, one by one; then the sort: J holds of each state between -/
theorem keyed_rest {s : Shared} {f : Value} {e1 : Nat} (J : Shared → Prop) (apart : kS ≠ a) (len : kz.length = vs.length) (fits : vs.length ≤ sizeLine) (hal : AllAlike kz) (hsk : Sortable kz) (room : ∀ d, d ∈ kz → A.units + d.depth < cLine)
    (JS : ∀ t h', J t → (∀ q o, q ≠ kS → t.heap.get? q = some o → h'.get? q = some o) → J { t with heap := h' })
    (turn : ∀ (i : Nat) (v : Value) (k : PyData), vs[i]? = some v → kz[i]? = some k → ∀ t o1 o2, J t → t.heap.get? kS = some o1 → t.heap.get? a = some o2 →
      wpAny (model prog w) A (call f [v]) (fun u t' => J t' ∧ Reads t'.heap u k [] ∧ (∀ g : Heap, Reads g u k []) ∧ t'.heap.get? kS = some o1 ∧ t'.heap.get? a = some o2) (fun _ _ => False) t)
    (j0 : J s) (nk : s.heap.get? kS = some (seqObj "list" #[] 0)) (na : s.heap.get? a = some (seqObj "list" #[] e1))
    (fin : ∀ (t : Shared) (h' : Heap) (tk : Nat) (out : List Value) (c : Nat), J t → (∀ q o, q ≠ a → q ≠ kS → t.heap.get? q = some o → h'.get? q = some o) → h'.get? a = some (seqObj "list" (List.toArray out) c) → KeyedOut false kz vs out → P (.done (.ret .none)) { t with heap := h', toks := tk }) :
    wpAny (model prog w) A (ksk_rest a f false vs.toArray e1 (.ref kS)) P E s := by
  unfold ksk_rest
  refine wpAny_bind (wpAny_rule ?_)
  first
    | rw [List.forIn_toArray]
    | (rw [← Array.forIn_toList]; simp only [List.toList_toArray])
    | rw [← Array.forIn_toList]
  refine wpAny_bind (ksk_fold (fun i t => ∃ (got : Array Value) (c : Nat), J t ∧ t.heap.get? kS = some (seqObj "list" got c) ∧ t.heap.get? a = some (seqObj "list" #[] e1) ∧ EachIs (fun v k => ∀ g : Heap, Reads g v k []) got.toList (kz.take i)) vs 0 s
    ⟨#[], 0, j0, nk, na, by rw [List.take_zero]; exact EachIs.nil⟩ ?one ?all)
  case one =>
    rintro j x t hx ⟨got, c, jt, gk, ga, each⟩
    simp only [Nat.zero_add] at each ⊢
    have lt := (List.getElem?_eq_some_iff.mp hx).1
    obtain ⟨k, hk⟩ : ∃ k, kz[j]? = some k := ⟨_, List.getElem?_eq_getElem (by omega)⟩
    have size : got.size ≤ vs.length := by
      have q := each.length
      rw [Array.length_toList, List.length_take] at q
      omega
    refine wpAny_bind (wpAny_attempt (wpAny_mono (turn j x k hx hk t _ _ jt gk ga) (fun v t' he => ?_) fun _ _ z => z.elim))
    obtain ⟨jt', r1, r2, gk', ga'⟩ := he
    try dsimp only
    have sb := Heap.SameBut.update t'.heap kS (Obj.mapSeq (·.push v))
    obtain ⟨c2, at2⟩ : ∃ c2, (t'.heap.update kS (Obj.mapSeq (·.push v))).get? kS = some (seqObj "list" (got.push v) c2) := ⟨_, get?_update_seq gk' (·.push v)⟩
    refine wpAny_bind (listUpdate_at gk' rfl ?_ (Nat.le_trans size fits) (Nat.le_trans (Nat.le_of_eq (Array.size_push ..)) (Nat.succ_le_succ (Nat.le_trans size fits))))
    refine wpAny_pure ⟨rfl, got.push v, c2, JS t' _ jt' (fun q o ne e => (sb.2 q ne).trans e), at2, (sb.2 a apart.symm).trans ga', ?_⟩
    rw [Array.toList_push, List.take_add_one, hk]
    exact each_snoc (R := fun (v : Value) (k : PyData) => ∀ g : Heap, Reads g v k []) r2 each
  case all =>
    rintro t ⟨got, c, jt, gk, ga, each⟩
    have each' : EachIs (fun v k => ∃ as, Reads t.heap v k as) got.toList kz := by
      rw [List.take_of_length_le (show kz.length ≤ 0 + vs.length by omega)] at each
      exact each.mono fun v k r => ⟨[], r _⟩
    have size : got.size = vs.length := by
      have q := each'.length
      rw [Array.length_toList] at q
      omega
    try dsimp only
    refine wpAny_bind (listItems_at gk rfl ?_)
    refine keyH_end (κ := dataKind t.heap kz) (h₁ := Heap.less t.heap kS) (fun q o ne e => ?_) (less_at _ _) gk ga apart (SortsAt.data (s := t) each' hal hsk room) size fits fun h' tk c kp at_ => fin t h' tk _ c jt (fun q o n1 n2 e => ?_) at_ ⟨t.heap, got.toList, hal, rfl, each'⟩
    · by_cases z : q = kS
      · rw [z, less_at] at e; cases e
      · rw [less_else _ (Ne.symm z)] at e; exact e
    · exact kp q o n1 (by rw [less_else _ (Ne.symm n2)]; exact e)
/-- the whole sort by keys -/
theorem keyed_tree {s : Shared} {f : Value} {n : Nat} (J : Addr → Shared → Prop) (at0 : s.heap.get? a = some (seqObj "list" vs.toArray n)) (len : kz.length = vs.length) (fits : vs.length ≤ sizeLine) (hal : AllAlike kz) (hsk : Sortable kz) (room : ∀ d, d ∈ kz → A.units + d.depth < cLine)
    (JS : ∀ p t h', s.heap.objs.size ≤ p → J p t → (∀ q o, q ≠ p → t.heap.get? q = some o → h'.get? q = some o) → J p { t with heap := h' })
    (turn : ∀ (p : Addr) (i : Nat) (v : Value) (k : PyData), s.heap.objs.size ≤ p → vs[i]? = some v → kz[i]? = some k → ∀ t o1 o2, J p t → t.heap.get? p = some o1 → t.heap.get? a = some o2 →
      wpAny (model prog w) A (call f [v]) (fun u t' => J p t' ∧ Reads t'.heap u k [] ∧ (∀ g : Heap, Reads g u k []) ∧ t'.heap.get? p = some o1 ∧ t'.heap.get? a = some o2) (fun _ _ => False) t)
    (j0 : ∀ p h', s.heap.objs.size ≤ p → (∀ q o, q ≠ a → s.heap.get? q = some o → h'.get? q = some o) → (∃ o, h'.get? a = some o) → J p { s with heap := h' })
    (fin : ∀ (p : Addr) (t : Shared) (h' : Heap) (tk : Nat) (out : List Value) (c : Nat), s.heap.objs.size ≤ p → J p t → (∀ q o, q ≠ a → q ≠ p → t.heap.get? q = some o → h'.get? q = some o) → h'.get? a = some (seqObj "list" (List.toArray out) c) → KeyedOut false kz vs out → P (.done (.ret .none)) { t with heap := h', toks := tk }) :
    wpAny (model prog w) A (ksk_tree a f false) P E s := by
  have lt : a < s.heap.objs.size := Heap.lt_size at0
  obtain ⟨e1, at1⟩ : ∃ e1, (s.heap.update a (Obj.mapSeq fun _ => (#[] : Array Value))).get? a = some (seqObj "list" #[] e1) := ⟨_, get?_update_seq at0 fun _ => #[]⟩
  generalize hp : ((s.heap.update a (Obj.mapSeq fun _ => (#[] : Array Value))).push (seqObj "tuple" vs.toArray 0)).objs.size = p
  have ep : p = s.heap.objs.size + 1 := by rw [← hp, size_push', Heap.size_update]
  unfold ksk_tree
  refine wpAny_bind (listItems_at at0 rfl ?_)
  refine wpAny_bind (listUpdate_at at0 rfl ?_ (by rw [List.size_toArray]; exact fits) (Nat.zero_le _))
  refine wpAny_bind (seqEpoch_at at1 rfl ?_)
  refine wpAny_bind (wpAny_newTuple ?_ (by show vs.length ≤ _; exact fits))
  refine wpAny_bind (wpAny_newList ?_ (Nat.zero_le _))
  refine wpAny_holding ?_
  have atA : (((s.heap.update a (Obj.mapSeq fun _ => (#[] : Array Value))).push (seqObj "tuple" vs.toArray 0)).push (seqObj "list" #[] 0)).get? a = some (seqObj "list" #[] e1) := Heap.get?_push_of_some _ (Heap.get?_push_of_some _ at1)
  have atP : (((s.heap.update a (Obj.mapSeq fun _ => (#[] : Array Value))).push (seqObj "tuple" vs.toArray 0)).push (seqObj "list" #[] 0)).get? p = some (seqObj "list" #[] 0) := by
    rw [← hp]; exact Heap.get?_push_size _ rfl
  have big : s.heap.objs.size ≤ p := by omega
  have goal := keyed_rest (prog := prog) (w := w) (A := A) (E := E) (P := P) (a := a) (kS := p) (vs := vs) (kz := kz) (f := f) (e1 := e1) (s := { s with heap := ((s.heap.update a (Obj.mapSeq fun _ => (#[] : Array Value))).push (seqObj "tuple" vs.toArray 0)).push (seqObj "list" #[] 0) })
    (J p) (fun z => by have q : p < s.heap.objs.size := by rw [z]; exact lt
                       omega) len fits hal hsk room (fun t h' => JS p t h' big) (fun i v k hv hk => turn p i v k big hv hk) (j0 p _ big (fun q o ne e => sortingHeap_old (vs := vs) ne e) ⟨_, atA⟩) atP atA (fun t h' tk out c => fin p t h' tk out c big)
  rw [← hp] at goal
  exact goal
end
section
variable {X : Cx}
/-- sorted(xs, key=f): the items by their keys -/
def rSortF (K : PySem.W.Frag) (f : Addr) (sp : Sp) (E : XK) : List V → List V → Hp → VK → Prop := fun vs zs H Q => ∃ (a : Addr) (xs : List V) (ks : List Int), vs = [V.ref a] ∧ zs = [V.ref f] ∧ SqL K H a xs ∧ ks.length = xs.length ∧
  (∀ (i : Nat) x k, xs[i]? = some x → ks[i]? = some k → ∀ H', Same H H' → sp [x] H' (fun v H'' => v = .int k ∧ Same H' H'') E) ∧
  ∀ (zs : List (V × Int)) (p : Addr) (H' : Hp), zs.Perm (xs.zip ks) → zs.Pairwise (fun x y => x.2 ≤ y.2) → Same H H' → H' p = none → Q (.ref p) (upd H' p (.lst (zs.map Prod.fst)))
theorem each_vals : ∀ {xs : List V} {us : List Value} {ks : List Int}, Vals xs us → ks.length = xs.length → EachIs (fun (u : Value) (b : V × Int) => RelV b.1 u) us (xs.zip ks)
  | _, _, [], .nil, _ => .nil
  | _, _, _ :: _, .nil, h => by simp at h
  | _, _, [], .cons _ _, h => by simp at h
  | _, _, _ :: _, .cons r t, h => .cons r (each_vals t (by simpa using h))
theorem vals_each : ∀ {us : List Value} {zs : List (V × Int)}, EachIs (fun (u : Value) (b : V × Int) => RelV b.1 u) us zs → Vals (zs.map Prod.fst) us
  | _, _, .nil => .nil
  | _, _, .cons r t => .cons r (vals_each t)
theorem key_le {x y : V × Int} (h : dataLe false (fun b : V × Int => PyData.int b.2) x y = true) : x.2 ≤ y.2 := by
  have e : dataLe false (fun b : V × Int => PyData.int b.2) x y = !(PySem.W.dataLt (.int y.2) (.int x.2)) := rfl
  rw [e, PySem.W.dataLt_int] at h
  simp at h; exact h
theorem cr_sortF {f : Addr} {fd : FuncData} {nm : List Str} {j : Nat} {sp : Sp} (F : FnOk X.prog X.w X.K X.mg X.base CX0 j f fd nm sp) (hr : Room j X.A.in1.in1) (hb : Binds X.K fd nm []) (h1 : nm.length = 1) (hu : X.A.units + 64 < cLine) : CallRK X (.builtin "sorted") [Str.ofString "key"] (rSortF X.K f sp E0) := by
  intro pins s σ H vs zs us ws Q I r rz h
  obtain ⟨a, xs, ks, rfl, rfl, hs, hk, hsp, q⟩ := h
  obtain rfl := Vals.ref1 r
  obtain ⟨w1, rfl, e1⟩ := vals1 rz
  obtain rfl : w1 = Value.ref f := e1
  obtain ⟨its, rv, hl, hz⟩ := I.list hs
  have il := rv.length
  have zl : (xs.zip ks).length = xs.length := by rw [List.length_zip]; omega
  have hal : AllAlike ((xs.zip ks).map fun b : V × Int => PyData.int b.2) := fun d hd d' hd' => by
    obtain ⟨_, _, rfl⟩ := List.mem_map.1 hd
    obtain ⟨_, _, rfl⟩ := List.mem_map.1 hd'
    rfl
  have hsk : Sortable ((xs.zip ks).map fun b : V × Int => PyData.int b.2) := .inr fun d hd => by
    obtain ⟨_, _, rfl⟩ := List.mem_map.1 hd
    exact ⟨(fun z => nomatch z), (fun _ z => nomatch z)⟩
  generalize hD : s.heap.objs.size + 1 = D
  have dn : H D = none := I.hok.fresh (by omega)
  have csz : (copyHeap s.heap its).objs.size = s.heap.objs.size + 2 := by
    unfold copyHeap
    rw [size_push', Heap.size_update, size_push']
  have stk : ∀ p, s.heap.objs.size ≤ p → p ∉ frs X.stack := fun p hp z => by
    have fp := I.fpOk (H' := H) hp (I.hok.fresh hp)
    rcases List.mem_cons.mp (I.stkSub p z) with e | e
    · exact fp.2.1 e
    · exact fp.2.2.1 e
  let J : Addr → Shared → Prop := fun p t => ∃ H', Same H H' ∧ Inv X pins σ H' t ∧ Un (frs X.stack) [] H H' s.heap t.heap ∧ H' D = none ∧ H' p = none
  show wpAny (model X.prog X.w) X.A (call (.builtin "sorted") [.ref a] [(Str.ofString "key", .ref f)]) (EP X pins σ Q) X.xe s
  refine sorted_of_sort hl.isList (by rw [← il]; exact hz) (ksk_s1 _ _) (fun _ => ksk_l1 _ _) fun E' => ?_
  rw [ksk_t1, hD]
  refine keyed_tree (s := { s with heap := copyHeap s.heap its }) (vs := its) (kz := (xs.zip ks).map fun b : V × Int => PyData.int b.2) (n := 0) J (by rw [← hD]; exact copyHeap_at s.heap its) (by rw [List.length_map, zl, il]) (by rw [← il]; exact hz) hal hsk (fun d hd => ?_) (fun p t h' hp jt kp => ?_) (fun p i v k hp hv hkk t o1 o2 jt a1 a2 => ?_) (fun p h' hp kp _ => ?_) (fun p t h' tk out c hp jt kp at_ ko => ⟨rfl, ?_⟩)
  · obtain ⟨_, _, rfl⟩ := List.mem_map.1 hd
    show X.A.units + 1 + 1 + 0 < cLine
    omega
  · have hp : s.heap.objs.size ≤ p := by
      have hp : (copyHeap s.heap its).objs.size ≤ p := hp
      omega
    obtain ⟨H', sm, I', u, d1, d2⟩ := jt
    have fp := I.fpOk hp d2
    have I2 := I'.turned (t' := t.toks) (it := p) (h' := h') kp d2 fp.2.1 fp.2.2.2.1 fp.2.2.2.2.1 fp.2.2.2.2.2
    have np : ∀ b o, s.heap.get? b = some o → b ≠ p := fun b o e z => absurd (Heap.lt_size e) (Nat.not_lt.2 (z ▸ hp))
    refine ⟨H', sm, I2, ⟨fun b o e n n1 n2 => kp b o (np b o e) (u.keep b o e n n1 n2), fun b o e n n1 n2 => ?_, u.free, fun b o e n2 => ?_, u.tups, u.frzs, u.tbls⟩, d1, d2⟩
    · obtain ⟨sl, q⟩ := u.slot b o e n n1 n2
      exact ⟨sl, kp b _ (np b o e) q⟩
    · obtain ⟨o', q⟩ := u.there b o e n2
      exact ⟨o', kp b _ (np b o e) q⟩
  · have hp : s.heap.objs.size ≤ p := by
      have hp : (copyHeap s.heap its).objs.size ≤ p := hp
      omega
    obtain ⟨H', sm, I', u, d1, d2⟩ := jt
    obtain ⟨x, hx, rx⟩ := vals_get rv hv
    rw [List.getElem?_map] at hkk
    cases hz2 : (xs.zip ks)[i]? with
    | none => rw [hz2] at hkk; simp at hkk
    | some b =>
      rw [hz2] at hkk
      have hkk : PyData.int b.2 = k := Option.some.inj hkk
      subst hkk
      have hb2 := List.getElem?_zip_eq_some.1 hz2
      have pr := hsp i x b.2 hx hb2.2 H' sm
      refine wpAny_call (codeAny_mono (F.run X.A.in1.in1 X.stack t H' ⟨[v], []⟩ [v] [x] _ E0 hr I'.env0.in1.in1 (by have z := hb t [v] I'.kIn (by simp [h1]); rw [List.append_nil] at z; exact z) (.cons rx .nil) pr) fun r t' hq => ?_)
      have done : ∀ u', CE X.stack X.prog X.w H' t (fun v H'' => v = .int b.2 ∧ Same H' H'') u' t' → J p t' ∧ Reads t'.heap u' (.int b.2) [] ∧ (∀ g : Heap, Reads g u' (.int b.2) []) ∧ t'.heap.get? p = some o1 ∧ t'.heap.get? D = some o2 := fun u' ce => by
        obtain ⟨v', H2, os, bare, un, hok, rel, rfl, sm2⟩ := ce
        obtain ⟨tk, rfl⟩ := rel
        have g1 := un.keep p o1 a1 d2 (stk p hp) (by simp)
        have g2 := un.keep D o2 a2 d1 (stk D (by omega)) (by simp)
        exact ⟨⟨H2, sm.trans sm2, I'.call' os un hok bare (fun b z => absurd z (by simp)), u.trans un, un.free D o2 a2 d1 (by simp), un.free p o1 a1 d2 (by simp)⟩, Reads.int _ _, fun g => Reads.int _ _, g1, g2⟩
      cases r with
      | error e => exact hq.elim
      | ok fl =>
        cases fl with
        | ret u' => exact done u' hq
        | next => exact False.elim hq
        | brk => exact False.elim hq
        | cont => exact False.elim hq
  · have hp : s.heap.objs.size ≤ p := by
      have hp : (copyHeap s.heap its).objs.size ≤ p := hp
      omega
    have kp' : ∀ b u, s.heap.get? b = some u → h'.get? b = some u := fun b u e => kp b u (fun z => absurd (Heap.lt_size e) (Nat.not_lt.2 (by rw [z, ← hD]; omega))) (copyHeap_old e)
    exact ⟨H, Same.refl H, I.kept (t' := s.toks) kp', Un.kept kp', dn, I.hok.fresh hp⟩
  · obtain ⟨H', sm, I', u, d1, d2⟩ := jt
    have hp : s.heap.objs.size ≤ p := Nat.le_trans (show s.heap.objs.size ≤ (copyHeap s.heap its).objs.size by omega) hp
    have ei := keyedOut_each (R := fun (u : Value) (b : V × Int) => RelV b.1 u) (bs := xs.zip ks) (fun b : V × Int => PyData.int b.2) ko (each_vals rv hk)
    generalize hzs : (xs.zip ks).mergeSort (dataLe false fun b : V × Int => PyData.int b.2) = zs at ei
    have pm : zs.Perm (xs.zip ks) := by rw [← hzs]; exact List.mergeSort_perm _ _
    have tl : TotalLe (dataLe false fun b : V × Int => PyData.int b.2) := sortLe_total _ _ _
    have pw : zs.Pairwise fun x y => x.2 ≤ y.2 := by
      rw [← hzs]
      exact (List.pairwise_mergeSort (le := dataLe false fun b : V × Int => PyData.int b.2) tl.trans (fun a b => by have := tl.total a b; simpa using this) _).imp fun h => key_le h
    have vl := vals_each ei
    have nD : ∀ b o, s.heap.get? b = some o → b ≠ D ∧ b ≠ p := fun b o e => by
      exact ⟨fun z => absurd (Heap.lt_size e) (Nat.not_lt.2 (by rw [z, ← hD]; omega)), fun z => absurd (Heap.lt_size e) (Nat.not_lt.2 (z ▸ hp))⟩
    have len : (zs.map Prod.fst).length ≤ sizeLine := by
      rw [List.length_map, pm.length_eq, zl]; exact hz
    have hok : HOk X.prog X.w (upd H' D (.lst (zs.map Prod.fst))) h' := fun b o e => by
      by_cases z : b = D
      · subst z
        rw [upd_same] at e; cases e
        exact ⟨len, out, c, vl, at_⟩
      · rw [upd_ne z] at e
        refine (I'.hok b o e).stay (fun c' u' hc e' => kp c' u' (fun y => ?_) (fun y => ?_) e') (fun c' e' => by rw [upd_ne (ne_of_none e' d1)]; exact e') fun c' ys e' => by rw [upd_ne (ne_of_none e' d1)]; exact e'
        · rcases hc with hc | hc
          · exact z (hc ▸ y)
          · rw [y, d1] at hc; cases hc
        · rcases hc with hc | hc
          · rw [← hc, y, d2] at e; cases e
          · rw [y, d2] at hc; cases hc
    have un : Un (frs X.stack) [] H (upd H' D (.lst (zs.map Prod.fst))) s.heap h' :=
      ⟨fun b o e n n1 n2 => kp b o (nD b o e).1 (nD b o e).2 (u.keep b o e n n1 n2), fun b o e n n1 n2 => by
        obtain ⟨sl, q⟩ := u.slot b o e n n1 n2
        exact ⟨sl, kp b _ (nD b o e).1 (nD b o e).2 q⟩, fun b o e n n2 => by rw [upd_ne (nD b o e).1]; exact u.free b o e n n2, fun b o e n2 => by
        obtain ⟨o', q⟩ := u.there b o e n2
        exact ⟨o', kp b _ (nD b o e).1 (nD b o e).2 q⟩, fun b ys e => by
        have q := u.tups b ys e
        rw [upd_ne (ne_of_none q d1)]; exact q, fun b o v e => by
        have q := u.frzs b o v e
        rw [upd_ne (ne_of_none q d1)]; exact q, fun b ps e => by
        obtain ⟨more, q⟩ := u.tbls b ps e
        exact ⟨more, by rw [upd_ne (ne_of_none q d1)]; exact q⟩⟩
    exact ⟨.ref D, upd H' D (.lst (zs.map Prod.fst)), I.call' (s' := { t with heap := h', toks := tk }) (I'.os.trans I.os.symm) un hok I'.bare (fun b z => absurd z (by simp)), rfl, q zs D H' pm pw sm d1⟩
end
section
variable {C : List En} {A : AE}
/-- what is walked is one of some lists -/
def EiX {B : Type} (wi : TI) (C : List En) (f : B → List MP) (P : B → Prop) : Prop := ∀ G0 H0 G H s, Sta G0 H0 C G H s → ∀ R : It → Hp → Prop, (∀ G' H' J b, P b → Ext G H G' H' → Itf J G' (f b) → R J H') → wi s H R
theorem ex_forX {B : Type} {wi : TI} {g : TG} {tb : TS} {f : B → List MP} {P : B → Prop} (I : B → Nat → List En → Prop) (hi : EiX wi C f P) (h0 : ∀ b, P b → I b 0 C)
    (hs : ∀ (b : B) (i : Nat) (F : MP) (C' : List En), P b → (f b)[i]? = some F → I b i C' → ∃ js C'', Eg g F js C' C'' ∧ Ex tb C'' { nx := I b (i + 1), ct := I b (i + 1), bk := A.nx, rt := A.rt })
    (hd : ∀ b C', P b → I b (f b).length C' → A.nx C') : Ex (tFor wi g tb) C A := fun G0 H0 G H s S D h1 h2 h3 h4 =>
  hi G0 H0 G H s S _ fun G1 H1 J b pb e1 it => by
    refine ⟨fun i m s' H' => m = (f b).length - i ∧ i ≤ (f b).length ∧ ∃ C' G', I b i C' ∧ Same G1 G' ∧ Sta G0 H0 C' G' H' s', ⟨(f b).length, by simp, Nat.zero_le _, C, G1, h0 b pb, Same.refl _, S.mono e1⟩, ?_⟩
    rintro i m s' H' ⟨rfl, hle, C', G', hI, sg, S'⟩
    obtain ⟨a, z⟩ := it G' H' sg S'.gh i
    by_cases hlt : i < (f b).length
    · obtain ⟨go, yl⟩ := a (f b)[i] (List.getElem?_eq_getElem hlt)
      refine .inr ⟨go, fun s'' H'' => ∃ C'' G'', I b (i + 1) C'' ∧ Same G1 G'' ∧ Sta G0 H0 C'' G'' H'' s'', fun s'' H'' ⟨C'', G'', q1, q2, q3⟩ => ⟨_, by omega, rfl, hlt, C'', G'', q1, q2, q3⟩, fun x H'' y => ?_⟩
      obtain ⟨G'', e'', px⟩ := yl x H'' y
      obtain ⟨js, C2, eg, ex⟩ := hs b i (f b)[i] C' pb (List.getElem?_eq_getElem hlt) hI
      refine eg G0 H0 G'' H'' s' x (S'.mono e'') px _ fun s2 S2 _ => ?_
      have sg2 : Same G1 G'' := sg.trans e''.g
      have e0 := S2.ext
      refine ex G'' H0 G'' H'' s2 S2.re _ (fun C3 G3 H3 s3 q S3 => ?_) (fun C3 G3 H3 s3 q S3 => ?_) (fun C3 G3 H3 s3 q S3 => ?_) (fun F3 G3 H3 v q e3 p3 => ?_)
      · exact ⟨C3, G3, q, sg2.trans S3.ext.g, S3.join e0⟩
      · exact h1 C3 G3 H3 s3 q (S3.join e0)
      · exact ⟨C3, G3, q, sg2.trans S3.ext.g, S3.join e0⟩
      · exact h4 F3 G3 H3 v q (e0.join e3) p3
    · have e : i = (f b).length := by omega
      exact .inl ⟨z e, h1 C' G' H' s' (hd b C' pb (by rw [← e]; exact hI)) S'⟩
theorem itv_list {K : PySem.W.Frag} {a : Addr} {vs : List V} {Fs : List MP} {G : Hp} (hs : SqL K G a vs) (hp : PairG G vs Fs) : Itf (Itl K a) G Fs := fun G' H' s1 s2 i => ⟨fun F hF => by
    obtain ⟨v, hv, pv⟩ := hp.get hF
    refine ⟨⟨vs, v, (s1.trans s2).seq hs, hv⟩, fun x H'' y => ?_⟩
    obtain ⟨rfl, y⟩ := y
    have e := y vs ((s1.trans s2).seq hs)
    rw [hv] at e
    cases e
    exact ⟨G', Ext.refl s2, F.m s1 pv⟩, fun hi => ⟨vs, (s1.trans s2).seq hs, by rw [hi, Paired.length hp]; exact Nat.le_refl _⟩⟩
end
end Py

set_option Elab.async false
set_option linter.all false
set_option maxRecDepth 100000
set_option maxHeartbeats 2000000
/-! # min(.., key=lambda x: ..), the keys lists of whole numbers -/
namespace Py
open PySem PySem.Spec PySem.W PyProof.Rows L2
/-! ### A lambda called -/
section
variable {P : Program} {w : World} {K : PySem.W.Frag} {mg : Str → Option Value} {base : Heap} {N ps : List Str} {qual : Str} {scope : Scope} {params : Arguments} {body : Expr} {pm ctv : Value} {c' f : Addr} {k : Nat} {A : Around} {outer : List Env} {s : Shared} {H : Hp} {us : List Value} {vs : List V} {Q : VK} {E : XK}
theorem lam_run (S : FnScope N ps scope) (ho : s.heap.get? f = some (kla_obj "<lambda>" qual params body scope [] pm c' ctv)) (hc : s.heap.CodeRec (.ref c') qual)
    (hb : bindArgs (kla_fn "<lambda>" qual params body scope [] pm (.ref c') ctv) ⟨us, []⟩ = pure (ps.zip us)) (hr : Room (k + 1) A) (e0 : Env0 P w K mg base A outer s H) (r : Vals vs us) (hl : vs.length = ps.length)
    (hbody : Room k (A.deeper (envOfC qual scope s.heap.objs.size f (.ref c'))) → ∃ t, PE (cxOf CX0 P w K mg base N qual scope f (.ref c') A outer s H E) body t ∧ t (start N vs) H Q) :
    codeAny (model P w) A (.call (.ref f) ⟨us, []⟩) (CR CX0 outer P w H s Q E) s := by
  have nolim : s.heap.NoLimit := e0.mod.nolimit.keeps fun b o q => (e0.bs b o q).1
  have kinds : ∀ y ∈ ps.zip us, scope.names.lookup y.1 = some .local ∨ (scope.names.lookup y.1 = some .cell ∧ ((cellsFrom (s.heap.objs.size + 1) scope.names []).lookup y.1).isSome = true) := fun y hy => by
    rcases S.par y.1 (List.of_mem_zip (show (y.1, y.2) ∈ ps.zip us from hy)).1 with q | q
    · exact .inl q
    · exact .inr ⟨q, cellsFrom_some _ _ _ (.inl q)⟩
  refine kla_callFunE hr.depth ho rfl S.co S.gen rfl hc ?_
  rw [hb]
  refine wpAny_pure (wpAny_newFunctionEnv_cells S.kind kinds fun env he t x => ?_)
  subst he
  refine ⟨nolim.keeps x.toInCall.keep, ?_⟩
  obtain ⟨rd, der, hq⟩ := hbody (hr.deeper _)
  have I := inv_start (CX := CX0) (P := P) (w := w) (K := K) (mg := mg) (base := base) (f := f) (cd := .ref c') (E := E) S hr.hd e0 hl r x
  refine kla_codeExpr (wpAny_mono (der.run [] t _ H Q I hq) (fun v t' hv => ?_) fun e t' he => he)
  obtain ⟨v', H', J, rv, q⟩ := hv
  exact ⟨v', H', J.os, J.bare, J.base, J.hok, rv, q⟩
end
/-! ### What a call leaves, its new things no longer told (tuples aside) -/
section
variable {P : Program} {w : World} {H H' H2 : Hp} {h h2 : Heap} {fs : List Addr}
structure Tame (H H' : Hp) : Prop where
  s : Same H H'
  n : ∀ b, H b = none → H' b = none ∨ ∃ xs, H' b = some (.tup xs)
def tame (H H2 : Hp) : Hp := fun b => match H b with
  | some o => some o
  | none => match H2 b with
    | some (.tup xs) => some (.tup xs)
    | _ => none
theorem tame_old {b : Addr} {o : HO} (e : H b = some o) : tame H H2 b = some o := by unfold tame; rw [e]
theorem tame_new {b : Addr} (e : H b = none) : tame H H2 b = none ∨ ∃ xs, tame H H2 b = some (.tup xs) ∧ H2 b = some (.tup xs) := by
  unfold tame
  rw [e]
  cases q : H2 b with
  | none => exact .inl rfl
  | some o => cases o <;> first | exact .inl rfl | exact .inr ⟨_, rfl, rfl⟩
theorem tame_tup {b : Addr} {xs : List V} (sm : Same H H2) (e : H2 b = some (.tup xs)) : tame H H2 b = some (.tup xs) := by
  unfold tame
  cases q : H b with
  | some o =>
    have := sm b o q
    rw [e] at this
    exact congrArg some (Option.some.inj this).symm
  | none => rw [e]
theorem tame_tame (H H2 : Hp) : Tame H (tame H H2) := ⟨fun _ _ e => tame_old e, fun _ e => (tame_new e).imp id fun ⟨xs, a, _⟩ => ⟨xs, a⟩⟩
theorem obj_tame {a : Addr} (sm : Same H H2) : ∀ {o : HO}, ObjOk P w H h a o → ObjOk P w H2 h2 a o → ObjOk P w (tame H H2) h2 a o
  | .lst _, _, y => y
  | .tup _, _, y => y
  | .dK _, _, y => y
  | .dT kvs, _, y => by
    obtain ⟨z1, z2, xs, r, z3⟩ := y
    exact ⟨z1, z2, xs, Paired.mapP r fun p q z => ⟨z.1, tame_tup sm z.2.1, z.2.2⟩, z3⟩
  | .set _ _, _, y => y
  | .ins _ _ _, x, y => ⟨tame_old x.1, y.2⟩
  | .own _, _, y => y
  | .xd _, _, y => y
  | .rng _ _, _, y => y
  | .frz o u, x, y => ⟨y.1, obj_tame sm (o := u) x.2 y.2⟩
  | .tbl _, _, y => y
  | .met _ _, _, y => y
  | .ext _, _, y => y
theorem tame_ok (sm : Same H H2) (ok : HOk P w H h) (ok2 : HOk P w H2 h2) : HOk P w (tame H H2) h2 := fun b o e => by
  cases q : H b with
  | some u =>
    rw [tame_old q] at e
    obtain rfl := Option.some.inj e
    exact obj_tame sm (ok b _ q) (ok2 b _ (sm b _ q))
  | none =>
    rcases tame_new (H2 := H2) q with z | ⟨xs, z1, z2⟩
    · rw [z] at e; cases e
    · rw [z1] at e
      obtain rfl := Option.some.inj e
      exact ok2 b _ z2
theorem tame_un (t : Tame H H') (sm : Same H' H2) (u : Un fs [] H' H2 h h2) : Un fs [] H' (tame H H2) h h2 where
  keep := u.keep
  slot := u.slot
  free := fun b o e n hx => by
    have h1 := u.free b o e n hx
    have h0 : H b = none := t.s.free n
    unfold tame
    rw [h0, h1]
  there := u.there
  tups := fun b xs e => tame_tup (t.s.trans sm) (sm b _ e)
  frzs := fun b o v e => by
    cases q : H b with
    | some z =>
      have := t.s b z q
      rw [e] at this
      rw [tame_old q, Option.some.inj this]
    | none =>
      rcases t.n b q with z | ⟨xs, z⟩
      · rw [z] at e; cases e
      · rw [z] at e; cases e
  tbls := fun b ps e => by
    cases q : H b with
    | some z =>
      have := t.s b z q
      rw [e] at this
      exact ⟨#[], by rw [tame_old q, ← Option.some.inj this]; simp⟩
    | none =>
      rcases t.n b q with z | ⟨xs, z⟩
      · rw [z] at e; cases e
      · rw [z] at e; cases e
/-- a list that was made last is no longer told -/
theorem drop_un {p : Addr} {xs : List V} (hp : H2 p = none) (sm : Same H H2) (u : Un fs [] H (upd H2 p (.lst xs)) h h2) : Un fs [] H H2 h h2 := by
  have ne : ∀ b o, H b = some o → b ≠ p := fun b o e => ne_of_none (sm b o e) hp
  refine ⟨u.keep, u.slot, fun b o e n hx => ?_, u.there, fun b ys e => ?_, fun b o v e => ?_, fun b qs e => ?_⟩
  · have z := u.free b o e n hx
    by_cases hb : b = p
    · rw [hb]; exact hp
    · rw [upd_ne hb] at z; exact z
  · have z := u.tups b ys e
    rw [upd_ne (ne b _ e)] at z; exact z
  · have z := u.frzs b o v e
    rw [upd_ne (ne b _ e)] at z; exact z
  · obtain ⟨more, z⟩ := u.tbls b qs e
    rw [upd_ne (ne b _ e)] at z; exact ⟨more, z⟩
theorem drop_ok {p : Addr} {xs : List V} (hp : H2 p = none) (ok : HOk P w (upd H2 p (.lst xs)) h2) : HOk P w H2 h2 := fun b o e => by
  have ne := ne_of_none e hp
  refine (ok b o (by rw [upd_ne ne]; exact e)).stay (fun _ _ _ q => q) (fun c q => ?_) fun c ys q => ?_
  · by_cases hc : c = p
    · rw [hc, upd_same] at q; cases q
    · rw [upd_ne hc] at q; exact q
  · by_cases hc : c = p
    · rw [hc, upd_same] at q; cases q
    · rw [upd_ne hc] at q; exact q
end
/-! ### The least by a key -/
theorem best_least (rs : List (List Int)) : ∀ n : Nat, argBest (fun i j => decide (rs.getD i [] < rs.getD j [])) n ≤ n ∧ ∀ j, j ≤ n → ¬ rs.getD j [] < rs.getD (argBest (fun i j => decide (rs.getD i [] < rs.getD j [])) n) []
  | 0 => ⟨Nat.le_refl 0, fun j hj => by
    have : j = 0 := by omega
    subst this; exact List.lt_irrefl _⟩
  | n + 1 => by
    obtain ⟨h1, h2⟩ := best_least rs n
    unfold argBest
    generalize argBest (fun i j => decide (rs.getD i [] < rs.getD j [])) n = m at *
    by_cases c : rs.getD (n + 1) [] < rs.getD m []
    · rw [if_pos (by simpa using c)]
      refine ⟨Nat.le_refl _, fun j hj z => ?_⟩
      by_cases e : j = n + 1
      · subst e; exact List.lt_irrefl _ z
      · exact h2 j (by omega) (List.lt_trans z c)
    · rw [if_neg (by simpa using c)]
      refine ⟨by omega, fun j hj => ?_⟩
      by_cases e : j = n + 1
      · subst e; exact c
      · exact h2 j (by omega)
theorem refs_same : ∀ {xs : List V} {us ws : List Value}, (∀ x ∈ xs, ∃ b, x = V.ref b) → Vals xs us → Vals xs ws → us = ws
  | [], _, _, _, .nil, .nil => rfl
  | x :: xs, _, _, h, .cons (b := u) r t, .cons (b := v) r2 t2 => by
    obtain ⟨b, rfl⟩ := h x (List.mem_cons_self ..)
    have e1 : u = Value.ref b := r
    have e2 : v = Value.ref b := r2
    rw [e1, e2, refs_same (fun y hy => h y (List.mem_cons_of_mem _ hy)) t t2]
theorem reads_nums {h : Heap} : ∀ {ns : List Int} {us : List Value}, Vals (ns.map V.int) us → ∃ as, ReadsAll h us (ns.map PyData.int) as
  | [], _, .nil => ⟨_, .nil⟩
  | n :: ns, _, .cons r t => by
    obtain ⟨tk, rfl⟩ := r
    obtain ⟨as, q⟩ := reads_nums (h := h) t
    exact ⟨_, .cons (.int n tk) q⟩
/-- the object of a list of whole numbers -/
structure RowObj (h : Heap) (p : Addr) (r : List Int) : Prop where
  ex : ∃ (us : List Value) (n : Nat), Vals (r.map V.int) us ∧ h.get? p = some { cls := .type "list", data := .seq us.toArray n }
theorem RowObj.reads {h : Heap} {p : Addr} {r : List Int} (x : RowObj h p r) : ∃ as, Reads h (.ref p) (rowD r) as := by
  obtain ⟨us, n, v, e⟩ := x.ex
  obtain ⟨as, q⟩ := reads_nums (h := h) v
  exact ⟨_, .list e rfl rfl q⟩
section
variable {X : Cx} {pins : List (Addr × Obj)} {σ : L2.St} {H : Hp} {s : Shared}
theorem frs_there {t : Shared} (I : Inv X pins σ H t) {b : Addr} (hb : b ∈ frs X.stack) : ∃ o, t.heap.get? b = some o := by
  rcases List.mem_cons.mp (I.stkSub b hb) with e | e
  · obtain ⟨m, ⟨o, _, _, ho, _⟩, _⟩ := I.loc
    rw [e]; exact ⟨o, ho⟩
  · obtain ⟨_, o, ho, _⟩ := I.ok.funs.mem e
    exact I.base.there b o ho fun z => I.ok.exfs b z e
theorem min_key {f a : Addr} {xs : List V} {rs : List (List Int)} {Q : VK} (I : Inv X pins σ H s) (hc : X.calm = true) (hu : X.A.units + 64 < cLine) (hs : SqL X.K H a xs) (hx : ∀ x ∈ xs, ∃ b, x = V.ref b) (hk : rs.length = xs.length) (hne : 0 < xs.length)
    (turn : ∀ (i : Nat) (x : V) (r : List Int), xs[i]? = some x → rs[i]? = some r → ∀ (t : Shared) (H' : Hp) (u : Value), Same H H' → Inv X pins σ H' t → (∀ b o, s.heap.get? b = some o → H b = none → b ∉ frs X.stack → t.heap.get? b = some o) → RelV x u →
      codeAny (model X.prog X.w) X.A.in1 (.call (.ref f) ⟨[u], []⟩) (CR CX0 X.stack X.prog X.w H' t (fun v H'' => ∃ (p : Addr) (H2 : Hp), v = .ref p ∧ Same H' H2 ∧ H2 p = none ∧ H'' = upd H2 p (.lst (r.map V.int))) E0) t)
    (fin : ∀ (i : Nat) (x : V) (r : List Int) (H' : Hp), xs[i]? = some x → rs[i]? = some r → (∀ y, y ∈ rs → ¬ y < r) → Same H H' → Q x H') :
    wpAny (model X.prog X.w) X.A (call (.builtin "min") [.ref a] [(Str.ofString "key", .ref f)]) (EP X pins σ Q) X.xe s := by
  obtain ⟨its, rv, hl, hz⟩ := I.list hs
  have il := rv.length
  refine call_min_walkK (iter_listW (A := X.A.in1) (I.ok.hd hc) hl.isList fun s₂ e Wk st hfp hw hkeep => ?_)
  have sz : s₂.heap.objs.size = s.heap.objs.size + 1 := by rw [e]; exact Heap.size_push ..
  obtain ⟨S, hS⟩ : ∃ S, s₂.heap.objs.size = S := ⟨_, rfl⟩
  obtain ⟨B, hB⟩ : ∃ B, s.heap.objs.size = B := ⟨_, rfl⟩
  rw [hS, hB] at sz
  rw [hB] at Wk st hfp
  rw [hS] at hfp
  rw [hS, hB]
  have nB : ∀ b o, s.heap.get? b = some o → b ≠ S ∧ b ≠ B := fun b o q => by
    have h1 : (b : Nat) < s.heap.objs.size := Heap.lt_size q
    rw [hB] at h1
    exact ⟨fun z => Nat.lt_irrefl B (Nat.lt_of_lt_of_le (show B < S by omega) (Nat.le_of_lt (z ▸ h1))), fun z => Nat.lt_irrefl B (z ▸ h1)⟩
  have stk : ∀ p, B ≤ p → p ∉ frs X.stack := fun p hp z => by
    obtain ⟨o, ho⟩ := frs_there I z
    have h1 : (p : Nat) < s.heap.objs.size := Heap.lt_size ho
    rw [hB] at h1
    exact Nat.lt_irrefl _ (Nat.lt_of_lt_of_le h1 hp)
  refine ⟨_, _, _, _, _, _, _, fun t => ∃ H', Tame H H' ∧ Inv X pins σ H' t ∧ Un (frs X.stack) [] H H' s.heap t.heap ∧ H' S = none ∧ H' B = none,
    fun i k t => ∃ (p : Addr) (r : List Int), k = .ref p ∧ rs[i]? = some r ∧ RowObj t.heap p r ∧ H p = none ∧ p ≠ S ∧ p ≠ B ∧ p ∉ frs X.stack,
    fun i j => decide (rs.getD i [] < rs.getD j []), rfl, Wk, st, ?_, by rw [List.size_toArray, ← il]; exact hne, ⟨?_, ?_, ?_, ?_⟩, ?_, ?_⟩
  · intro b hb
    have := hfp b hb
    omega
  · -- J is kept
    rintro t t' ⟨H', tm, I', u, d1, d2⟩ mv
    have hh : ∀ b o, b ∉ [S, B] → t.heap.get? b = some o → t'.heap.get? b = some o := fun b o hb q => mv.heap b o hb q
    have ge : t'.gens = t.gens := mv.gens
    have de := mv.drawn
    have oe := mv.os
    obtain ⟨h', g', d', tk', o'⟩ := t'
    dsimp only at hh ge de oe
    subst ge de oe
    refine ⟨H', tm, I'.turnedL (ch := [S, B]) hh fun b hb => ?_, ?_, d1, d2⟩
    · rcases List.mem_cons.mp hb with z | z
      · exact z ▸ I.fpOk (by omega) d1
      · rw [List.mem_singleton] at z
        exact z ▸ I.fpOk (by omega) d2
    · have ne : ∀ b o, s.heap.get? b = some o → b ∉ [S, B] := fun b o q z => by
        rcases List.mem_cons.mp z with z | z
        · exact (nB b o q).1 z
        · exact (nB b o q).2 (List.mem_singleton.mp z)
      refine ⟨fun b o q n h1 h2 => hh b o (ne b o q) (u.keep b o q n h1 h2), fun b o q n h1 h2 => ?_, u.free, fun b o q h2 => ?_, u.tups, u.frzs, u.tbls⟩
      · obtain ⟨sl, z⟩ := u.slot b o q n h1 h2
        exact ⟨sl, hh b _ (ne b o q) z⟩
      · obtain ⟨o', z⟩ := u.there b o q h2
        exact ⟨o', hh b _ (ne b o q) z⟩
  · -- what a key is, is kept
    rintro i k t t' ⟨p, r, rfl, hr, ⟨us, n, v, hp⟩, h0, h1, h2, h3⟩ mv
    exact ⟨p, r, rfl, hr, ⟨us, n, v, mv.heap p _ (by simp [h1, h2]) hp⟩, h0, h1, h2, h3⟩
  · -- a key is asked for
    rintro i v t o Q' E' hi hP ⟨H', tm, I', u, d1, d2⟩ ⟨⟨oI, hoI, cI, dI⟩, lst⟩ hSo cont
    have hv : its[i]? = some v := by simpa using hP
    obtain ⟨x, hxi, rx⟩ := vals_get rv hv
    obtain ⟨r, hri⟩ : ∃ r, rs[i]? = some r := ⟨_, List.getElem?_eq_getElem (by rw [hk]; exact (List.getElem?_eq_some_iff.mp hxi).1)⟩
    refine wpAny_call (codeAny_mono (turn i x r hxi hri t H' v tm.s I' (fun b o q n hb => u.keep b o q n hb (by simp)) rx) fun res t' hq => ?_)
    cases res with
    | error e => exact hq.elim
    | ok fl =>
      cases fl with
      | next => exact False.elim hq
      | brk => exact False.elim hq
      | cont => exact False.elim hq
      | ret u' =>
        obtain ⟨v', H'', os, bare, un, hok, rel, p, H2, rfl, sm, np, rfl⟩ := hq
        obtain rfl : u' = Value.ref p := rel
        have un2 := drop_un np sm un
        have ok2 := drop_ok np hok
        have sm2 : Same H H2 := tm.s.trans sm
        have un3 := tame_un tm sm un2
        have ok3 := tame_ok (P := X.prog) (w := X.w) sm2 I.hok ok2
        have I3 := I'.call' os un3 ok3 bare (fun b z => absurd z (by simp))
        have pn : H' p = none := sm.free np
        have pt : t.heap.get? p = none := by
          cases q : t.heap.get? p with
          | none => rfl
          | some ob =>
            have := un.free p ob q pn (by simp)
            rw [upd_same] at this; cases this
        have ne : ∀ b ob, t.heap.get? b = some ob → p ≠ b := fun b ob q z => by rw [z, q] at pt; cases pt
        have tm3 := tame_tame H H2
        have u3 := u.trans un3
        obtain ⟨its3, rv3, hl3, _⟩ := I3.list (tm3.s.seq hs)
        have ei := refs_same hx rv3 rv
        subst ei
        refine cont (.ref p) t' ⟨_, tm3, I3, u3, un3.free S o hSo d1 (by simp), un3.free B oI hoI d2 (by simp)⟩ ⟨⟨oI, un.keep B oI hoI d2 (stk B (by omega)) (by simp), cI, dI⟩, hl3.isList⟩ (un.keep S o hSo d1 (stk S (by omega)) (by simp)) ⟨p, r, rfl, hri, ?_, tm.s.free pn, ne S o hSo, ne B oI hoI, fun z => ?_⟩ ?_
        · obtain ⟨_, us, n, vv, hp⟩ := hok p _ upd_same
          exact ⟨us, n, vv, hp⟩
        · obtain ⟨ob, q⟩ := frs_there I' z
          rw [pt] at q; cases q
        · rintro j k' ⟨p', r', rfl, hr', ⟨us, n, vv, hp'⟩, h0, h1, h2, h3⟩
          have z : H' p' = none := by
            rcases tm.n p' h0 with z | ⟨ys, z⟩
            · exact z
            · obtain ⟨_, _, _, ob, q, cl, _⟩ := I'.hok p' _ z
              rw [hp'] at q
              cases q
              exact absurd (Value.type.inj cl) (by decide)
          exact ⟨p', r', rfl, hr', ⟨us, n, vv, un.keep p' _ hp' z h3 (by simp)⟩, h0, h1, h2, h3⟩
  · -- two keys are held against one another
    rintro i j ki kj t Q' E' _ ⟨p, r, rfl, hr, x1, _⟩ ⟨p', r', rfl, hr', x2, _⟩ hq
    obtain ⟨as, ra⟩ := x1.reads
    obtain ⟨bs, rb⟩ := x2.reads
    refine rcLt_alike _ _ X.A.in1 t _ _ as bs ra rb (alike_ints r r') (fun z => by cases z) (by rw [rowD_depth, rowD_depth]; show X.A.units + 1 + 1 < cLine; omega) X.prog X.w E' Q' ?_
    have e1 : rs.getD i [] = r := by rw [List.getD_eq_getElem?_getD, hr]; rfl
    have e2 : rs.getD j [] = r' := by rw [List.getD_eq_getElem?_getD, hr']; rfl
    rw [lt_ints, ← e1, ← e2]; exact hq
  · -- at the start
    subst e
    exact ⟨H, ⟨Same.refl H, fun b z => .inl z⟩, I.kept (t' := s.toks) hkeep, Un.kept hkeep, I.hok.fresh (by omega), I.hok.fresh (by omega)⟩
  · -- the answer
    rintro v t' hP ⟨H', tm, I', _, _, _⟩
    have en : its.toArray.size - 1 = xs.length - 1 := by rw [List.size_toArray, il]
    rw [en] at hP
    obtain ⟨b1, b2⟩ := best_least rs (xs.length - 1)
    generalize argBest (fun i j => decide (rs.getD i [] < rs.getD j [])) (xs.length - 1) = m at *
    have hv : its[m]? = some v := by simpa using hP
    obtain ⟨x, hxm, rx⟩ := vals_get rv hv
    have hm : m < rs.length := by omega
    refine ⟨x, H', I', rx, fin m x (rs.getD m []) H' hxm (by rw [List.getD_eq_getElem?_getD, List.getElem?_eq_getElem hm]; rfl) (fun y hy => ?_) tm.s⟩
    obtain ⟨j, hj, rfl⟩ := List.getElem_of_mem hy
    have := b2 j (by omega)
    rw [List.getD_eq_getElem?_getD, List.getElem?_eq_getElem hj] at this
    exact this
end
section
variable {X : Cx}
/-- the lambda's code objects are told at Pt, by the name q -/
abbrev TabAt (H : Hp) (Pt : Addr) (q : Str) : Prop := LamX.TabS H Pt q
theorem seqN {K : PySem.W.Frag} {H H' : Hp} {a : Addr} {xs : List V} (e : LamX.ExtN H H') (h : SqL K H a xs) : SqL K H' a xs := by
  rcases h with (h | ⟨o, h⟩) | h
  · exact .inl (.inl (e _ _ h fun _ z => by cases z))
  · exact .inl (.inr ⟨o, e _ _ h fun _ z => by cases z⟩)
  · exact .inr h
/-- what the body of the lambda leaves: a new list -/
def NewRow (H' : Hp) (r : List Int) : VK := fun v H'' => ∃ (p : Addr) (H2 : Hp), v = .ref p ∧ Same H' H2 ∧ H2 p = none ∧ H'' = upd H2 p (.lst (r.map V.int))
def rMinLam (K : PySem.W.Frag) (Pt : Addr) (q : Str) (tb : TE) (Q : VK) (v : V) (H1 : Hp) : Prop := TabAt H1 Pt q ∧ ∃ (a : Addr) (xs : List V) (rs : List (List Int)), v = .ref a ∧ SqL K H1 a xs ∧ (∀ x ∈ xs, ∃ b, x = V.ref b) ∧ rs.length = xs.length ∧ 0 < xs.length ∧
  (∀ (i : Nat) (x : V) (r : List Int), xs[i]? = some x → rs[i]? = some r → ∀ H', LamX.ExtN H1 H' → tb [some x] H' (NewRow H' r)) ∧
  ∀ (i : Nat) (x : V) (r : List Int) (H' : Hp), xs[i]? = some x → rs[i]? = some r → (∀ y, y ∈ rs → ¬ y < r) → LamX.ExtN H1 H' → TabAt H' Pt q → Q x H'
def tMinLam (K : PySem.W.Frag) (Pt : Addr) (q : Str) (te tb : TE) : TE := fun σ H Q => te σ H (rMinLam K Pt q tb Q)
theorem pe_minLam {c Pt : Addr} {k : Nat} {nm : Str} {e : Expr} {te tb : TE} {params : Arguments} {body : Expr} {scope : Scope} {lpos kpos p pos : Pos} (TB : LamX.TabB X.base X.mg c Pt) (hcode : X.env.code = .ref c) (hr : Room (k + 1) X.A.in1) (hc : X.calm = true) (hu : X.A.units + 64 < cLine)
    (S : FnScope [nm] [nm] scope) (hbody : ∀ (A : Around) (outer : List Env) (s : Shared) (H : Hp) (E : XK) (f c' : Addr), Room k (A.deeper (envOfC (X.env.qual ++ "<lambda>") scope s.heap.objs.size f (.ref c'))) → PE (cxOf CX0 X.prog X.w X.K X.mg X.base [nm] (X.env.qual ++ "<lambda>") scope f (.ref c') A outer s H E) body tb)
    (hdef : defaultsOf params X.env = ([], [])) (hclo : cloFrom X.env.cells scope.names [] = [])
    (hbind : ∀ (qual : Str) (pm cv ctv u : Value), bindArgs (kla_fn "<lambda>" qual params body scope [] pm cv ctv) ⟨[u], []⟩ = pure ([nm].zip [u]))
    (hg : Gl X "min") (hm : X.mg "min" = none) (hv : bootBuiltins "min" = some (.builtin "min")) (ha : PA X [e] (tCons te tNil))
    (he : backTo pos (starEach [e] X.env) = (false, eval e X.env) :: backTo pos (starEach [] X.env) := by rfl) (hpl : (backTo pos (starEach [e] X.env)).any (·.1) = false := by rfl)
    (hall : (backToKw pos (keywordEach [⟨some "key", .Lambda params body scope lpos, kpos⟩] X.env)).all (·.1.isSome) = true := by rfl) (hnone : (backToKw pos (keywordEach [⟨some "key", .Lambda params body scope lpos, kpos⟩] X.env)).any (·.1.isNone) = false := by rfl)
    (hks : (backToKw pos (keywordEach [⟨some "key", .Lambda params body scope lpos, kpos⟩] X.env)).filterMap (·.1) = [Str.ofString "key"] := by rfl) :
    PE X (.Call (.Name "min" p) [e] [⟨some "key", .Lambda params body scope lpos, kpos⟩] pos) (tMinLam X.K Pt (X.env.qual ++ "<lambda>") te tb) := by
  refine ⟨fun pins s σ H Q I h => ?_⟩
  refine wpAny_Call_Name_kw (ld_blt I hg hm hv ?_ (by decide) (by decide))
  refine PyProof.Rows.callWith_kw (thn (ha.run pos pins s σ H (fun vs H1 => ∃ v, vs = [v] ∧ rMinLam X.K Pt (X.env.qual ++ "<lambda>") tb Q v H1) I ?_) fun us s1 ⟨vs, H1, I1, r1, v, e1, q1⟩ => ?_) he hpl hall hnone
  · have key : ∀ v H1, rMinLam X.K Pt (X.env.qual ++ "<lambda>") tb Q v H1 → ∃ w, [v] = [w] ∧ rMinLam X.K Pt (X.env.qual ++ "<lambda>") tb Q w H1 := fun v H1 z => ⟨v, rfl, z⟩
    have h' : te σ H (rMinLam X.K Pt (X.env.qual ++ "<lambda>") tb Q) := h
    show te σ H fun x H1 => ∃ w, [x] = [w] ∧ rMinLam X.K Pt (X.env.qual ++ "<lambda>") tb Q w H1
    have ef : (fun x H1 => ∃ w, [x] = [w] ∧ rMinLam X.K Pt (X.env.qual ++ "<lambda>") tb Q w H1) = rMinLam X.K Pt (X.env.qual ++ "<lambda>") tb Q := by
      funext x H1
      exact propext ⟨fun ⟨w, e, z⟩ => by injection e with e; rw [e]; exact z, key x H1⟩
    rw [ef]; exact h'
  subst e1
  obtain ⟨tab, a, xs, rs, rfl, hs, hx, hk, hne, turn, fin⟩ := q1
  obtain rfl := Vals.ref1 r1
  refine wpAny_evalAll_cons (wpAny_bind (LamX.lam_make2 (T := [(Pt, X.env.qual ++ "<lambda>")]) I1 TB hcode (by simp) (fun y hy _ => by rw [List.mem_singleton.1 hy]) (fun y hy => by rw [List.mem_singleton.1 hy]; exact tab) hdef (fun y hy z => absurd z (S.nofree y hy)) fun f c' pm ctv H2 s2 I2 eN T2 hf hfn hfr hco => wpAny_bind (wpAny_standAt (wpAny_pure ?_))))
  refine wpAny_evalAll_nil ?_
  rw [hks]
  rw [hclo] at hf
  have tab2 := T2 _ (List.mem_singleton.2 rfl)
  refine min_key I2 hc hu (seqN eN hs) hx hk hne (fun i x r hxi hri t H' u sm I' kp rel => ?_) fun i x r H' hxi hri hl sm => fin i x r H' hxi hri hl (eN.trans (LamX.ExtN.of sm)) (tab2.ext sm)
  obtain ⟨⟨oc, vs, tk, e1, e2, e3⟩, _, _⟩ := I'.hok c' _ (sm _ _ hco)
  exact lam_run S (kp f _ hf hfn hfr) ⟨c', oc, vs, tk, rfl, e1, e2, e3⟩ (hbind _ _ _ _ _) hr I'.env0.in1 (.cons rel .nil) rfl fun hr2 => ⟨tb, hbody _ _ _ _ _ _ _ hr2, turn i x r hxi hri H' (eN.trans (LamX.ExtN.of sm))⟩
end
end Py

set_option Elab.async false
set_option linter.all false
set_option maxRecDepth 100000
set_option maxHeartbeats 2000000
/-! # Defs that hand a lambda on: tables of code objects that grow -/
namespace Py
open PySem PySem.Spec PySem.W PyProof.Rows L2
/-! ### A heap without its tables -/
def noT (G : Hp) : Hp := fun b => match G b with
  | some (.tbl _) => none
  | o => o
theorem noT_at {G : Hp} {b : Addr} {o : HO} (e : noT G b = some o) : G b = some o ∧ ∀ ps, o ≠ .tbl ps := by
  unfold noT at e
  cases q : G b with
  | none => rw [q] at e; cases e
  | some u =>
    rw [q] at e
    cases u with
    | tbl ps => cases e
    | _ => cases e; exact ⟨rfl, fun _ z => nomatch z⟩
theorem noT_of {G : Hp} {b : Addr} {o : HO} (e : G b = some o) (n : ∀ ps, o ≠ .tbl ps) : noT G b = some o := by
  unfold noT
  rw [e]
  cases o with
  | tbl ps => exact absurd rfl (n ps)
  | _ => rfl
theorem noT_same (G : Hp) : Same (noT G) G := fun _ _ e => (noT_at e).1
theorem noT_grown {G H H' : Hp} (s : Same G H) (e : LamX.ExtN H H') : Same (noT G) H' := fun b o q => e b o (s b o (noT_at q).1) (noT_at q).2
theorem noT_noT {G : Hp} {b : Addr} {ps : Array Value} : noT G b ≠ some (.tbl ps) := fun z => (noT_at z).2 ps rfl
/-- a fact that asks no table -/
def Plain (F : MP) : Prop := ∀ G v, F.p G v → F.p (noT G) v
theorem plain_v (x : V) : Plain (.v x) := fun _ _ h => h
theorem seqT {K : Frag} {G : Hp} {a : Addr} {xs : List V} (h : SqL K G a xs) : SqL K (noT G) a xs := by
  rcases h with (h | ⟨o, h⟩) | h
  · exact .inl (.inl (noT_of h fun _ z => by cases z))
  · exact .inl (.inr ⟨o, noT_of h fun _ z => by cases z⟩)
  · exact .inr h
theorem plain_pair {G : Hp} : ∀ {vs : List V} {Fs : List MP}, (∀ F ∈ Fs, Plain F) → PairG G vs Fs → PairG (noT G) vs Fs
  | _, _, _, .nil => .nil
  | _, _, h, .cons a t => .cons (h _ (List.mem_cons_self ..) _ _ a) (plain_pair (fun F hF => h F (List.mem_cons_of_mem _ hF)) t)
theorem plain_sq {K : Frag} {Fs : List MP} (h : ∀ F ∈ Fs, Plain F) : Plain (.sq K Fs) := fun _ _ ⟨a, vs, e, q, r⟩ => ⟨a, vs, e, seqT q, plain_pair h r⟩
theorem plain_lst {Fs : List MP} (h : ∀ F ∈ Fs, Plain F) : Plain (.lst Fs) := fun _ _ ⟨a, vs, e, q, r⟩ => ⟨a, vs, e, noT_of q (fun _ z => by cases z), plain_pair h r⟩
theorem plain_nums (ns : List Int) : ∀ F ∈ nums ns, Plain F := fun F hF => by
  obtain ⟨n, _, rfl⟩ := List.mem_map.1 hF
  exact plain_v _
theorem plain_il {K : Frag} (ns : List Int) : Plain (.il K ns) := plain_sq (plain_nums ns)
theorem plain_row (ns : List Int) : Plain (.row ns) := plain_lst (plain_nums ns)
theorem plain_rows (rs : List (List Int)) : Plain (.rows rs) := plain_lst fun F hF => by
  obtain ⟨n, _, rfl⟩ := List.mem_map.1 hF
  exact plain_row _
/-! ### Statements while a table is told -/
def imOnly : List En → Bool
  | [] => true
  | .no :: l => imOnly l
  | .im _ :: l => imOnly l
  | .mu _ :: _ => false
  | .sh _ _ :: _ => false
  | .rd _ _ :: _ => false
theorem imOnly_at : ∀ {C : List En} {i : Nat} {e : En}, imOnly C = true → C[i]? = some e → e = .no ∨ ∃ F, e = .im F
  | [], _, _, _, g => by simp at g
  | .no :: l, 0, _, _, g => by simp at g; exact .inl g.symm
  | .im F :: l, 0, _, _, g => by simp at g; exact .inr ⟨F, g.symm⟩
  | .no :: l, i + 1, _, h, g => imOnly_at (C := l) (i := i) h (by simpa using g)
  | .im F :: l, i + 1, _, h, g => imOnly_at (C := l) (i := i) h (by simpa using g)
  | .mu _ :: _, _, _, h, _ => by cases h
  | .sh _ _ :: _, _, _, h, _ => by cases h
  | .rd _ _ :: _, _, _, h, _ => by cases h
def plainC (C : List En) : Prop := ∀ F, En.im F ∈ C → Plain F
section
variable {C : List En} {G0 H0 G H H' : Hp} {s : L2.St} {Pt : Addr} {q : Str} {rt : MP → Prop}
theorem Sta.anew (S : Sta G0 H0 C G H s) (h : imOnly C = true) (sm : Same G H') : Sta G H' C G H' s where
  ext := Ext.refl sm
  len := S.len
  at_ := fun i e g => by
    obtain ⟨x, a, b⟩ := S.at_ i e g
    rcases imOnly_at h g with z | ⟨F, z⟩
    · subst z; exact ⟨x, a, trivial⟩
    · subst z; exact ⟨x, a, b⟩
  apart := fun i j Fs Es o _ g => by
    rcases imOnly_at h g with z | ⟨F, z⟩ <;> cases z
theorem Sta.plain (S : Sta G0 H0 C G H s) (h : imOnly C = true) (p : plainC C) (sm : Same (noT G) H') : Sta (noT G) H' C (noT G) H' s where
  ext := Ext.refl sm
  len := S.len
  at_ := fun i e g => by
    obtain ⟨x, a, b⟩ := S.at_ i e g
    rcases imOnly_at h g with z | ⟨F, z⟩
    · subst z; exact ⟨x, a, trivial⟩
    · subst z
      obtain ⟨v, e1, e2⟩ := b
      exact ⟨x, a, v, e1, p F (List.mem_of_getElem? g) _ _ e2⟩
  apart := fun i j Fs Es o _ g => by
    rcases imOnly_at h g with z | ⟨F, z⟩ <;> cases z
/-- a body's part that ends in a return, while Pt's table is told -/
def ExT (Pt : Addr) (q : Str) (t : TS) (C : List En) (rt : MP → Prop) : Prop := ∀ G H s, Sta G H C G H s → TabAt H Pt q → ∀ D : Ends, (∀ F G' H' v, rt F → Same G' H' → F.p G' v → D.rt v H') → t D s H
theorem ext_of {t : TS} (h : Ex t C { nx := fun _ => False, rt := rt }) : ExT Pt q t C rt := fun G H s S _ D h4 =>
  h G H G H s S D (fun _ _ _ _ z => z.elim) (fun _ _ _ _ z => z.elim) (fun _ _ _ _ z => z.elim) fun F G' H' v r e p => h4 F G' H' v r e.gh p
theorem ext_seq {t u : TS} (h : Ex t C { nx := fun C' => imOnly C' = true ∧ ExT Pt q u C' rt, rt := rt }) : ExT Pt q (tSeq t u) C rt := fun G H s S tb D h4 =>
  h G H G H s S { D with nx := u D } (fun C' G' H' s' z S' => z.2 G' H' s' (S'.anew z.1 S'.gh) (tb.ext S'.ext.h) D h4) (fun _ _ _ _ z => z.elim) (fun _ _ _ _ z => z.elim) fun F G' H' v r e p => h4 F G' H' v r e.gh p
end
/-! ### The first of the least -/
def keyOf (x : List Int) : List Int := Si18.square x :: x
structure FirstPre (pts : List (List Int)) : Prop where
  ne : pts ≠ []
  big : ∀ x, x ∈ pts → x.length ≤ 1000 ∧ ∀ a, a ∈ x → a.natAbs < 2 ^ 12
def spFirst (Pt : Addr) (q : Str) : Sp := fun vs H Q _ => ∃ (G : Hp) (pts : List (List Int)), FirstPre pts ∧ Same G H ∧ (∀ b ps, G b ≠ some (.tbl ps)) ∧ PairG G vs [.rows pts] ∧ TabAt H Pt q ∧
  ∀ H' v x, x ∈ pts → (∀ y, y ∈ pts → ¬ keyOf y < keyOf x) → LamX.ExtN H H' → TabAt H' Pt q → (MP.row x).p G v → Q v H'
theorem spFirst_len {Pt : Addr} {q : Str} (vs : List V) (H : Hp) (Q : VK) (E : XK) (h : spFirst Pt q vs H Q E) : vs.length = 1 := by
  obtain ⟨G, pts, _, _, _, p, _⟩ := h
  exact Paired.length p
section
variable {C : List En} {Pt : Addr} {q : Str} {rt : MP → Prop}
theorem ext_first {X : XK} {ta : TA} {i : Nat} {u : TS} {pts : List (List Int)} (h : Ea ta C [.rows pts]) (hp : FirstPre pts) (im : imOnly C = true) (pl : plainC C)
    (hn : ∀ x, x ∈ pts → (∀ y, y ∈ pts → ¬ keyOf y < keyOf x) → ExT Pt q u (C.set i (.im (.row x))) rt) : ExT Pt q (tSeq (tAsg (tCall (spFirst Pt q) [] X ta) (gName i)) u) C rt := fun G H s S tb D h4 =>
  h G H G H s S _ fun G1 H1 vs e p => by
    show spFirst Pt q (vs ++ []) H1 _ X
    rw [List.append_nil]
    refine ⟨noT G1, pts, hp, (noT_same G1).trans e.gh, fun _ _ => noT_noT, plain_pair (fun F hF => by rw [List.mem_singleton.1 hF]; exact plain_rows _) p, tb.ext e.h, fun H' v x hx hl eN tb' pv => ?_⟩
    have S1 := (S.mono e).plain im pl (noT_grown e.gh eN)
    exact hn x hx hl (noT G1) H' _ (S1.put pv) tb' D h4
/-- the def's body: the least of the keys -/
theorem first_body {K : Frag} {tb : TE} {N : List Str} {vs : List V} {H : Hp} {Q : VK} {E : XK} (h : spFirst Pt q vs H Q E) (h0 : ∀ v, (L2.start N [v])[0]? = some (some v))
    (hb : ∀ (G H' : Hp) (x : V) (pt : List Int), Same G H' → (MP.row pt).p G x → pt.length ≤ 1000 → (∀ a, a ∈ pt → a.natAbs < 2 ^ 12) → tb [some x] H' (NewRow H' (keyOf pt))) :
    tRet (tMinLam K Pt q (tVar 0) tb) { nx := fun _ H' => Q .non H', rt := Q } (L2.start N vs) H := by
  obtain ⟨G, pts, hp, sm, nt, p, tab, fin⟩ := h
  obtain ⟨v, rfl, a, xs, rfl, ga, px⟩ := pair1 p
  have lx := Paired.length px
  rw [List.length_map] at lx
  have at_ : ∀ (i : Nat) (x : V), xs[i]? = some x → ∃ pt, pts[i]? = some pt ∧ (MP.row pt).p G x := fun i x hx => by
    obtain ⟨pt, hpt⟩ : ∃ pt, pts[i]? = some pt := ⟨_, List.getElem?_eq_getElem (by have := (List.getElem?_eq_some_iff.mp hx).1; omega)⟩
    obtain ⟨w, hw, pw⟩ := px.get (show (pts.map MP.row)[i]? = some (MP.row pt) by rw [List.getElem?_map, hpt]; rfl)
    rw [hx] at hw
    cases hw
    exact ⟨pt, hpt, pw⟩
  have grown : ∀ H', LamX.ExtN H H' → Same G H' := fun H' e b o z => e b o (sm b o z) fun ps w => nt b ps (by rw [z, w])
  refine ⟨_, h0 _, tab, a, xs, pts.map keyOf, rfl, sm.seq (SqL.of ga), fun x hx => ?_, by rw [List.length_map, lx], ?_, fun i x r hx hr H' e => ?_, fun i x r H' hx hr hl e tb' => ?_⟩
  · obtain ⟨i, hi, rfl⟩ := List.getElem_of_mem hx
    obtain ⟨_, _, b, _, e, _⟩ := at_ i _ (List.getElem?_eq_getElem hi)
    exact ⟨b, e⟩
  · rcases Nat.eq_zero_or_pos xs.length with z | z
    · exact absurd (List.eq_nil_of_length_eq_zero (by omega)) hp.ne
    · exact z
  · obtain ⟨pt, hpt, pw⟩ := at_ i x hx
    rw [List.getElem?_map, hpt] at hr
    obtain rfl := Option.some.inj hr
    obtain ⟨b1, b2⟩ := hp.big pt (List.mem_of_getElem? hpt)
    exact hb G H' x pt (grown H' e) pw b1 b2
  · obtain ⟨pt, hpt, pw⟩ := at_ i x hx
    rw [List.getElem?_map, hpt] at hr
    obtain rfl := Option.some.inj hr
    exact fin H' x pt (List.mem_of_getElem? hpt) (fun y hy => hl _ (List.mem_map.2 ⟨y, hy, rfl⟩)) e tb' pw
/-- [number] + row, a new list -/
theorem key_new {K : Frag} {t : TE} {G H' : Hp} {x : V} {pt : List Int} {z : Int} (sm : Same G H') (px : (MP.row pt).p G x) (hl : pt.length ≤ 1000) (h : Ev t [.im (.row pt)] (.i z)) : tOp rCat (tLst (tCons t tNil)) (tVar 0) [some x] H' (NewRow H' (z :: pt)) := by
  have S : Sta G H' [.im (.row pt)] G H' [some x] := ⟨Ext.refl sm, rfl, fun i e q => by
    match i, q with
    | 0, q =>
      simp at q
      subst q
      exact ⟨some x, rfl, x, rfl, px⟩, fun i j Fs Es o _ q => by
    match i, q with
    | 0, q => simp at q⟩
  show tLst (tCons t tNil) [some x] H' fun u H1 => tVar 0 [some x] H1 fun y H2 => rCat u y H2 (NewRow H' (z :: pt))
  refine ea_cons h ea_nil G H' G H' _ S _ fun G1 H1 vs e p => ⟨by rw [Paired.length p]; show 1 ≤ sizeLine; decide, fun a ha => ?_⟩
  obtain ⟨b, ws, rfl, gb, pw⟩ := px
  have vz : vs = [V.int z] := by
    obtain ⟨v, rfl, ev⟩ := pair1 p
    rw [show v = V.int z from ev]
  subst vz
  have hb := e.gh _ _ (e.g _ _ gb)
  refine ⟨V.ref b, rfl, a, b, [V.int z], ws, rfl, rfl, upd_same, by rw [upd_ne (ne_of_none hb ha)]; exact hb, ?_, fun r hr => ⟨r, upd H1 a (.lst [V.int z]), rfl, e.h.trans (same_new ha), hr, ?_⟩⟩
  · have := Paired.length pw
    rw [nums_length] at this
    show 1 + ws.length ≤ sizeLine
    have : 1 + ws.length ≤ 1001 := by omega
    exact Nat.le_trans this (by decide)
  · rw [pair_nums pw]; rfl
end
theorem ev_orT {K : Frag} {C : List En} {F : MP} {t u : TE} {m : Int} (h : Ev t C (.i m)) (h1 : m ≠ 0 → (MP.i m).le F) (h2 : m = 0 → Ev u C F) : Ev (tOrT K t u) C F := fun G0 H0 G H s S Q z =>
  h G0 H0 G H s S _ fun G1 H1 x e1 p1 => ⟨m != 0, by rw [show x = V.int m from p1]; rfl, by
    by_cases e : m = 0
    · rw [if_neg (by simp [e])]
      exact h2 e G0 H0 G1 H1 s (S.mono e1) Q fun G2 H2 v e2 p2 => z G2 H2 v (e1.trans e2) p2
    · rw [if_pos (by simpa using e)]
      exact z G1 H1 x e1 (h1 e _ _ p1)⟩
/-! ### The promise of the program's def -/
def spT {B : Type} (Pt : Addr) (q : Str) (pre : B → Prop) (args : B → List MP) (post : B → MP) : Sp := fun vs H Q _ => ∃ (G : Hp) (c : B), pre c ∧ Same G H ∧ PairG G vs (args c) ∧ TabAt H Pt q ∧ ∀ G' H' v, Same G' H' → (post c).p G' v → Q v H'
theorem spT_body {B : Type} {Pt : Addr} {q : Str} {pre : B → Prop} {args : B → List MP} {post : B → MP} {vs : List V} {H : Hp} {Q : VK} {X : XK} {N : List Str} {t : TS} (h : spT Pt q pre args post vs H Q X)
    (hb : ∀ c, pre c → ExT Pt q t (envOf (args c) N.length) fun F => F.le (post c)) : t { nx := fun _ H' => Q .non H', rt := Q } (L2.start N vs) H := by
  obtain ⟨G, c, hc, s, p, tb, fin⟩ := h
  exact hb c hc G H _ (sta_start s p) tb _ fun F G' H' v l sm pv => fin G' H' v sm (l _ _ pv)
theorem spT_len {B : Type} {Pt : Addr} {q : Str} {pre : B → Prop} {args : B → List MP} {post : B → MP} {n : Nat} (hn : ∀ c, (args c).length = n) (vs : List V) (H : Hp) (Q : VK) (X : XK) (h : spT Pt q pre args post vs H Q X) : vs.length = n := by
  obtain ⟨G, c, _, _, p, _⟩ := h
  rw [Paired.length p, hn]
/-! ### The end -/
theorem fun_code {P : Program} {w : World} {K : Frag} {mg : Str → Option Value} {base : Heap} {x qual : Str} {st : Stmt} {f c : Addr} {fd : FuncData} {N ps : List Str} {k : Nat} {sp : Sp} (F : Fun K x qual st f fd) (hcode : fd.code = .ref c) (S : FnScope N ps (defScope st)) (len : ∀ vs H Q E, sp vs H Q E → vs.length = ps.length)
    (hbody : ∀ (A : Around) (outer : List Env) (s : Shared) (H : Hp) (vs : List V) (Q : VK) (E : XK), Room k (A.deeper (envOfC qual (defScope st) s.heap.objs.size f (.ref c))) → sp vs H Q E →
      ∃ t, PSs (cxOf CX0 P w K mg base N qual (defScope st) f (.ref c) A outer s H E).nox (defBody st) t ∧ t { nx := fun _ H' => Q .non H', rt := Q } (L2.start N vs) H) : FnOk P w K mg base CX0 (k + 1) f fd ps sp := by
  obtain ⟨oc, od, kV, dc, pm, an, cdv, ct, osl, rfl, lk, hcd⟩ := F.ex
  obtain rfl : cdv = Value.ref c := hcode
  refine fn_of lk hcd S len fun A outer s H vs Q E hr hsp => ?_
  obtain ⟨t, der, z⟩ := hbody A outer s H vs Q E hr hsp
  exact ⟨t, der.nox, z⟩
/-- what is told at the call: the arguments, and one table -/
def withT (H : Hp) (Pt : Addr) : Hp := fun b => if b = Pt then some (.tbl #[]) else H b
theorem walk_specT {r : OpenSpec} {k : Nat} {q : Program} {loose : List Str} {XP : (Str → Option Value) → Heap → Prop} {YP : World → Heap → Prop} {d : DefRec} {K : Params → Frag} {ps : List Str} {sp : Frag → Sp} {x : Str} {c Pt : Addr} {e0 : DefRec}
    (hwell : r.wellSaid = true) (hdf : d.params.defaults = []) (hlen : r.args.length = ps.length) (hr : Room k callerA) (hY : ∀ (w : World) (h : Heap), YP w h → (K w.params).In h)
    (hrec : (recsOf q).find? (fun e => e.name == x) = some e0) (htab : ∀ p, tabIn (K p) x = some (c, Pt)) (hout : ∀ p, (K p).lookup Pt = none)
    (F : ∀ (w : World) (mg : Str → Option Value) (fa : Addr) (h : Heap), YP w h → (K w.params).In h → h.Ns mainGlobals mg → mg d.name = some (.ref fa) →
      ∃ fd : FuncData, (∀ (s : Shared) (us : List Value), us.length = ps.length → BindsTo s fd ⟨us, []⟩ (ps.zip us)) ∧ ∀ base : Heap, (K w.params).In base → base.Ns mainGlobals mg → LamX.TabB base mg c Pt → FnOk r.prog w (K w.params) mg base CX0 k fa fd ps (sp (K w.params)))
    (hsp : ∀ (K : Frag) (H0 H : Hp) (xs : List V) (a : Codec.denoteAll r.args), Same H0 H → H Pt = some (.tbl #[]) → Codec.withinAll r.args a = true → Codec.app r.args r.asked a = true → DwAll K H0 xs (Codec.encAll r.args a) →
      sp K xs H (fun v H' => Dw K H' v (r.ret.enc (Codec.app r.args r.f a))) E0) : WalkOS q loose XP YP r d [] (fun f vs => PySem.call f vs) := by
  intro w s₀ s₁ mg mb G Y fa o pm cd doc dV kV ho hd hcd hD hmg hg args vals as hpre hlay hrd hwl hlo
  obtain ⟨a, ea, asked⟩ := os_pre_some hpre
  obtain ⟨rfl, hwi⟩ := Codec.encAll_of_decAll r.args args a ea
  have KX := hY w _ Y
  obtain ⟨fd, binds, hF⟩ := F w mg fa _ Y KX G.T.g hmg
  obtain ⟨hcode, hP⟩ := tab_of G.T KX hrec (htab w.params)
  have noK := hout w.params
  generalize K w.params = K at KX hF noK
  obtain ⟨A, inA, arg⟩ := area_all (Codec.encAll r.args a) vals hwl (pl_encAll _ _) (layable_weight hlay)
  -- what is told: the arguments, the table
  have told0 : ∀ b u, argH K s₁.heap A b = some u → b ≠ Pt ∧ K.lookup b = none ∧ ∃ vs : List Value, (∃ cl, s₁.heap.get? b = some { cls := .type cl, data := .seq vs.toArray }) ∧ ∃ ob u', u = .frz ob u' := fun b u z => by
    obtain ⟨hk, vs, _, _, y⟩ := argH_is arg z
    rcases y with ⟨y1, y2⟩ | ⟨y1, y2⟩
    · refine ⟨fun e => ?_, hk, vs, ⟨_, y1⟩, _, _, y2⟩
      rw [e, hP] at y1
      cases y1
    · refine ⟨fun e => ?_, hk, vs, ⟨_, y1⟩, _, _, y2⟩
      rw [e, hP] at y1
      cases y1
  have sm : Same (argH K s₁.heap A) (withT (argH K s₁.heap A) Pt) := fun b u z => by
    unfold withT
    rw [if_neg (told0 b u z).1]; exact z
  have told : ∀ b u, withT (argH K s₁.heap A) Pt b = some u → (b = Pt ∧ u = .tbl #[]) ∨ argH K s₁.heap A b = some u := fun b u z => by
    unfold withT at z
    by_cases h : b = Pt
    · rw [if_pos h] at z
      exact .inl ⟨h, (Option.some.inj z).symm⟩
    · rw [if_neg h] at z
      exact .inr z
  have hPt : withT (argH K s₁.heap A) Pt Pt = some (.tbl #[]) := if_pos rfl
  have hok : HOk r.prog w (withT (argH K s₁.heap A) Pt) s₁.heap := fun b u z => by
    rcases told b u z with ⟨rfl, rfl⟩ | z
    · exact hP
    · refine (argH_ok (P := r.prog) (w := w) arg b u z).stay (fun _ _ _ e => e) (fun y e => sm _ _ e) fun y xs e => sm _ _ e
  have hS := dw_all KX arg (Codec.encAll r.args a) vals hwl (pl_encAll _ _) inA
  have hV := vals_toV inA
  have call := hsp K _ _ (vals.map toV) a sm hPt hwi asked hS
  generalize withT (argH K s₁.heap A) Pt = H at told hPt hok call
  have free : ∀ {b : Addr} {ob : Obj}, s₁.heap.get? b = some ob → (∀ vs n, ob.data ≠ .seq vs n) → ob.data ≠ .fields #[] → H b = none := fun {b ob} e h1 h2 => by
    cases z : H b with
    | none => rfl
    | some u =>
      rcases told b u z with ⟨rfl, _⟩ | z
      · rw [hP] at e
        cases e
        exact absurd rfl h2
      · obtain ⟨_, _, vs, ⟨cl, y⟩, _⟩ := told0 b u z
        rw [y] at e
        cases e
        exact absurd rfl (h1 _ _)
  have hid : ∀ {b : Addr} {ob : Obj}, s₁.heap.get? b = some ob → H b = none → (hidT s₁.heap H).get? b = some ob := fun e n => hidT_get e n
  have ns : ∀ {b : Addr} {m : Str → Option Value}, s₁.heap.Ns b m → (hidT s₁.heap H).Ns b m := fun {b m} z => by
    obtain ⟨ob, es, ep, e, hd, y⟩ := z
    exact ⟨ob, es, ep, hid e (free e (fun vs n z => by rw [hd] at z; cases z) fun z => by rw [hd] at z; cases z), hd, y⟩
  have Kb : K.In (hidT s₁.heap H) := fun b ob e => hid (KX b ob e) (by
    cases z : H b with
    | none => rfl
    | some u =>
      rcases told b u z with ⟨rfl, _⟩ | z
      · rw [noK] at e; cases e
      · rw [(told0 b u z).2.1] at e; cases e)
  have md : Mod K mg (hidT s₁.heap H) := ⟨Kb, ns G.T.g, ⟨mb, ns G.T.b, G.T.builtins⟩, by
    obtain ⟨mc, y1, y2⟩ := G.T.nolimit
    exact ⟨mc, ns y1, y2⟩⟩
  have TB : LamX.TabB (hidT s₁.heap H) mg c Pt := by
    refine ⟨?_, ?_, fun z => ?_⟩
    · obtain ⟨ob, us, fl, tf, flags, tg, inF, text, tt, e1, y1, y2, y3, y⟩ := hcode
      refine ⟨ob, us, fl, tf, flags, tg, inF, text, tt, hid e1 (free e1 (fun vs n z => ?_) fun z => ?_), y1, y2, y3, y⟩
      · rw [y2] at z; cases z
      · rw [y2] at z
        cases z
        simp at y3
    · obtain ⟨bm, ob, b1, b2, b3, b4, b5, b6⟩ := G.T.bmain
      refine ⟨bm, ob, b1, b2, fun z => ?_, fun z => ?_, hid b3 (free b3 (fun vs n z => ?_) fun z => ?_), b4, b5, b6⟩
      · obtain ⟨og, es, ep, e, hd, _⟩ := G.T.g
        rw [z, e] at b3
        cases b3
        rw [hd] at b6; cases b6
      · rw [z, hP] at b3
        cases b3
        cases b6
      · rw [b6] at z; cases z
      · rw [b6] at z; cases z
    · obtain ⟨og, es, ep, e, hd, _⟩ := G.T.g
      rw [z, hP] at e
      cases e
      cases hd
  have env : Env0 r.prog w K mg (hidT s₁.heap H) callerA [] s₁ H := ⟨rfl, md, fun b ob e => of_hidT e, Nat.le_of_eq (hidT_size _ _), trivial, fun b hb => absurd hb List.not_mem_nil, hok, .of_eq hg⟩
  have hl : vals.length = ps.length := by rw [wellAll_len hwl, encAll_len]; exact hlen
  refine enter_call (codeAny_mono ((hF _ Kb (ns G.T.g) TB).run callerA [] s₁ H ⟨vals, []⟩ vals (vals.map toV) _ E0 hr env (binds s₁ vals hl) hV call) fun res s' z => ?_)
  cases res with
  | error e => exact (show False from z).elim
  | ok fl =>
    cases fl with
    | next => exact False.elim z
    | brk => exact False.elim z
    | cont => exact False.elim z
    | ret u =>
      obtain ⟨v, H', os, bare, un, ok', rel, y⟩ := z
      have kept : ∀ b ob, b ≠ Pt → s₁.heap.get? b = some ob → s'.heap.get? b = some ob := fun b ob nb e => by
        cases z : H b with
        | none => exact un.keep b ob e z (fun y => absurd y List.not_mem_nil) (by simp)
        | some u2 =>
          rcases told b u2 z with ⟨q1, _⟩ | q1
          · exact absurd q1 nb
          · obtain ⟨_, _, _, _, o2, u3, rfl⟩ := told0 b u2 q1
            have e1 := (hok b _ z).1
            have e2 := (ok' b _ (un.frzs b o2 u3 z)).1
            rw [e] at e1
            cases e1
            exact e2
      obtain ⟨more, hm⟩ := un.tbls Pt #[] hPt
      have grown : s'.heap.get? Pt = some { cls := .none, data := .fields (#[] ++ more) } := ok' Pt _ hm
      have KX' : K.In s'.heap := fun b ob e => kept b ob (fun z => by rw [z, noK] at e; cases e) (KX b ob e)
      obtain ⟨as', rd⟩ := Dw.reads (R := []) (cl := classAt s₀.heap) ok' KX' _ v u y rel
      refine ⟨.inl ⟨u, _, as', rfl, fun _ => rfl, rd, (OpenSpec.post_iff hwell hwi _ _).mpr rfl, fun z => Bool.noConfusion (show false = true from z)⟩, ⟨fun b ob e => ?_, fun b ob e => ?_⟩, os, bare⟩
      · by_cases hb : b = Pt
        · subst hb
          rw [hP] at e
          cases e
          exact .inr (.inl ⟨(hcode.tab hP).isCodeTable, rfl, #[], more, rfl, grown⟩)
        · exact .inl (kept b ob hb e)
      · by_cases hb : b = Pt
        · exact ⟨_, hb ▸ grown⟩
        · exact ⟨ob, kept b ob hb e⟩
end Py

set_option linter.all false
/-! # Plain lists and numbers: rows, minors, bounds of a determinant -/
namespace Mx
abbrev Row := List Int
abbrev Rows := List Row

/-! ### sums -/
theorem sum_abs {b : Nat} : ∀ {l : List Int}, (∀ x ∈ l, x.natAbs < 2 ^ b) → l.sum.natAbs ≤ l.length * 2 ^ b
  | [], _ => by simp
  | x :: l, h => by
    have h1 := h x List.mem_cons_self
    have h2 := sum_abs (l := l) fun y hy => h y (List.mem_cons_of_mem _ hy)
    rw [List.sum_cons, List.length_cons, Nat.add_mul, Nat.one_mul]
    omega
theorem sum_abs8 {b : Nat} {l : List Int} (h : ∀ x ∈ l, x.natAbs < 2 ^ b) (hl : l.length ≤ 7) : l.sum.natAbs < 2 ^ (b + 3) := by
  have h1 := sum_abs h
  have h2 : l.length * 2 ^ b ≤ 7 * 2 ^ b := Nat.mul_le_mul_right _ hl
  have h3 : 0 < 2 ^ b := Nat.two_pow_pos b
  rw [Nat.pow_add]
  omega
theorem mul_abs {x y : Int} {a b : Nat} (h1 : x.natAbs < 2 ^ a) (h2 : y.natAbs < 2 ^ b) : (x * y).natAbs < 2 ^ (a + b) := by
  rw [Int.natAbs_mul, Nat.pow_add]
  exact Nat.mul_lt_mul'' h1 h2
theorem abs_mono {x : Int} {a b : Nat} (h : x.natAbs < 2 ^ a) (hab : a ≤ b) : x.natAbs < 2 ^ b := Nat.lt_of_lt_of_le h (Nat.pow_le_pow_right (by decide) hab)

/-! ### rows -/
def BigR (a : Nat) (r : Row) : Prop := ∀ x ∈ r, x.natAbs < 2 ^ a
def Big (a : Nat) (rs : Rows) : Prop := ∀ r ∈ rs, BigR a r
structure Sqr (m : Nat) (rs : Rows) : Prop where
  len : rs.length = m
  wide : ∀ r ∈ rs, r.length = m
def minor (rs : Rows) (p q : Nat) : Rows := (rs.eraseIdx p).map fun r => r.eraseIdx q
theorem minor_sqr {m : Nat} {rs : Rows} (h : Sqr (m + 1) rs) {p q : Nat} (hp : p < m + 1) (hq : q < m + 1) : Sqr m (minor rs p q) := by
  refine ⟨?_, fun r hr => ?_⟩
  · unfold minor
    rw [List.length_map, List.length_eraseIdx_of_lt (by rw [h.len]; exact hp), h.len]
    rfl
  · unfold minor at hr
    obtain ⟨x, hx, rfl⟩ := List.mem_map.mp hr
    have hw := h.wide x (List.mem_of_mem_eraseIdx hx)
    rw [List.length_eraseIdx_of_lt (by rw [hw]; exact hq), hw]
    rfl
theorem minor_big {a : Nat} {rs : Rows} (h : Big a rs) (p q : Nat) : Big a (minor rs p q) := fun r hr x hx => by
  unfold minor at hr
  obtain ⟨y, hy, rfl⟩ := List.mem_map.mp hr
  exact h y (List.mem_of_mem_eraseIdx hy) x (List.mem_of_mem_eraseIdx hx)
theorem minor_zero {r : Row} {l : Rows} (q : Nat) : minor (r :: l) 0 q = l.map fun x => x.eraseIdx q := rfl
/-- the cofactor at a place -/
def cof (m : Nat) (rs : Rows) (p q : Nat) : Int := if (p + q) % 2 = 0 then Si18.det (m - 1) (minor rs p q) else -(Si18.det (m - 1) (minor rs p q))
def cofs (m : Nat) (rs : Rows) (p : Nat) : Row := (List.range m).map fun q => cof m rs p q
theorem cofs_length (m : Nat) (rs : Rows) (p : Nat) : (cofs m rs p).length = m := by unfold cofs; simp
theorem zipWith_range {m : Nat} {r : Row} {g : Nat → Int} (h : r.length = m) : List.zipWith (fun (x y : Int) => x * y) r ((List.range m).map g) = (List.range m).map fun j => r.getD j 0 * g j := by
  refine List.ext_getElem? fun i => ?_
  rw [List.getElem?_zipWith, List.getElem?_map, List.getElem?_map]
  by_cases hi : i < m
  · rw [List.getElem?_eq_getElem (by omega), List.getElem?_range hi]
    simp [List.getD, h, hi]
  · rw [List.getElem?_eq_none (by omega), List.getElem?_eq_none (l := List.range m) (by simpa using hi)]
    rfl
theorem det_cofs {m : Nat} {r : Row} {l : Rows} (h : Sqr (m + 1) (r :: l)) : Si18.dot r (cofs (m + 1) (r :: l) 0) = Si18.det (m + 1) (r :: l) := by
  have hr : r.length = m + 1 := h.wide r List.mem_cons_self
  unfold Si18.dot cofs
  rw [zipWith_range hr]
  unfold Si18.det
  congr 1
  refine List.map_congr_left fun j _ => ?_
  unfold cof
  rw [Nat.zero_add, minor_zero]
  show r.getD j 0 * (if j % 2 = 0 then Si18.det m (l.map fun x => x.eraseIdx j) else -(Si18.det m (l.map fun x => x.eraseIdx j))) = (if j % 2 = 0 then (1 : Int) else -1) * r.getD j 0 * Si18.det m (l.map fun x => x.eraseIdx j)
  by_cases hj : j % 2 = 0
  · rw [if_pos hj, if_pos hj, Int.one_mul]
  · rw [if_neg hj, if_neg hj, Int.mul_neg, Int.neg_mul, Int.neg_mul, Int.one_mul]
theorem getD_big {a : Nat} {r : Row} (h : BigR a r) (j : Nat) : (r.getD j 0).natAbs < 2 ^ a := by
  unfold List.getD
  cases q : r[j]? with
  | none => exact Nat.two_pow_pos a
  | some x => exact h x (List.mem_of_getElem? q)
theorem det_big {a : Nat} : ∀ {m : Nat} {rs : Rows}, Big a rs → m ≤ 7 → (Si18.det m rs).natAbs < 2 ^ (m * (a + 3) + 1)
  | 0, rs, _, _ => by
    unfold Si18.det
    simp
  | m + 1, [], _, _ => by
    unfold Si18.det
    exact Nat.two_pow_pos _
  | m + 1, r :: l, h, hm => by
    unfold Si18.det
    have e : (m + 1) * (a + 3) + 1 = (a + (m * (a + 3) + 1)) + 3 := by
      rw [Nat.add_mul]
      omega
    rw [e]
    refine sum_abs8 (fun x hx => ?_) (by simpa using hm)
    obtain ⟨j, _, rfl⟩ := List.mem_map.mp hx
    have h1 := getD_big (h r List.mem_cons_self) j
    have h2 : (Si18.det m (l.map fun x => x.eraseIdx j)).natAbs < 2 ^ (m * (a + 3) + 1) := det_big (fun y hy z hz => by
      obtain ⟨w, hw, rfl⟩ := List.mem_map.mp hy
      exact h w (List.mem_cons_of_mem _ hw) z (List.mem_of_mem_eraseIdx hz)) (by omega)
    refine mul_abs ?_ h2
    by_cases hj : j % 2 = 0
    · rw [if_pos hj, Int.one_mul]; exact h1
    · rw [if_neg hj, Int.neg_mul, Int.one_mul, Int.natAbs_neg]; exact h1
theorem cof_big {a m : Nat} {rs : Rows} (h : Big a rs) (hm : m ≤ 7) (p q : Nat) : (cof m rs p q).natAbs < 2 ^ (m * (a + 3) + 1) := by
  have h1 : (Si18.det (m - 1) (minor rs p q)).natAbs < 2 ^ (m * (a + 3) + 1) :=
    abs_mono (det_big (minor_big h p q) (by omega)) (Nat.succ_le_succ (Nat.mul_le_mul_right _ (Nat.sub_le m 1)))
  unfold cof
  split
  · exact h1
  · rw [Int.natAbs_neg]; exact h1
theorem cofs_big {a m : Nat} {rs : Rows} (h : Big a rs) (hm : m ≤ 7) (p : Nat) : BigR (m * (a + 3) + 1) (cofs m rs p) := fun x hx => by
  unfold cofs at hx
  obtain ⟨q, _, rfl⟩ := List.mem_map.mp hx
  exact cof_big h hm p q
end Mx

set_option linter.all false
/-! # The specification's words, plainer -/
namespace Mx
theorem rows_flat (n : Nat) (b : List Int) : ∀ k : Nat, ((List.range k).map fun i => (b.drop (i * n)).take n).flatten = b.take (k * n)
  | 0 => by simp
  | k + 1 => by
    rw [List.range_succ, List.map_append, List.flatten_append, rows_flat n b k]
    simp only [List.map_cons, List.map_nil, List.flatten_cons, List.flatten_nil, List.append_nil]
    rw [Nat.add_mul, Nat.one_mul, List.take_add]
theorem rowsOf_flat {n : Nat} {b : List Int} (h : b.length = n * n) : (Si18Neutral.rowsOf (n : Int) b).flatten = b := by
  unfold Si18Neutral.rowsOf
  rw [Int.toNat_natCast, rows_flat, ← h, List.take_length]
theorem rowsOf_length (n : Nat) (b : List Int) : (Si18Neutral.rowsOf (n : Int) b).length = n := by
  unfold Si18Neutral.rowsOf
  simp
theorem rowsOf_wide {n : Nat} {b : List Int} (h : b.length = n * n) : ∀ r ∈ Si18Neutral.rowsOf (n : Int) b, r.length = n := fun r hr => by
  unfold Si18Neutral.rowsOf at hr
  rw [Int.toNat_natCast] at hr
  obtain ⟨i, hi, rfl⟩ := List.mem_map.mp hr
  have hi' : i < n := by simpa using hi
  have h1 : (i + 1) * n ≤ n * n := Nat.mul_le_mul_right _ hi'
  rw [Nat.add_mul, Nat.one_mul] at h1
  rw [List.length_take, List.length_drop]
  omega
theorem rowsOf_mem {n : Nat} {b : List Int} {r : List Int} {x : Int} (hr : r ∈ Si18Neutral.rowsOf (n : Int) b) (hx : x ∈ r) : x ∈ b := by
  unfold Si18Neutral.rowsOf at hr
  obtain ⟨i, _, rfl⟩ := List.mem_map.mp hr
  exact List.mem_of_mem_drop (List.mem_of_mem_take hx)
theorem fine_rows {n : Nat} {b : List Int} (h : b.length = n * n) : Si18.fine (Si18Neutral.rowsOf (n : Int) b) = b.all fun x => decide (x.natAbs ≤ 1000) := by
  have e : Si18.fine (Si18Neutral.rowsOf (n : Int) b) = (Si18Neutral.rowsOf (n : Int) b).flatten.all fun x => decide (x.natAbs ≤ 1000) := by
    rw [List.all_flatten]
    unfold Si18.fine Si18.small
    congr 1
    funext r
    congr 1
    funext x
    unfold Si18.within
    rw [Bool.eq_iff_iff, Bool.and_eq_true, decide_eq_true_eq, decide_eq_true_eq, decide_eq_true_eq]
    omega
  rw [e, rowsOf_flat h]
theorem size_eq (n : Int) : Si18.size n = Si18Neutral.sizeOk n := rfl
theorem size_true {n : Int} : Si18.size n = true ↔ 1 ≤ n ∧ n ≤ 5 := by
  unfold Si18.size Si18.within
  rw [Bool.and_eq_true, decide_eq_true_eq, decide_eq_true_eq]
theorem rowsIn_of {n : Nat} (h1 : 1 ≤ n) (h5 : n ≤ 5) (b : List Int) : Si18Neutral.rowsIn (n : Int) b = Si18Neutral.rowsOf (n : Int) b := by
  unfold Si18Neutral.rowsIn
  rw [if_pos]
  exact size_true.mpr ⟨by omega, by omega⟩
theorem long_len {l : List Int} {n k : Int} (h : Si18Neutral.long l n k = true) (hn : Si18.size n = true) : (l.length : Int) = k := by
  unfold Si18Neutral.long at h
  rw [Bool.and_eq_true] at h
  have h2 := h.2
  rw [if_pos (show Si18Neutral.sizeOk n = true from hn)] at h2
  exact of_decide_eq_true h2
theorem not_size {n : Int} (h : n < 1 ∨ n > 5) : Si18.size n = false := by
  rw [Bool.eq_false_iff]
  intro z
  have := size_true.mp z
  omega
/-! det -/
def ans (a : Si18.Ans) : List Int := a.v :: a.l
theorem det_eq (n : Int) (b : List Int) : PySi18.det n b = ans (if Si18.size n = false then Si18.say (-2) else if Si18.fine (Si18Neutral.rowsIn n b) = false then Si18.say (-3) else ⟨0, [Si18.det n.toNat (Si18Neutral.rowsIn n b)]⟩) := rfl
theorem det_bad {n : Int} {b : List Int} (h : n < 1 ∨ n > 5) : PySi18.det n b = [-2] := by
  rw [det_eq, if_pos (not_size h)]
  rfl
theorem det_len {n : Nat} {b : List Int} (h : PySi18.det_asked (n : Int) b = true) (h1 : 1 ≤ n) (h5 : n ≤ 5) : b.length = n * n := by
  unfold PySi18.det_asked Si18Neutral.asked at h
  simp only [List.all_cons, List.all_nil, Bool.and_true, Bool.and_eq_true] at h
  have h' : (Si18Neutral.whole32 (n : Int) && Si18Neutral.long b n (n * n)) = true := h.1
  rw [Bool.and_eq_true] at h'
  have := long_len h'.2 (size_true.mpr ⟨by omega, by omega⟩)
  rw [← Int.natCast_mul] at this
  omega
theorem det_good {n : Nat} {b : List Int} (hb : b.length = n * n) (h1 : 1 ≤ n) (h5 : n ≤ 5) : PySi18.det (n : Int) b = if (b.all fun x => decide (x.natAbs ≤ 1000)) = true then [0, Si18.det n (Si18Neutral.rowsOf (n : Int) b)] else [-3] := by
  rw [det_eq, rowsIn_of h1 h5, if_neg (by rw [size_true.mpr ⟨by omega, by omega⟩]; decide), fine_rows hb, Int.toNat_natCast]
  by_cases h : (b.all fun x => decide (x.natAbs ≤ 1000)) = true
  · rw [if_pos h, if_neg (by rw [h]; decide)]
    rfl
  · rw [if_neg h, if_pos (by simpa using h)]
    rfl
end Mx

set_option linter.all false
/-! # same, in the specification's words -/
namespace Mx
theorem other_eq (n : Nat) (b : Rows) : Si18.other n b = (List.range n).map fun p => cofs n b p := by
  unfold Si18.other cofs cof minor
  refine List.map_congr_left fun i _ => List.map_congr_left fun j _ => ?_
  by_cases h : (i + j) % 2 = 0
  · rw [if_pos h, if_pos h, Int.one_mul]
  · rw [if_neg h, if_neg h, Int.neg_mul, Int.one_mul]
theorem onGrid_iff {n : Nat} {b : Rows} {x : Row} : Si18.onGrid n b x = true ↔ ∀ p, p < n → Si18.dot x (cofs n b p) % Si18.det n b = 0 := by
  unfold Si18.onGrid
  rw [other_eq, List.all_eq_true]
  constructor
  · intro h p hp
    have := h (cofs n b p) (List.mem_map.mpr ⟨p, List.mem_range.mpr hp, rfl⟩)
    rw [beq_iff_eq] at this
    exact this
  · intro h o ho
    obtain ⟨p, hp, rfl⟩ := List.mem_map.mp ho
    rw [beq_iff_eq]
    exact h p (List.mem_range.mp hp)
theorem fmod_zero {x y : Int} : Int.fmod x y = 0 ↔ x % y = 0 := by
  rw [← Int.dvd_iff_fmod_eq_zero, Int.dvd_iff_emod_eq_zero]
theorem same_eq (n : Int) (a b : List Int) : PySi18.same n a b = ans (if Si18.size n = false then Si18.say (-2) else if (Si18.given n (Si18Neutral.rowsIn n a) && Si18.given n (Si18Neutral.rowsIn n b)) = false then Si18.say (-3) else Si18.say (if Si18.sameB n.toNat (Si18Neutral.rowsIn n a) (Si18Neutral.rowsIn n b) = true then 1 else 0)) := rfl
theorem same_bad {n : Int} {a b : List Int} (h : n < 1 ∨ n > 5) : PySi18.same n a b = [-2] := by
  rw [same_eq, if_pos (not_size h)]
  rfl
theorem same_len {n : Nat} {a b : List Int} (h : PySi18.same_asked (n : Int) a b = true) (h1 : 1 ≤ n) (h5 : n ≤ 5) : a.length = n * n ∧ b.length = n * n := by
  unfold PySi18.same_asked Si18Neutral.asked at h
  simp only [List.all_cons, List.all_nil, Bool.and_true, Bool.and_eq_true] at h
  have h' : (Si18Neutral.whole32 (n : Int) && (Si18Neutral.long a n (n * n) && Si18Neutral.long b n (n * n))) = true := h.1
  rw [Bool.and_eq_true, Bool.and_eq_true] at h'
  have e1 := long_len h'.2.1 (size_true.mpr ⟨by omega, by omega⟩)
  have e2 := long_len h'.2.2 (size_true.mpr ⟨by omega, by omega⟩)
  rw [← Int.natCast_mul] at e1 e2
  omega
theorem given_eq {n : Nat} {b : List Int} (hb : b.length = n * n) : Si18.given (n : Int) (Si18Neutral.rowsOf (n : Int) b) = ((b.all fun x => decide (x.natAbs ≤ 1000)) && Si18.det n (Si18Neutral.rowsOf (n : Int) b) != 0) := by
  unfold Si18.given
  rw [fine_rows hb, Int.toNat_natCast]
theorem same_good {n : Nat} {a b : List Int} (ha : a.length = n * n) (hb : b.length = n * n) (h1 : 1 ≤ n) (h5 : n ≤ 5) :
    PySi18.same (n : Int) a b = if (((a.all fun x => decide (x.natAbs ≤ 1000)) && Si18.det n (Si18Neutral.rowsOf (n : Int) a) != 0) && ((b.all fun x => decide (x.natAbs ≤ 1000)) && Si18.det n (Si18Neutral.rowsOf (n : Int) b) != 0)) = true
      then [if Si18.sameB n (Si18Neutral.rowsOf (n : Int) a) (Si18Neutral.rowsOf (n : Int) b) = true then 1 else 0] else [-3] := by
  rw [same_eq, rowsIn_of h1 h5, rowsIn_of h1 h5, if_neg (by rw [size_true.mpr ⟨by omega, by omega⟩]; decide), given_eq ha, given_eq hb, Int.toNat_natCast]
  generalize (((a.all fun x => decide (x.natAbs ≤ 1000)) && Si18.det n (Si18Neutral.rowsOf (n : Int) a) != 0) && ((b.all fun x => decide (x.natAbs ≤ 1000)) && Si18.det n (Si18Neutral.rowsOf (n : Int) b) != 0)) = c
  cases c with
  | true => rw [if_neg (by decide), if_pos rfl]; rfl
  | false => rw [if_pos rfl, if_neg (by decide)]; rfl
end Mx

/-! Sums, determinants by functions. -/
namespace Mx
abbrev Vec := Nat → Int
/-- The sum of f at the numbers below n. -/
def sg : Nat → (Nat → Int) → Int
  | 0, _ => 0
  | n + 1, f => sg n f + f n
theorem sg_congr {f g : Nat → Int} : ∀ {n : Nat}, (∀ i, i < n → f i = g i) → sg n f = sg n g
  | 0, _ => rfl
  | n + 1, h => by
    show sg n f + f n = sg n g + g n
    rw [sg_congr (n := n) fun i hi => h i (by omega), h n (by omega)]
theorem sg_zero {f : Nat → Int} : ∀ {n : Nat}, (∀ i, i < n → f i = 0) → sg n f = 0
  | 0, _ => rfl
  | n + 1, h => by
    show sg n f + f n = 0
    rw [sg_zero (n := n) fun i hi => h i (by omega), h n (by omega)]; rfl
theorem sg_add (f g : Nat → Int) : ∀ n, sg n (fun i => f i + g i) = sg n f + sg n g
  | 0 => rfl
  | n + 1 => by simp only [sg]; rw [sg_add f g n]; omega
theorem sg_sub (f g : Nat → Int) : ∀ n, sg n (fun i => f i - g i) = sg n f - sg n g
  | 0 => rfl
  | n + 1 => by simp only [sg]; rw [sg_sub f g n]; omega
theorem sg_mul (c : Int) (f : Nat → Int) : ∀ n, sg n (fun i => c * f i) = c * sg n f
  | 0 => by simp [sg]
  | n + 1 => by simp only [sg]; rw [sg_mul c f n, Int.mul_add]
theorem sg_neg (f : Nat → Int) : ∀ n, sg n (fun i => -(f i)) = -(sg n f)
  | 0 => rfl
  | n + 1 => by simp only [sg]; rw [sg_neg f n]; omega
theorem sg_mulr (c : Int) (f : Nat → Int) (n : Nat) : sg n (fun i => f i * c) = sg n f * c := by
  rw [Int.mul_comm, ← sg_mul]; exact sg_congr fun i _ => Int.mul_comm _ _
theorem sg_swap (f : Nat → Nat → Int) (m : Nat) : ∀ n, sg n (fun i => sg m (f i)) = sg m (fun j => sg n (fun i => f i j))
  | 0 => (sg_zero fun _ _ => rfl).symm
  | n + 1 => by simp only [sg]; rw [sg_swap f m n, ← sg_add]
theorem sg_first (f : Nat → Int) : ∀ n, sg (n + 1) f = f 0 + sg n (fun i => f (i + 1))
  | 0 => by simp [sg]
  | n + 1 => by
    have h := sg_first f n
    simp only [sg] at h ⊢; omega
theorem sg_one {f : Nat → Int} {k : Nat} : ∀ {n : Nat}, k < n → (∀ i, i < n → i ≠ k → f i = 0) → sg n f = f k
  | 0, h, _ => absurd h (by omega)
  | n + 1, h, z => by
    show sg n f + f n = f k
    by_cases e : n = k
    · subst e; rw [sg_zero fun i hi => z i (by omega) (by omega)]; omega
    · rw [sg_one (n := n) (by omega) fun i hi => z i (by omega), z n (by omega) e]; omega
/-- Two of the terms alone. -/
theorem sg_two {f : Nat → Int} {k l : Nat} : ∀ {n : Nat}, k < l → l < n → (∀ i, i < n → i ≠ k → i ≠ l → f i = 0) → sg n f = f k + f l
  | 0, _, h, _ => absurd h (by omega)
  | n + 1, hk, h, z => by
    show sg n f + f n = f k + f l
    by_cases e : n = l
    · subst e; rw [sg_one (k := k) hk fun i hi h1 => z i (by omega) h1 (by omega)]
    · rw [sg_two (n := n) hk (by omega) fun i hi => z i (by omega), z n (by omega) (by omega) e]; omega
/-- A double sum without its diagonal, paired. -/
theorem sg_pair (f : Nat → Nat → Int) : ∀ m, sg (m + 1) (fun j => sg m (f j)) = sg m (fun k => sg (k + 1) (fun j => f j k + f (k + 1) j))
  | 0 => by simp [sg]
  | m + 1 => by
    have h := sg_pair f m
    have e : sg (m + 1 + 1) (fun j => sg (m + 1) (f j)) = sg (m + 1) (fun j => sg m (f j)) + sg (m + 1) (fun j => f j m) + sg (m + 1) (f (m + 1)) := by
      show sg (m + 1) (fun j => sg m (f j) + f j m) + sg (m + 1) (f (m + 1)) = _
      rw [sg_add]
    rw [e, h]
    show _ = sg m (fun k => sg (k + 1) (fun j => f j k + f (k + 1) j)) + sg (m + 1) (fun j => f j m + f (m + 1) j)
    rw [sg_add]; omega

/-! ### Determinants -/
def sgn (j : Nat) : Int := if j % 2 = 0 then 1 else -1
theorem sgn_succ (j : Nat) : sgn (j + 1) = -(sgn j) := by unfold sgn; split <;> split <;> omega
theorem sgn_add (i j : Nat) : sgn (i + j) = sgn i * sgn j := by unfold sgn; split <;> split <;> split <;> omega
theorem sgn_sq (j : Nat) : sgn j * sgn j = 1 := by unfold sgn; split <;> rfl
/-- Past j. -/
def sk (j c : Nat) : Nat := if c < j then c else c + 1
abbrev Mat := Nat → Nat → Int
/-- Without the first row and column j. -/
def mn (M : Mat) (j : Nat) : Mat := fun a c => M (a + 1) (sk j c)
def dt : Nat → Mat → Int
  | 0, _ => 1
  | m + 1, M => sg (m + 1) fun j => sgn j * M 0 j * dt m (mn M j)
theorem sk_lt {m j c : Nat} (h : c < m) : sk j c < m + 1 := by unfold sk; split <;> omega
theorem dt_congr : ∀ {m : Nat} {M N : Mat}, (∀ a c, a < m → c < m → M a c = N a c) → dt m M = dt m N
  | 0, _, _, _ => rfl
  | m + 1, M, N, h => by
    show sg (m + 1) _ = sg (m + 1) _
    refine sg_congr fun j hj => ?_
    rw [h 0 j (by omega) hj, dt_congr (m := m) (M := mn M j) (N := mn N j) fun a c ha hc => h _ _ (by omega) (sk_lt hc)]
/-- Columns p and p + 1 change places. -/
def tw (p c : Nat) : Nat := if c = p then p + 1 else if c = p + 1 then p else c
theorem sg_exch {f g : Nat → Int} {p : Nat} : ∀ {n : Nat}, p + 1 < n → (∀ i, i < n → g (tw p i) = f i) → sg n f = sg n g
  | 0, h, _ => absurd h (by omega)
  | 1, h, _ => absurd h (by omega)
  | n + 2, h, e => by
    by_cases q : p = n
    · subst q
      have e1 := e p (by omega); have e2 := e (p + 1) (by omega)
      have e3 : sg p f = sg p g := sg_congr fun i hi => by
        have := e i (by omega); unfold tw at this; rw [if_neg (by omega), if_neg (by omega)] at this; exact this.symm
      unfold tw at e1 e2; rw [if_pos rfl] at e1; rw [if_neg (by omega), if_pos rfl] at e2
      simp only [sg]; rw [e3]; omega
    · have e3 := sg_exch (f := f) (g := g) (p := p) (n := n + 1) (by omega) fun i hi => e i (by omega)
      have e4 := e (n + 1) (by omega); unfold tw at e4; rw [if_neg (by omega), if_neg (by omega)] at e4
      show sg (n + 1) f + f (n + 1) = sg (n + 1) g + g (n + 1)
      rw [e3, e4]
theorem dt_cols : ∀ {m : Nat} {p : Nat} (M : Mat), p + 1 < m → dt m (fun a c => M a (tw p c)) = -(dt m M)
  | 0, _, _, h => absurd h (by omega)
  | m + 1, p, M, h => by
    show sg (m + 1) _ = -(sg (m + 1) _)
    rw [← sg_neg]
    refine sg_exch (p := p) h fun j hj => ?_
    by_cases h1 : j = p
    · subst h1
      have e : dt m (mn (fun a c => M a (tw j c)) j) = dt m (mn M (j + 1)) := dt_congr fun a c _ _ => by
        show M (a + 1) (tw j (sk j c)) = M (a + 1) (sk (j + 1) c)
        congr 1; unfold tw sk; grind
      have t : tw j j = j + 1 := by unfold tw; rw [if_pos rfl]
      rw [e, t, sgn_succ]; show -(-sgn j * M 0 (j + 1) * _) = sgn j * M 0 (tw j j) * _
      rw [t]; grind
    by_cases h2 : j = p + 1
    · subst h2
      have e : dt m (mn (fun a c => M a (tw p c)) (p + 1)) = dt m (mn M p) := dt_congr fun a c _ _ => by
        show M (a + 1) (tw p (sk (p + 1) c)) = M (a + 1) (sk p c)
        congr 1; unfold tw sk; grind
      have t : tw p (p + 1) = p := by unfold tw; rw [if_neg (by omega), if_pos rfl]
      rw [e, t, sgn_succ]; show -(sgn p * M 0 p * _) = -sgn p * M 0 (tw p (p + 1)) * _
      rw [t]; grind
    have t : tw p j = j := by unfold tw; rw [if_neg h1, if_neg h2]
    rw [t]
    have e : dt m (mn (fun a c => M a (tw p c)) j) = -(dt m (mn M j)) := by
      by_cases q : j < p
      · rw [← dt_cols (p := p - 1) (mn M j) (by omega)]
        refine dt_congr fun a c _ _ => ?_
        show M (a + 1) (tw p (sk j c)) = M (a + 1) (sk j (tw (p - 1) c))
        congr 1; unfold tw sk; grind
      · rw [← dt_cols (p := p) (mn M j) (by omega)]
        refine dt_congr fun a c _ _ => ?_
        show M (a + 1) (tw p (sk j c)) = M (a + 1) (sk j (tw p c))
        congr 1; unfold tw sk; grind
    rw [e]; show -(sgn j * M 0 j * _) = sgn j * M 0 (tw p j) * _
    rw [t]; grind
theorem dt_eqcols {m p : Nat} {M : Mat} : ∀ {q : Nat}, p < q → q < m → (∀ a, a < m → M a p = M a q) → dt m M = 0
  | 0, h, _, _ => absurd h (by omega)
  | q + 1, h, hm, e => by
    by_cases h1 : p = q
    · subst h1
      have s := dt_cols M hm
      rw [dt_congr (N := M) fun a c ha _ => ?_] at s
      · omega
      · show M a (tw p c) = M a c
        unfold tw; split
        · next h => subst h; exact (e a ha).symm
        · split
          · next h => subst h; exact e a ha
          · rfl
    · have s := dt_cols M hm
      rw [dt_eqcols (m := m) (p := p) (q := q) (M := fun a c => M a (tw q c)) (by omega) (by omega) fun a ha => ?_] at s
      · omega
      · show M a (tw q p) = M a (tw q q)
        have t1 : tw q p = p := by unfold tw; rw [if_neg h1, if_neg (by omega)]
        have t2 : tw q q = q + 1 := by unfold tw; rw [if_pos rfl]
        rw [t1, t2]; exact e a ha
/-- With another last column. -/
def lc (m : Nat) (M : Mat) (u : Nat → Int) : Mat := fun a c => if c = m then u a else M a c
/-- By the last column: what each number there is multiplied by. -/
theorem dt_last : ∀ (m : Nat) (M : Mat), ∃ C : Nat → Int, C m = dt m M ∧ ∀ u, dt (m + 1) (lc m M u) = sg (m + 1) fun a => C a * u a
  | 0, M => ⟨fun _ => 1, rfl, fun u => by simp [dt, sg, sgn, lc]⟩
  | m + 1, M => by
    have H : ∀ j, ∃ C : Nat → Int, C m = dt m (mn M j) ∧ ∀ u, dt (m + 1) (lc m (mn M j) u) = sg (m + 1) fun a => C a * u a := fun j => dt_last m (mn M j)
    let K : Nat → Nat → Int := fun j => (H j).choose
    have K1 : ∀ j, K j m = dt m (mn M j) := fun j => (H j).choose_spec.1
    have K2 : ∀ j u, dt (m + 1) (lc m (mn M j) u) = sg (m + 1) fun a => K j a * u a := fun j => (H j).choose_spec.2
    refine ⟨fun a => match a with
      | 0 => sgn (m + 1) * dt (m + 1) (mn M (m + 1))
      | a + 1 => sg (m + 1) fun j => sgn j * M 0 j * K j a, ?_, fun u => ?_⟩
    · show sg (m + 1) (fun j => sgn j * M 0 j * K j m) = sg (m + 1) fun j => sgn j * M 0 j * dt m (mn M j)
      exact sg_congr fun j _ => by rw [K1]
    · show sg (m + 2) (fun j => sgn j * lc (m + 1) M u 0 j * dt (m + 1) (mn (lc (m + 1) M u) j)) = _
      conv => rhs; rw [sg_first _ (m + 1)]
      show sg (m + 1) _ + sgn (m + 1) * lc (m + 1) M u 0 (m + 1) * dt (m + 1) (mn (lc (m + 1) M u) (m + 1)) = sgn (m + 1) * dt (m + 1) (mn M (m + 1)) * u 0 + sg (m + 1) fun i => (sg (m + 1) fun j => sgn j * M 0 j * K j i) * u (i + 1)
      have e1 : lc (m + 1) M u 0 (m + 1) = u 0 := by unfold lc; rw [if_pos rfl]
      have e2 : dt (m + 1) (mn (lc (m + 1) M u) (m + 1)) = dt (m + 1) (mn M (m + 1)) := dt_congr fun a c _ hc => by
        show (if sk (m + 1) c = m + 1 then u (a + 1) else M (a + 1) (sk (m + 1) c)) = M (a + 1) (sk (m + 1) c)
        rw [if_neg (by unfold sk; split <;> omega)]
      have e3 : sg (m + 1) (fun j => sgn j * lc (m + 1) M u 0 j * dt (m + 1) (mn (lc (m + 1) M u) j)) = sg (m + 1) fun i => (sg (m + 1) fun j => sgn j * M 0 j * K j i) * u (i + 1) := by
        have e4 : ∀ i, (sg (m + 1) fun j => sgn j * M 0 j * K j i) * u (i + 1) = sg (m + 1) fun j => sgn j * M 0 j * (K j i * u (i + 1)) := fun i => by
          rw [← sg_mulr]; exact sg_congr fun j _ => by grind
        rw [sg_congr fun i _ => e4 i, sg_swap]
        refine sg_congr fun j hj => ?_
        rw [sg_mul, ← K2 j fun i => u (i + 1)]
        have e5 : lc (m + 1) M u 0 j = M 0 j := by unfold lc; rw [if_neg (by omega)]
        rw [e5]
        congr 1
        refine dt_congr fun a c _ hc => ?_
        show (if sk j c = m + 1 then u (a + 1) else M (a + 1) (sk j c)) = if c = m then u (a + 1) else M (a + 1) (sk j c)
        by_cases q : c = m
        · rw [if_pos q, if_pos (by unfold sk; split <;> omega)]
        · rw [if_neg q, if_neg (by unfold sk; split <;> omega)]
      rw [e1, e2, e3]; grind
/-- Rows p and p + 1 change places. -/
theorem dt_rows : ∀ {m : Nat} {p : Nat} (M : Mat), p + 1 < m → dt m (fun a c => M (tw p a) c) = -(dt m M)
  | 0, _, _, h => absurd h (by omega)
  | 1, _, _, h => absurd h (by omega)
  | m + 2, 0, M, _ => by
    have X : ∀ M : Mat, dt (m + 2) M = sg (m + 1) fun k => sg (k + 1) fun j => sgn j * sgn k * (M 0 j * M 1 (k + 1) - M 0 (k + 1) * M 1 j) * dt m (mn (mn M j) k) := fun M => by
      have e : dt (m + 2) M = sg (m + 2) fun j => sg (m + 1) fun k => sgn j * sgn k * (M 0 j * M 1 (sk j k)) * dt m (mn (mn M j) k) := by
        show sg (m + 2) _ = _
        refine sg_congr fun j _ => ?_
        show sgn j * M 0 j * sg (m + 1) _ = _
        rw [← sg_mul]
        refine sg_congr fun k _ => ?_
        show sgn j * M 0 j * (sgn k * M 1 (sk j k) * _) = _
        grind
      rw [e, sg_pair]
      refine sg_congr fun k _ => sg_congr fun j hj => ?_
      have e1 : sk j k = k + 1 := by unfold sk; rw [if_neg (by omega)]
      have e2 : sk (k + 1) j = j := by unfold sk; rw [if_pos (by omega)]
      have e3 : dt m (mn (mn M (k + 1)) j) = dt m (mn (mn M j) k) := dt_congr fun a c _ _ => by
        show M (a + 1 + 1) (sk (k + 1) (sk j c)) = M (a + 1 + 1) (sk j (sk k c))
        congr 1; unfold sk; grind
      rw [e1, e2, e3, sgn_succ]; grind
    rw [X, X, ← sg_neg]
    refine sg_congr fun k _ => ?_
    rw [← sg_neg]
    refine sg_congr fun j _ => ?_
    have e : dt m (mn (mn (fun a c => M (tw 0 a) c) j) k) = dt m (mn (mn M j) k) := dt_congr fun a c _ _ => by
      show M (tw 0 (a + 1 + 1)) _ = M (a + 1 + 1) _
      congr 1
    have t0 : tw 0 0 = 1 := rfl
    have t1 : tw 0 1 = 0 := rfl
    rw [e]; show sgn j * sgn k * (M (tw 0 0) j * M (tw 0 1) (k + 1) - M (tw 0 0) (k + 1) * M (tw 0 1) j) * _ = _
    rw [t0, t1]; grind
  | m + 2, p + 1, M, h => by
    show sg (m + 2) _ = -(sg (m + 2) _)
    rw [← sg_neg]
    refine sg_congr fun j _ => ?_
    show sgn j * M (tw (p + 1) 0) j * dt (m + 1) (mn (fun a c => M (tw (p + 1) a) c) j) = -(sgn j * M 0 j * dt (m + 1) (mn M j))
    have t : tw (p + 1) 0 = 0 := by unfold tw; rw [if_neg (by omega), if_neg (by omega)]
    have e : dt (m + 1) (mn (fun a c => M (tw (p + 1) a) c) j) = -(dt (m + 1) (mn M j)) := by
      rw [← dt_rows (m := m + 1) (p := p) (mn M j) (by omega)]
      refine dt_congr fun a c _ _ => ?_
      show M (tw (p + 1) (a + 1)) (sk j c) = M (tw p a + 1) (sk j c)
      congr 1; unfold tw; grind
    rw [t, e]; grind
theorem dt_eqrows {m p : Nat} {M : Mat} : ∀ {q : Nat}, p < q → q < m → (∀ c, c < m → M p c = M q c) → dt m M = 0
  | 0, h, _, _ => absurd h (by omega)
  | q + 1, h, hm, e => by
    by_cases h1 : p = q
    · subst h1
      have s := dt_rows M hm
      rw [dt_congr (N := M) fun a c _ hc => ?_] at s
      · omega
      · show M (tw p a) c = M a c
        unfold tw; split
        · next h => subst h; exact (e c hc).symm
        · split
          · next h => subst h; exact e c hc
          · rfl
    · have s := dt_rows M hm
      rw [dt_eqrows (m := m) (p := p) (q := q) (M := fun a c => M (tw q a) c) (by omega) (by omega) fun c hc => ?_] at s
      · omega
      · show M (tw q p) c = M (tw q q) c
        have t1 : tw q p = p := by unfold tw; rw [if_neg h1, if_neg (by omega)]
        have t2 : tw q q = q + 1 := by unfold tw; rw [if_pos rfl]
        rw [t1, t2]; exact e c hc
/-- By the row p. -/
theorem dt_row {m : Nat} : ∀ {p : Nat} (M : Mat), p < m + 1 → dt (m + 1) M = sg (m + 1) fun j => sgn (p + j) * M p j * dt m (fun a c => M (sk p a) (sk j c))
  | 0, M, _ => by
    show sg (m + 1) _ = _
    refine sg_congr fun j _ => ?_
    rw [Nat.zero_add]; rfl
  | p + 1, M, h => by
    have s := dt_rows (p := p) M h
    rw [dt_row (p := p) (fun a c => M (tw p a) c) (by omega)] at s
    have : dt (m + 1) M = -(sg (m + 1) fun j => sgn (p + j) * M (tw p p) j * dt m (fun a c => M (tw p (sk p a)) (sk j c))) := by omega
    rw [this, ← sg_neg]
    refine sg_congr fun j _ => ?_
    have t : tw p p = p + 1 := by unfold tw; rw [if_pos rfl]
    have e : dt m (fun a c => M (tw p (sk p a)) (sk j c)) = dt m (fun a c => M (sk (p + 1) a) (sk j c)) := dt_congr fun a c _ _ => by
      congr 1; unfold tw sk; grind
    rw [t, e, show p + 1 + j = p + j + 1 by omega, sgn_succ]; grind
end Mx

/-! Vectors; the frame of a family of vectors. -/
namespace Mx
def dp (n : Nat) (x y : Vec) : Int := sg n fun i => x i * y i
theorem dp_comm (n : Nat) (x y : Vec) : dp n x y = dp n y x := sg_congr fun _ _ => Int.mul_comm _ _
theorem dp_congr {n : Nat} {x y x' y' : Vec} (h : ∀ i, i < n → x i = x' i) (g : ∀ i, i < n → y i = y' i) : dp n x y = dp n x' y' := sg_congr fun i hi => by rw [h i hi, g i hi]
theorem dp_add (n : Nat) (x y z : Vec) : dp n (fun i => x i + y i) z = dp n x z + dp n y z := by
  unfold dp; rw [← sg_add]; exact sg_congr fun i _ => by grind
theorem dp_sub (n : Nat) (x y z : Vec) : dp n (fun i => x i - y i) z = dp n x z - dp n y z := by
  unfold dp; rw [← sg_sub]; exact sg_congr fun i _ => by grind
theorem dp_mul (n : Nat) (c : Int) (x z : Vec) : dp n (fun i => c * x i) z = c * dp n x z := by
  unfold dp; rw [← sg_mul]; exact sg_congr fun i _ => by grind
theorem dp_addr (n : Nat) (x y z : Vec) : dp n z (fun i => x i + y i) = dp n z x + dp n z y := by rw [dp_comm, dp_add, dp_comm n x, dp_comm n y]
theorem dp_subr (n : Nat) (x y z : Vec) : dp n z (fun i => x i - y i) = dp n z x - dp n z y := by rw [dp_comm, dp_sub, dp_comm n x, dp_comm n y]
theorem dp_mulr (n : Nat) (c : Int) (x z : Vec) : dp n z (fun i => c * x i) = c * dp n z x := by rw [dp_comm, dp_mul, dp_comm]
theorem dp_sum (n k : Nat) (c : Nat → Int) (B : Nat → Vec) (z : Vec) : dp n (fun i => sg k fun a => c a * B a i) z = sg k fun a => c a * dp n (B a) z := by
  unfold dp
  rw [sg_congr (g := fun i => sg k fun a => c a * B a i * z i) fun i _ => by rw [← sg_mulr], sg_swap]
  refine sg_congr fun a _ => ?_
  rw [← sg_mul]; exact sg_congr fun i _ => by grind
theorem dp_sumr (n k : Nat) (c : Nat → Int) (B : Nat → Vec) (z : Vec) : dp n z (fun i => sg k fun a => c a * B a i) = sg k fun a => c a * dp n z (B a) := by
  rw [dp_comm, dp_sum]; exact sg_congr fun a _ => by rw [dp_comm]
theorem sg_nonneg {f : Nat → Int} : ∀ {n : Nat}, (∀ i, i < n → 0 ≤ f i) → 0 ≤ sg n f
  | 0, _ => Int.le_refl 0
  | n + 1, h => by
    have := sg_nonneg (n := n) fun i hi => h i (by omega); have := h n (by omega)
    show 0 ≤ sg n f + f n
    omega
theorem sg_le {f g : Nat → Int} : ∀ {n : Nat}, (∀ i, i < n → f i ≤ g i) → sg n f ≤ sg n g
  | 0, _ => Int.le_refl 0
  | n + 1, h => by
    have := sg_le (n := n) fun i hi => h i (by omega); have := h n (by omega)
    show sg n f + f n ≤ sg n g + g n
    omega
theorem sq_nonneg (a : Int) : 0 ≤ a * a := by
  rcases Int.le_total 0 a with h | h
  · exact Int.mul_nonneg h h
  · rw [show a * a = -a * -a by grind]; exact Int.mul_nonneg (by omega) (by omega)
theorem dp_nonneg (n : Nat) (x : Vec) : 0 ≤ dp n x x := sg_nonneg fun i _ => sq_nonneg _
theorem sg_zero_of {f : Nat → Int} : ∀ {n : Nat}, (∀ i, i < n → 0 ≤ f i) → sg n f = 0 → ∀ i, i < n → f i = 0
  | 0, _, _, i, hi => absurd hi (by omega)
  | n + 1, h, z, i, hi => by
    have h1 := sg_nonneg (n := n) fun i hi => h i (by omega); have h2 := h n (by omega)
    have z' : sg n f + f n = 0 := z
    by_cases e : i = n
    · subst e; omega
    · exact sg_zero_of (n := n) (fun i hi => h i (by omega)) (by omega) i (by omega)
theorem dp_zero {n : Nat} {x : Vec} (h : dp n x x = 0) (i : Nat) (hi : i < n) : x i = 0 := by
  have := sg_zero_of (fun i _ => sq_nonneg (x i)) h i hi
  exact (Int.mul_eq_zero.1 this).elim id id
theorem dp_pos {n : Nat} {x : Vec} {i : Nat} (hi : i < n) (h : x i ≠ 0) : 0 < dp n x x := by
  have := dp_nonneg n x
  have : dp n x x ≠ 0 := fun e => h (dp_zero e i hi)
  omega
/-- Cauchy. -/
theorem dp_cauchy (n : Nat) (x y : Vec) : dp n x y * dp n x y ≤ dp n x x * dp n y y := by
  have h := dp_nonneg n (fun i => dp n y y * x i - dp n x y * y i)
  simp only [dp_sub, dp_subr, dp_mul, dp_mulr] at h
  rw [dp_comm n y x] at h
  by_cases p : dp n y y = 0
  · have z := dp_zero p
    have : dp n x y = 0 := sg_zero fun i hi => by rw [z i hi]; omega
    rw [this, p]; omega
  · have p' : 0 < dp n y y := by have := dp_nonneg n y; omega
    have h' : 0 ≤ dp n y y * (dp n x x * dp n y y - dp n x y * dp n x y) := by grind
    have := Int.nonneg_of_mul_nonneg_right h' p'
    omega
/-! ### Multiples, put together -/
def Sp (B : Nat → Vec) (k : Nat) (z : Vec) : Prop := ∃ c : Nat → Int, ∀ i, z i = sg k fun a => c a * B a i
theorem Sp.zero (B : Nat → Vec) (k : Nat) : Sp B k (fun _ => 0) := ⟨fun _ => 0, fun i => (sg_zero fun a _ => by simp).symm⟩
theorem Sp.add {B : Nat → Vec} {k : Nat} {x y : Vec} (h : Sp B k x) (g : Sp B k y) : Sp B k (fun i => x i + y i) := by
  obtain ⟨c, hc⟩ := h; obtain ⟨d, hd⟩ := g
  exact ⟨fun a => c a + d a, fun i => by show x i + y i = _; rw [hc, hd, ← sg_add]; exact sg_congr fun a _ => by grind⟩
theorem Sp.mul {B : Nat → Vec} {k : Nat} {x : Vec} (t : Int) (h : Sp B k x) : Sp B k (fun i => t * x i) := by
  obtain ⟨c, hc⟩ := h
  exact ⟨fun a => t * c a, fun i => by show t * x i = _; rw [hc, ← sg_mul]; exact sg_congr fun a _ => by grind⟩
theorem Sp.sub {B : Nat → Vec} {k : Nat} {x y : Vec} (h : Sp B k x) (g : Sp B k y) : Sp B k (fun i => x i - y i) := by
  obtain ⟨c, hc⟩ := h; obtain ⟨d, hd⟩ := g
  exact ⟨fun a => c a - d a, fun i => by show x i - y i = _; rw [hc, hd, ← sg_sub]; exact sg_congr fun a _ => by grind⟩
theorem Sp.mem {B : Nat → Vec} {k a : Nat} (h : a < k) : Sp B k (B a) := ⟨fun b => if b = a then 1 else 0, fun i => by
  rw [sg_one (k := a) h fun b _ e => by simp [e]]; simp⟩
theorem Sp.of_eq {B : Nat → Vec} {k : Nat} {x y : Vec} (h : Sp B k x) (e : ∀ i, y i = x i) : Sp B k y := by
  rw [show y = x from funext e]; exact h
theorem Sp.mono {B : Nat → Vec} {k l : Nat} {x : Vec} (h : Sp B k x) (hl : k ≤ l) : Sp B l x := by
  obtain ⟨d, rfl⟩ := Nat.exists_eq_add_of_le hl
  clear hl
  induction d with
  | zero => exact h
  | succ d ih =>
    obtain ⟨c, hc⟩ := ih
    refine ⟨fun a => if a < k + d then c a else 0, fun i => ?_⟩
    show x i = sg (k + d) _ + _
    rw [hc i, sg_congr (n := k + d) (f := fun a => (if a < k + d then c a else 0) * B a i) (g := fun a => c a * B a i) fun a ha => by rw [if_pos ha]]
    simp
theorem Sp.sum {B : Nat → Vec} {k : Nat} {E : Nat → Vec} (c : Nat → Int) : ∀ {m : Nat}, (∀ a, a < m → Sp B k (E a)) → Sp B k (fun i => sg m fun a => c a * E a i)
  | 0, _ => Sp.zero B k
  | m + 1, h => (Sp.sum c (m := m) fun a ha => h a (by omega)).add ((h m (by omega)).mul (c m))
theorem Sp.trans {B E : Nat → Vec} {k m : Nat} {x : Vec} (h : Sp E m x) (g : ∀ a, a < m → Sp B k (E a)) : Sp B k x := by
  obtain ⟨c, hc⟩ := h
  exact (Sp.sum c g).of_eq hc
theorem Sp.congr {B E : Nat → Vec} {k : Nat} {x : Vec} (h : Sp B k x) (g : ∀ a, a < k → B a = E a) : Sp E k x := by
  obtain ⟨c, hc⟩ := h
  exact ⟨c, fun i => by rw [hc i]; exact sg_congr fun a ha => by rw [g a ha]⟩
/-- At right angles to each, so to their multiples put together. -/
theorem Sp.orth {B : Nat → Vec} {n k : Nat} {x z : Vec} (h : Sp B k x) (o : ∀ a, a < k → dp n z (B a) = 0) : dp n z x = 0 := by
  obtain ⟨c, hc⟩ := h
  rw [dp_congr (fun i _ => rfl) fun i _ => hc i, dp_sumr]
  exact sg_zero fun a ha => by rw [o a ha]; omega
theorem Sp.null {B : Nat → Vec} {n k : Nat} {z : Vec} (h : Sp B k z) (o : ∀ a, a < k → dp n z (B a) = 0) (i : Nat) (hi : i < n) : z i = 0 := dp_zero (h.orth o) i hi
/-! ### The determinants of products -/
/-- The determinant of the products of B 0 .. B (j - 1), y with those, the last column's with x. -/
def gg (n : Nat) (B : Nat → Vec) (j : Nat) (y x : Vec) : Int := dt (j + 1) fun a c => dp n (if a = j then y else B a) (if c = j then x else B c)
def gd (n : Nat) (B : Nat → Vec) (j : Nat) : Int := dt j fun a c => dp n (B a) (B c)
theorem gg_congr {n j : Nat} {B E : Nat → Vec} {x y x' y' : Vec} (h : ∀ a, a < j → ∀ i, i < n → B a i = E a i) (hx : ∀ i, i < n → x i = x' i) (hy : ∀ i, i < n → y i = y' i) : gg n B j y x = gg n E j y' x' :=
  dt_congr fun a c ha hc => by
    refine dp_congr (fun i hi => ?_) fun i hi => ?_
    · split
      · exact hy i hi
      · exact h a (by omega) i hi
    · split
      · exact hx i hi
      · exact h c (by omega) i hi
theorem gd_congr {n j : Nat} {B E : Nat → Vec} (h : ∀ a, a < j → ∀ i, i < n → B a i = E a i) : gd n B j = gd n E j :=
  dt_congr fun a c ha hc => dp_congr (h a ha) (h c hc)
theorem gd_succ (n : Nat) (B : Nat → Vec) (j : Nat) : gd n B (j + 1) = gg n B j (B j) (B j) :=
  dt_congr fun a c _ _ => by
    show dp n (B a) (B c) = dp n (if a = j then B j else B a) (if c = j then B j else B c)
    by_cases h : a = j
    · by_cases g : c = j
      · rw [if_pos h, if_pos g, h, g]
      · rw [if_pos h, if_neg g, h]
    · by_cases g : c = j
      · rw [if_neg h, if_pos g, g]
      · rw [if_neg h, if_neg g]
/-- The vector at right angles to the first j that stands behind y. -/
structure Wv (n : Nat) (B : Nat → Vec) (j : Nat) (y w : Vec) : Prop where
  sp : Sp B j fun i => w i - gd n B j * y i
  orth : ∀ a, a < j → dp n w (B a) = 0
  val : ∀ x, gg n B j y x = dp n w x
theorem wv_ex (n : Nat) (B : Nat → Vec) (j : Nat) (y : Vec) : ∃ w, Wv n B j y w := by
  obtain ⟨C, h1, h2⟩ := dt_last j fun a c => dp n (if a = j then y else B a) (B c)
  have v : ∀ x, gg n B j y x = dp n (fun i => sg j (fun a => C a * B a i) + C j * y i) x := fun x => by
    have := h2 fun a => dp n (if a = j then y else B a) x
    have e : gg n B j y x = dt (j + 1) (lc j (fun a c => dp n (if a = j then y else B a) (B c)) fun a => dp n (if a = j then y else B a) x) := dt_congr fun a c _ _ => by
      show dp n (if a = j then y else B a) (if c = j then x else B c) = if c = j then dp n (if a = j then y else B a) x else dp n (if a = j then y else B a) (B c)
      by_cases q : c = j
      · rw [if_pos q, if_pos q]
      · rw [if_neg q, if_neg q]
    rw [e, this, dp_add, dp_sum, dp_mul]
    show sg j _ + C j * dp n (if j = j then y else B j) x = _
    rw [if_pos rfl, sg_congr (n := j) (g := fun a => C a * dp n (B a) x) fun a ha => by rw [if_neg (by omega)]]
  have e : C j = gd n B j := by
    rw [h1]; exact dt_congr fun a c ha _ => by rw [if_neg (by omega)]
  refine ⟨_, ?_, fun a ha => ?_, v⟩
  · exact ⟨C, fun i => by rw [← e]; show sg j _ + C j * y i - C j * y i = _; omega⟩
  · rw [← v]
    refine dt_eqcols (p := a) (q := j) ha (by omega) fun b _ => ?_
    show dp n _ (if a = j then B a else B a) = dp n _ (if j = j then B a else B j)
    rw [if_neg (show ¬ a = j by omega), if_pos rfl]
end Mx

/-! The frame: what holds between the determinants of products. -/
namespace Mx
/-- What the vector is known by. -/
theorem Wv.uniq {n j : Nat} {B : Nat → Vec} {y w z : Vec} (h : Wv n B j y w) (s : Sp B j fun i => z i - gd n B j * y i) (o : ∀ a, a < j → dp n z (B a) = 0) (i : Nat) (hi : i < n) : z i = w i := by
  have e := (s.sub h.sp).null (n := n) (fun a ha => by
    rw [dp_congr (x' := fun i => z i - w i) (y' := B a) (fun i _ => by grind) (fun _ _ => rfl), dp_sub, o a ha, h.orth a ha]; rfl) i hi
  grind
theorem gg_zero (n : Nat) (B : Nat → Vec) (y x : Vec) : gg n B 0 y x = dp n y x := by simp [gg, dt, sg, sgn]
theorem gd_zero (n : Nat) (B : Nat → Vec) : gd n B 0 = 1 := rfl
theorem gg_addr {n j : Nat} {B : Nat → Vec} {y x z : Vec} : gg n B j y (fun i => x i + z i) = gg n B j y x + gg n B j y z := by
  obtain ⟨w, h⟩ := wv_ex n B j y
  rw [h.val, h.val, h.val, dp_addr]
theorem gg_subr {n j : Nat} {B : Nat → Vec} {y x z : Vec} : gg n B j y (fun i => x i - z i) = gg n B j y x - gg n B j y z := by
  obtain ⟨w, h⟩ := wv_ex n B j y
  rw [h.val, h.val, h.val, dp_subr]
theorem gg_mulr {n j : Nat} {B : Nat → Vec} {y x : Vec} {c : Int} : gg n B j y (fun i => c * x i) = c * gg n B j y x := by
  obtain ⟨w, h⟩ := wv_ex n B j y
  rw [h.val, h.val, dp_mulr]
theorem gg_sp {n j : Nat} {B : Nat → Vec} {y s : Vec} (h : Sp B j s) : gg n B j y s = 0 := by
  obtain ⟨w, g⟩ := wv_ex n B j y
  rw [g.val]; exact h.orth g.orth
theorem gg_lower {n j a : Nat} {B : Nat → Vec} {y : Vec} (h : a < j) : gg n B j y (B a) = 0 := gg_sp (Sp.mem h)
theorem gg_spr {n j : Nat} {B : Nat → Vec} {y x x' : Vec} (h : Sp B j fun i => x' i - x i) : gg n B j y x' = gg n B j y x := by
  have := gg_sp (n := n) (y := y) h
  rw [gg_subr] at this; omega
/-- The products of two such vectors. -/
theorem Wv.prod {n j : Nat} {B : Nat → Vec} {y w z v : Vec} (h : Wv n B j y w) (g : Wv n B j z v) : dp n w v = gd n B j * gg n B j y z := by
  have e : dp n w (fun i => v i - gd n B j * z i) = 0 := g.sp.orth h.orth
  rw [dp_subr, dp_mulr, ← h.val z] at e; omega
theorem gg_comm {n j : Nat} {B : Nat → Vec} {y x : Vec} (p : gd n B j ≠ 0) : gg n B j y x = gg n B j x y := by
  obtain ⟨w, h⟩ := wv_ex n B j y
  obtain ⟨v, g⟩ := wv_ex n B j x
  have e1 := h.prod g
  have e2 := g.prod h
  rw [dp_comm] at e2
  exact Int.eq_of_mul_eq_mul_left p (e1.symm.trans e2)
theorem gg_nonneg {n j : Nat} {B : Nat → Vec} {y : Vec} (p : 0 < gd n B j) : 0 ≤ gg n B j y y := by
  obtain ⟨w, h⟩ := wv_ex n B j y
  have e := h.prod h
  have := dp_nonneg n w
  exact Int.nonneg_of_mul_nonneg_right (e ▸ this) p
/-- One step up. -/
theorem gg_step {n l : Nat} {B : Nat → Vec} (y x : Vec) (p : gd n B l ≠ 0) : gd n B l * gg n B (l + 1) y x = gd n B (l + 1) * gg n B l y x - gg n B l (B l) y * gg n B l (B l) x := by
  obtain ⟨w, hw⟩ := wv_ex n B l (B l)
  obtain ⟨v, hv⟩ := wv_ex n B l y
  obtain ⟨u, hu⟩ := wv_ex n B (l + 1) y
  have k : gd n B (l + 1) = dp n w (B l) := by rw [gd_succ, hw.val]
  have t : dp n v (B l) = dp n w y := by rw [← hv.val, ← hw.val]; exact gg_comm p
  have s : Sp B (l + 1) fun i => gd n B l * u i - gd n B (l + 1) * v i + dp n w y * w i := by
    refine ((((hu.sp.mul (gd n B l)).sub ((hv.sp.mono (by omega)).mul (gd n B (l + 1)))).add (((hw.sp.mono (by omega)).add ((Sp.mem (a := l) (by omega)).mul (gd n B l))).mul (dp n w y)))).of_eq fun i => ?_
    grind
  have o : ∀ a, a < l + 1 → dp n (fun i => gd n B l * u i - gd n B (l + 1) * v i + dp n w y * w i) (B a) = 0 := fun a ha => by
    rw [dp_add, dp_sub, dp_mul, dp_mul, dp_mul, hu.orth a ha]
    by_cases e : a = l
    · subst e; rw [t, k]; grind
    · rw [hv.orth a (by omega), hw.orth a (by omega)]; omega
  have z := s.null o
  have q : dp n (fun i => gd n B l * u i - gd n B (l + 1) * v i + dp n w y * w i) x = 0 := by
    rw [dp_congr (x' := fun _ => 0) (y' := x) z (fun _ _ => rfl)]; exact sg_zero fun i _ => by show 0 * x i = 0; omega
  rw [dp_add, dp_sub, dp_mul, dp_mul, dp_mul] at q
  rw [hu.val, hv.val, hw.val, hw.val]; omega
/-- No multiples, not all by 0, come to 0. -/
def Ind (n : Nat) (B : Nat → Vec) (m : Nat) : Prop := ∀ c : Nat → Int, (∀ i, i < n → sg m (fun a => c a * B a i) = 0) → ∀ a, a < m → c a = 0
theorem gd_pos {n : Nat} {B : Nat → Vec} {m : Nat} (h : Ind n B m) : ∀ j, j ≤ m → 0 < gd n B j
  | 0, _ => by rw [gd_zero]; omega
  | j + 1, hj => by
    have p := gd_pos h j (by omega)
    obtain ⟨w, hw⟩ := wv_ex n B j (B j)
    have e := hw.prod hw
    rw [← gd_succ] at e
    have ne : dp n w w ≠ 0 := fun z => by
      have z0 := dp_zero z
      obtain ⟨c, hc⟩ := hw.sp
      have := h (fun a => if a < j then c a else if a = j then gd n B j else 0) (fun i hi => by
        obtain ⟨d, rfl⟩ := Nat.exists_eq_add_of_le hj
        have q : ∀ d, sg (j + 1 + d) (fun a => (if a < j then c a else if a = j then gd n B j else 0) * B a i) = sg j (fun a => c a * B a i) + gd n B j * B j i := fun d => by
          induction d with
          | zero =>
            show sg j _ + _ = _
            rw [sg_congr (n := j) (g := fun a => c a * B a i) fun a ha => by rw [if_pos ha]]
            simp
          | succ d ih =>
            show sg (j + 1 + d) _ + (if j + 1 + d < j then c (j + 1 + d) else if j + 1 + d = j then gd n B j else 0) * B (j + 1 + d) i = _
            rw [ih, if_neg (by omega), if_neg (by omega)]; omega
        rw [q, ← hc i]; show w i - gd n B j * B j i + _ = 0; rw [z0 i hi]; omega) j (by omega)
      simp at this; omega
    have := dp_nonneg n w
    have : 0 < gd n B j * gd n B (j + 1) := by omega
    rcases Int.lt_or_le 0 (gd n B (j + 1)) with q | q
    · exact q
    · have := Int.mul_le_mul_of_nonneg_left q (Int.le_of_lt p); omega
/-- The square of what lies in the first j. -/
theorem gg_in {n j : Nat} {B : Nat → Vec} {x y : Vec} (h : Sp B j x) : gg n B j y x = 0 := gg_sp h
/-! ### Another family of the same frame -/
structure Tri (B E : Nat → Vec) : Prop where
  one : ∀ a, Sp B a fun i => E a i - B a i
theorem Tri.sp {B E : Nat → Vec} (h : Tri B E) {k : Nat} {x : Vec} (s : Sp E k x) : Sp B k x :=
  s.trans fun a ha => ((h.one a).mono (Nat.le_of_lt ha)).add (Sp.mem ha) |>.of_eq fun i => by grind
theorem Tri.orth {n : Nat} {B E : Nat → Vec} (h : Tri B E) {z : Vec} : ∀ {k : Nat}, (∀ a, a < k → dp n z (E a) = 0) → ∀ a, a < k → dp n z (B a) = 0
  | 0, _, a, ha => absurd ha (by omega)
  | k + 1, o, a, ha => by
    have ih := h.orth (k := k) (fun a ha => o a (by omega))
    by_cases e : a = k
    · subst e
      have := (h.one a).orth ih
      rw [dp_subr, o a (by omega)] at this; omega
    · exact ih a (by omega)
theorem Tri.frame {n : Nat} {B E : Nat → Vec} (h : Tri B E) : ∀ j, gd n E j = gd n B j ∧ ∀ y x, gg n E j y x = gg n B j y x
  | 0 => ⟨rfl, fun y x => by rw [gg_zero, gg_zero]⟩
  | j + 1 => by
    have H : gd n E (j + 1) = gd n B (j + 1) := by
      obtain ⟨d, g⟩ := h.frame j
      rw [gd_succ, g, gd_succ, gg_spr (h.one j)]
      obtain ⟨w, hw⟩ := wv_ex n B j (B j)
      obtain ⟨v, hv⟩ := wv_ex n B j (E j)
      have := hw.uniq (z := v) ((hv.sp.add ((h.one j).mul (gd n B j))).of_eq fun i => by grind) hv.orth
      rw [hv.val, hw.val]; exact dp_congr this fun _ _ => rfl
    refine ⟨H, fun y x => ?_⟩
    obtain ⟨w, hw⟩ := wv_ex n B (j + 1) y
    obtain ⟨v, hv⟩ := wv_ex n E (j + 1) y
    have := hw.uniq (z := v) ((h.sp hv.sp).of_eq fun i => by rw [H]) (h.orth hv.orth)
    rw [hv.val, hw.val]; exact dp_congr this fun _ _ => rfl
/-! ### Neighbours change places -/
theorem tw_tw (p a : Nat) : tw p (tw p a) = a := by unfold tw; grind
theorem gd_swap {n p j : Nat} {B : Nat → Vec} (h : j ≠ p + 1) : gd n (fun a => B (tw p a)) j = gd n B j := by
  by_cases q : j ≤ p
  · refine gd_congr fun a ha i _ => ?_
    show B (tw p a) i = B a i
    unfold tw; rw [if_neg (by omega), if_neg (by omega)]
  · have r1 := dt_rows (m := j) (p := p) (fun a c => dp n (B a) (B c)) (by omega)
    have r2 := dt_cols (m := j) (p := p) (fun a c => dp n (B (tw p a)) (B c)) (by omega)
    show dt j (fun a c => dp n (B (tw p a)) (B (tw p c))) = dt j _
    have r1' : dt j (fun a c => dp n (B (tw p a)) (B c)) = -dt j (fun a c => dp n (B a) (B c)) := r1
    have r2' : dt j (fun a c => dp n (B (tw p a)) (B (tw p c))) = -dt j (fun a c => dp n (B (tw p a)) (B c)) := r2
    omega
theorem gd_swap_at {n p : Nat} {B : Nat → Vec} : gd n (fun a => B (tw p a)) (p + 1) = gg n B p (B (p + 1)) (B (p + 1)) := by
  rw [gd_succ]
  have t : tw p p = p + 1 := by unfold tw; rw [if_pos rfl]
  rw [t]
  refine gg_congr (fun a ha i _ => ?_) (fun _ _ => rfl) fun _ _ => rfl
  show B (tw p a) i = B a i
  unfold tw; rw [if_neg (by omega), if_neg (by omega)]
/-- What's next to each other, when it changes places. -/
theorem gd_swap_eq {n p : Nat} {B : Nat → Vec} (h : gd n B p ≠ 0) : gd n (fun a => B (tw p a)) (p + 1) * gd n B (p + 1) = gd n B (p + 2) * gd n B p + gg n B p (B p) (B (p + 1)) * gg n B p (B p) (B (p + 1)) := by
  have s := gg_step (B (p + 1)) (B (p + 1)) h
  rw [← gd_succ] at s
  rw [gd_swap_at]
  show _ = gd n B (p + 1 + 1) * gd n B p + _
  grind
end Mx

/-! The specification's words by vectors. -/
namespace Mx
abbrev LRow := List Int
abbrev LRows := List LRow
def vec (x : List Int) : Vec := fun i => x.getD i 0
def fam (b : List (List Int)) : Nat → Vec := fun a => vec (b.getD a [])
def mat (b : List (List Int)) : Mat := fun a c => (b.getD a []).getD c 0
theorem getD_erase {α : Type} (l : List α) (j c : Nat) (d : α) : (l.eraseIdx j).getD c d = l.getD (sk j c) d := by
  rw [List.getD_eq_getElem?_getD, List.getD_eq_getElem?_getD, List.getElem?_eraseIdx]
  unfold sk; split <;> rfl
theorem getD_map_erase (l : List (List Int)) (j a : Nat) : (l.map fun x => x.eraseIdx j).getD a [] = (l.getD a []).eraseIdx j := by
  rw [List.getD_eq_getElem?_getD, List.getD_eq_getElem?_getD, List.getElem?_map]
  cases l[a]? <;> rfl
theorem sum_sg (f : Nat → Int) : ∀ n : Nat, ((List.range n).map f).sum = sg n f
  | 0 => rfl
  | n + 1 => by rw [List.range_succ, List.map_append, List.sum_append, sum_sg f n]; simp [sg]
theorem det_dt : ∀ (m : Nat) (b : List (List Int)), Si18.det m b = dt m (mat b)
  | 0, _ => rfl
  | m + 1, [] => by
    show (0 : Int) = sg (m + 1) _
    refine (sg_zero fun j _ => ?_).symm
    show sgn j * mat [] 0 j * _ = 0
    have : mat [] 0 j = 0 := rfl
    rw [this]; grind
  | m + 1, r :: l => by
    show ((List.range (m + 1)).map _).sum = _
    rw [sum_sg]
    refine sg_congr fun j _ => ?_
    rw [det_dt m]
    show sgn j * r.getD j 0 * _ = sgn j * mat (r :: l) 0 j * dt m (mn (mat (r :: l)) j)
    have e : dt m (mat (l.map fun x => x.eraseIdx j)) = dt m (mn (mat (r :: l)) j) := dt_congr fun a c _ _ => by
      show ((l.map fun x => x.eraseIdx j).getD a []).getD c 0 = ((r :: l).getD (a + 1) []).getD (sk j c) 0
      rw [getD_map_erase, getD_erase]; rfl
    rw [e]; rfl
theorem dot_dp : ∀ {n : Nat} {x y : List Int}, x.length ≤ n → y.length ≤ n → Si18.dot x y = dp n (vec x) (vec y)
  | n, [], y, _, _ => by
    show (0 : Int) = sg n _
    refine (sg_zero fun i _ => ?_).symm
    show (0 : Int) * _ = 0
    omega
  | n, a :: x, [], _, _ => by
    show (0 : Int) = sg n _
    refine (sg_zero fun i _ => ?_).symm
    show _ * (0 : Int) = 0
    omega
  | 0, a :: x, b :: y, h, _ => absurd h (by simp)
  | n + 1, a :: x, b :: y, h, g => by
    have ih := dot_dp (n := n) (x := x) (y := y) (by simpa using h) (by simpa using g)
    unfold dp
    rw [sg_first]
    have : Si18.dot (a :: x) (b :: y) = a * b + Si18.dot x y := by unfold Si18.dot; simp
    rw [this, ih]; rfl
theorem vec_plus {x y : List Int} (h : x.length = y.length) (i : Nat) : vec (Si18.plus x y) i = vec x i + vec y i := by
  unfold vec Si18.plus
  rw [List.getD_eq_getElem?_getD, List.getD_eq_getElem?_getD, List.getD_eq_getElem?_getD, List.getElem?_zipWith]
  by_cases q : i < x.length
  · rw [List.getElem?_eq_getElem q, List.getElem?_eq_getElem (h ▸ q)]; rfl
  · rw [List.getElem?_eq_none (by omega), List.getElem?_eq_none (by omega)]; rfl
theorem plus_length {x y : List Int} (h : x.length = y.length) : (Si18.plus x y).length = x.length := by
  unfold Si18.plus; simp [h]
theorem vec_times (c : Int) (x : List Int) (i : Nat) : vec (Si18.times c x) i = c * vec x i := by
  unfold vec Si18.times
  rw [List.getD_eq_getElem?_getD, List.getD_eq_getElem?_getD, List.getElem?_map]
  cases x[i]? with
  | none => simp
  | some a => rfl
theorem times_length (c : Int) (x : List Int) : (Si18.times c x).length = x.length := by unfold Si18.times; simp
theorem vec_ext {n : Nat} {x y : List Int} (hx : x.length = n) (hy : y.length = n) (h : ∀ i, i < n → vec x i = vec y i) : x = y := by
  refine List.ext_getElem (by omega) fun i h1 h2 => ?_
  have := h i (by omega)
  unfold vec at this
  rw [List.getD_eq_getElem?_getD, List.getD_eq_getElem?_getD, List.getElem?_eq_getElem h1, List.getElem?_eq_getElem h2] at this
  exact this
theorem vec_out {x : List Int} {i : Nat} (h : x.length ≤ i) : vec x i = 0 := by
  unfold vec; rw [List.getD_eq_getElem?_getD, List.getElem?_eq_none h]; rfl
theorem vec_ext' {x y : List Int} (hx : x.length = y.length) (h : ∀ i, vec x i = vec y i) : x = y := vec_ext rfl hx.symm fun i _ => h i
/-- Rows of n numbers at most. -/
def Wide (n : Nat) (b : List (List Int)) : Prop := ∀ r ∈ b, r.length ≤ n
theorem Wide.at {n : Nat} {b : List (List Int)} (h : Wide n b) (a : Nat) : (b.getD a []).length ≤ n := by
  rw [List.getD_eq_getElem?_getD]
  cases e : b[a]? with
  | none => simp
  | some r => exact h r (List.mem_of_getElem? e)
theorem lead_gg {n : Nat} {b : List (List Int)} {x : List Int} (h : Wide n b) (hx : x.length ≤ n) (j : Nat) : Si18.lead b x j = gg n (fam b) j (fam b j) (vec x) := by
  unfold Si18.lead
  rw [det_dt]
  refine dt_congr fun a c ha hc => ?_
  show (List.getD ((List.range (j + 1)).map _) a []).getD c 0 = _
  rw [List.getD_eq_getElem?_getD (l := (List.range (j + 1)).map _), List.getElem?_map, List.getElem?_range ha]
  show List.getD ((List.range (j + 1)).map _) c 0 = _
  rw [List.getD_eq_getElem?_getD, List.getElem?_map, List.getElem?_range hc]
  show Si18.dot (Si18.row b a) (if c = j then x else Si18.row b c) = _
  have e1 : (if a = j then fam b j else fam b a) = fam b a := by split <;> simp [*]
  rw [e1]
  split
  · exact dot_dp (h.at a) hx
  · exact dot_dp (h.at a) (h.at c)
theorem lam_gg {n : Nat} {b : List (List Int)} (h : Wide n b) (k j : Nat) : Si18.lam b k j = gg n (fam b) j (fam b j) (fam b k) := lead_gg h (h.at k) j
theorem vol_gd {n : Nat} {b : List (List Int)} (h : Wide n b) : ∀ j, Si18.vol b j = gd n (fam b) j
  | 0 => rfl
  | j + 1 => by rw [gd_succ]; exact lam_gg h j j
/-! ### The rows at right angles -/
def ov (n : Nat) (b : List (List Int)) (p : Nat) : Vec := fun j => sgn (p + j) * dt (n - 1) fun a c => mat b (sk p a) (sk j c)
theorem mat_fam (b : List (List Int)) (a c : Nat) : mat b a c = fam b a c := rfl
theorem ov_row {n : Nat} (b : List (List Int)) {p : Nat} (hp : p < n) (u : Vec) : dp n u (ov n b p) = dt n fun a c => if a = p then u c else mat b a c := by
  obtain ⟨m, rfl⟩ : ∃ m, n = m + 1 := ⟨n - 1, by omega⟩
  rw [dt_row (p := p) _ hp]
  refine sg_congr fun j _ => ?_
  show u j * (sgn (p + j) * dt m fun a c => mat b (sk p a) (sk j c)) = sgn (p + j) * (if p = p then u j else mat b p j) * dt m _
  rw [if_pos rfl]
  have e : (dt m fun a c => mat b (sk p a) (sk j c)) = dt m fun a c => if sk p a = p then u (sk j c) else mat b (sk p a) (sk j c) := dt_congr fun a c _ _ => by
    rw [if_neg]; unfold sk; split <;> omega
  rw [e]; grind
theorem ov_self {n : Nat} (b : List (List Int)) {p : Nat} (hp : p < n) : dp n (fam b p) (ov n b p) = Si18.det n b := by
  rw [ov_row b hp, det_dt]
  exact dt_congr fun a c _ _ => by
    split
    · next h => subst h; rfl
    · rfl
theorem ov_else {n : Nat} (b : List (List Int)) {p a : Nat} (hp : p < n) (ha : a < n) (ne : a ≠ p) : dp n (fam b a) (ov n b p) = 0 := by
  rw [ov_row b hp]
  have e : ∀ c, c < n → (if p = p then fam b a c else mat b p c) = (if a = p then fam b a c else mat b a c) := fun c _ => by
    rw [if_pos rfl, if_neg ne]; rfl
  rcases Nat.lt_or_gt_of_ne ne with q | q
  · exact dt_eqrows q hp fun c hc => (e c hc).symm
  · exact dt_eqrows q ha e
theorem other_get {n : Nat} {b : List (List Int)} {p : Nat} (hp : p < n) : (Si18.other n b)[p]? = some ((List.range n).map (ov n b p)) := by
  unfold Si18.other
  rw [List.getElem?_map, List.getElem?_range hp]
  show some _ = some _
  congr 1
  refine List.map_congr_left fun j hj => ?_
  have hj : j < n := List.mem_range.1 hj
  unfold ov sgn
  congr 1
  rw [det_dt]
  refine dt_congr fun a c _ _ => ?_
  show (((b.eraseIdx p).map fun x => x.eraseIdx j).getD a []).getD c 0 = (b.getD (sk p a) []).getD (sk j c) 0
  rw [getD_map_erase, getD_erase, getD_erase]
theorem vec_range {n : Nat} (f : Nat → Int) {i : Nat} (h : i < n) : vec ((List.range n).map f) i = f i := by
  unfold vec; rw [List.getD_eq_getElem?_getD, List.getElem?_map, List.getElem?_range h]; rfl
/-- Multiples by the rows at right angles. -/
theorem mult_of {n : Nat} {b : List (List Int)} {c : Nat → Int} {x : Vec} (h : ∀ i, i < n → x i = sg n fun a => c a * fam b a i) {p : Nat} (hp : p < n) : dp n x (ov n b p) = c p * Si18.det n b := by
  rw [dp_congr h fun _ _ => rfl, dp_sum, sg_one hp fun a ha ne => ?_, ov_self b hp]
  rw [ov_else b hp ha ne]; omega
theorem ind_of {n : Nat} {b : List (List Int)} (h : Si18.det n b ≠ 0) : Ind n (fam b) n := fun c z a ha => by
  have e := mult_of (x := fun _ => 0) (c := c) (b := b) (fun i hi => (z i hi).symm) ha
  have : dp n (fun _ => 0) (ov n b a) = 0 := sg_zero fun i _ => by show 0 * _ = (0 : Int); omega
  rw [this] at e
  exact (Int.mul_eq_zero.1 e.symm).resolve_right h
end Mx

/-! Reducing: what stays, and that it ends. -/
namespace Mx
theorem Tri.le {B E : Nat → Vec} (h : Tri B E) : ∀ {k : Nat} {x : Vec}, Sp B k x → Sp E k x := by
  have H : ∀ k a, a < k → Sp E k (B a) := fun k => by
    induction k with
    | zero => intro a ha; omega
    | succ k ih =>
      intro a ha
      by_cases e : a = k
      · subst e
        exact ((Sp.mem (B := E) (k := a + 1) (a := a) (by omega)).sub (((h.one a).trans ih).mono (by omega))).of_eq fun i => by grind
      · exact (ih a (by omega)).mono (by omega)
  exact fun {_ _} s => s.trans fun a ha => H _ a ha
/-- n rows of n numbers. -/
structure Sh (n : Nat) (b : List (List Int)) : Prop where
  len : b.length = n
  row : ∀ r ∈ b, r.length = n
theorem Sh.wide {n : Nat} {b : List (List Int)} (h : Sh n b) : Wide n b := fun r hr => Nat.le_of_eq (h.row r hr)
theorem Sh.at {n : Nat} {b : List (List Int)} (h : Sh n b) {a : Nat} (ha : a < n) : (b.getD a []).length = n := by
  rw [List.getD_eq_getElem?_getD, List.getElem?_eq_getElem (h.len ▸ ha)]
  exact h.row _ (List.getElem_mem _)
theorem Sh.set {n : Nat} {b : List (List Int)} (h : Sh n b) {r : List Int} (hr : r.length = n) (k : Nat) : Sh n (b.set k r) where
  len := by rw [List.length_set, h.len]
  row := fun x hx => by
    rcases List.mem_or_eq_of_mem_set hx with q | q
    · exact h.row x q
    · rw [q, hr]
theorem getD_set {b : List (List Int)} {k : Nat} (hk : k < b.length) (r : List Int) (a : Nat) : (b.set k r).getD a [] = if a = k then r else b.getD a [] := by
  rw [List.getD_eq_getElem?_getD, List.getD_eq_getElem?_getD, List.getElem?_set]
  by_cases e : k = a
  · rw [if_pos e, if_pos hk, if_pos e.symm]; rfl
  · rw [if_neg e, if_neg (Ne.symm e)]
theorem fam_set {b : List (List Int)} {k : Nat} (hk : k < b.length) (r : List Int) (a : Nat) : fam (b.set k r) a = if a = k then vec r else fam b a := by
  unfold fam; rw [getD_set hk]; split <;> rfl
theorem row_at (b : List (List Int)) (a : Nat) : Si18.row b a = b.getD a [] := rfl
/-- A row less a multiple of one ahead of it. -/
def less1 (b : List (List Int)) (k j : Nat) (q : Int) : List (List Int) := b.set k (Si18.plus (Si18.row b k) (Si18.times (-q) (Si18.row b j)))
theorem less1_sh {n : Nat} {b : List (List Int)} (h : Sh n b) {k j : Nat} (hk : k < n) (hj : j < n) (q : Int) : Sh n (less1 b k j q) := by
  refine h.set ?_ k
  rw [plus_length, row_at, h.at hk]
  rw [times_length, row_at, row_at, h.at hk, h.at hj]
theorem less1_fam {n : Nat} {b : List (List Int)} (h : Sh n b) {k j : Nat} (hk : k < n) (hj : j < n) (q : Int) (a : Nat) : fam (less1 b k j q) a = if a = k then (fun i => fam b k i - q * fam b j i) else fam b a := by
  unfold less1
  rw [fam_set (h.len ▸ hk)]
  split
  · funext i
    rw [vec_plus (by rw [times_length, row_at, row_at, h.at hk, h.at hj]), vec_times, row_at, row_at]
    show fam b k i + -q * fam b j i = _
    grind
  · rfl
theorem less1_tri {n : Nat} {b : List (List Int)} (h : Sh n b) {k j : Nat} (hk : k < n) (hj : j < k) (q : Int) : Tri (fam b) (fam (less1 b k j q)) := ⟨fun a => by
  rw [less1_fam h hk (by omega)]
  split
  · next e =>
    subst e
    exact ((Sp.mem hj).mul (-q)).of_eq fun i => by grind
  · exact (Sp.zero (fam b) a).of_eq fun i => by omega⟩
theorem det_rowset {n : Nat} {b : List (List Int)} (h : b.length = n) {k : Nat} (hk : k < n) (r : List Int) : Si18.det n (b.set k r) = dp n (vec r) (ov n b k) := by
  rw [ov_row b hk, det_dt]
  refine dt_congr fun a c _ _ => ?_
  show fam (b.set k r) a c = if a = k then vec r c else fam b a c
  rw [fam_set (by omega)]; split <;> rfl
theorem less1_det {n : Nat} {b : List (List Int)} (h : Sh n b) {k j : Nat} (hk : k < n) (hj : j < k) (q : Int) : Si18.det n (less1 b k j q) = Si18.det n b := by
  unfold less1
  rw [det_rowset h.len hk]
  have e : dp n (vec (Si18.plus (Si18.row b k) (Si18.times (-q) (Si18.row b j)))) (ov n b k) = dp n (fun i => fam b k i + -q * fam b j i) (ov n b k) := dp_congr (fun i _ => by
    rw [vec_plus (by rw [times_length, row_at, row_at, h.at hk, h.at (a := j) (by omega)]), vec_times]; rfl) fun _ _ => rfl
  rw [e, dp_add, dp_mul, ov_self b hk, ov_else b hk (by omega) (by omega)]; omega
/-- Neighbours change places. -/
theorem swapped_sh {n : Nat} {b : List (List Int)} (h : Sh n b) {k : Nat} (hk : k + 1 < n) : Sh n (Si18.swapped b (k + 1)) :=
  (h.set (h.at (a := k) (by omega)) (k + 1)).set (h.at hk) k
theorem swapped_fam {n : Nat} {b : List (List Int)} (h : Sh n b) {k : Nat} (hk : k + 1 < n) : fam (Si18.swapped b (k + 1)) = fun a => fam b (tw k a) := by
  funext a
  show fam ((b.set (k + 1) (b.getD k [])).set k (b.getD (k + 1) [])) a = _
  rw [fam_set (by rw [List.length_set, h.len]; omega), fam_set (by rw [h.len]; omega)]
  unfold tw
  by_cases e : a = k
  · rw [if_pos e, if_pos e]; rfl
  · rw [if_neg e, if_neg e]; split
    · rfl
    · rfl
theorem swapped_det {n : Nat} {b : List (List Int)} (h : Sh n b) {k : Nat} (hk : k + 1 < n) : Si18.det n (Si18.swapped b (k + 1)) = -(Si18.det n b) := by
  rw [det_dt, det_dt, ← dt_rows (mat b) hk]
  refine dt_congr fun a c _ _ => ?_
  show fam (Si18.swapped b (k + 1)) a c = fam b (tw k a) c
  rw [swapped_fam h hk]
theorem tw_lt {k a n : Nat} (h : k + 1 < n) : tw k a < n ↔ a < n := by unfold tw; grind
theorem sp_swap {B : Nat → Vec} {k n : Nat} (h : k + 1 < n) {x : Vec} : Sp (fun a => B (tw k a)) n x ↔ Sp B n x := by
  constructor
  · exact fun s => s.trans fun a ha => Sp.mem ((tw_lt h).2 ha)
  · refine fun s => s.trans fun a ha => ?_
    have := Sp.mem (B := fun a => B (tw k a)) (k := n) (a := tw k a) ((tw_lt h).2 ha)
    simpa [tw_tw] using this
/-! ### The nearest whole number -/
theorem nearest_spec {x y : Int} (h : 0 < y) : -y ≤ 2 * (x - Si18.nearest x y * y) ∧ 2 * (x - Si18.nearest x y * y) ≤ y := by
  have e1 := Int.mul_ediv_add_emod (2 * x + y) (2 * y)
  have e2 := Int.emod_nonneg (2 * x + y) (b := 2 * y) (by omega)
  have e3 := Int.emod_lt_of_pos (2 * x + y) (b := 2 * y) (by omega)
  unfold Si18.nearest
  generalize (2 * x + y) / (2 * y) = q at *
  have e4 : 2 * y * q = 2 * (q * y) := by grind
  omega
/-! ### The bounds -/
/-- Small at right angles, up to j. -/
def Fit (n : Nat) (B : Nat → Vec) (j : Nat) (y : Vec) : Prop := -(gd n B (j + 1)) ≤ 2 * gg n B j (B j) y ∧ 2 * gg n B j (B j) y ≤ gd n B (j + 1)
theorem abs_sq {x y : Int} (h : -y ≤ x) (g : x ≤ y) : x * x ≤ y * y := by
  have := Int.mul_nonneg (show 0 ≤ y - x by omega) (show 0 ≤ y + x by omega)
  have e : (y - x) * (y + x) = y * y - x * x := by grind
  omega
theorem fit_sq {n : Nat} {B : Nat → Vec} {A : Int} (hA : 0 ≤ A) {m : Nat} (p : ∀ j, j ≤ m → 0 < gd n B j) (r : ∀ j, j < m → gd n B (j + 1) ≤ A * gd n B j) {y : Vec} (t : gg n B m y y ≤ A * gd n B m) (f : ∀ j, j < m → Fit n B j y) :
    ∀ d l, l + d = m → 4 * gg n B l y y ≤ A * (4 + d) * gd n B l
  | 0, l, e => by
    have : l = m := by omega
    subst this
    have : A * (4 + (0 : Nat)) * gd n B l = 4 * (A * gd n B l) := by grind
    omega
  | d + 1, l, e => by
    have ih := fit_sq hA p r t f d (l + 1) (by omega)
    have s := gg_step y y (Int.ne_of_gt (p l (by omega)))
    have q := abs_sq (f l (by omega)).1 (f l (by omega)).2
    have r1 := r l (by omega)
    have p1 := p l (by omega)
    have p2 := p (l + 1) (by omega)
    generalize gg n B l (B l) y = L at *
    generalize gd n B l = D at *
    generalize gd n B (l + 1) = E at *
    generalize gg n B (l + 1) y y = N1 at *
    generalize gg n B l y y = N at *
    have a1 : D * (4 * N1) ≤ D * (A * (4 + d) * E) := Int.mul_le_mul_of_nonneg_left ih (by omega)
    have a2 : E * E ≤ E * (A * D) := Int.mul_le_mul_of_nonneg_left r1 (by omega)
    have a3 : E * (4 * N) ≤ E * (A * (4 + (d + 1 : Nat)) * D) := by
      have : E * (A * (4 + (d + 1 : Nat)) * D) = D * (A * (4 + d) * E) + E * (A * D) := by grind
      rw [this]
      have : E * (4 * N) = D * (4 * N1) + 2 * L * (2 * L) := by grind
      omega
    exact Int.le_of_mul_le_mul_left a3 p2
/-! ### What holds while reducing -/
structure Inv (n : Nat) (A : Int) (k : Nat) (b : List (List Int)) : Prop where
  sh : Sh n b
  det : Si18.det n b ≠ 0
  pos : ∀ j, j ≤ n → 0 < gd n (fam b) j
  rat : ∀ j, j < n → gd n (fam b) (j + 1) ≤ A * gd n (fam b) j
  sq : ∀ a, a < n → dp n (fam b a) (fam b a) ≤ 2 * A
  fit : ∀ a, a < k → ∀ j, j < a → Fit n (fam b) j (fam b a)
  ord : ∀ a, a < k → 0 < a → Si18.holds b a = true
def lessened (b : List (List Int)) (k : Nat) : Nat → List (List Int)
  | 0 => b
  | i + 1 => lessened (Si18.shrink b k i) k i
theorem shrunk_eq (b : List (List Int)) (k : Nat) : Si18.shrunk b k = lessened b k k := by
  have H : ∀ i b, (List.range i).reverse.foldl (fun (c : List (List Int)) (j : Nat) => Si18.shrink c k j) b = lessened b k i := fun i => by
    induction i with
    | zero => exact fun _ => rfl
    | succ i ih =>
      intro b
      rw [List.range_succ, List.reverse_append]
      exact ih _
  exact H k b
theorem shrink_eq (b : List (List Int)) (k j : Nat) : Si18.shrink b k j = less1 b k j (Si18.nearest (Si18.lam b k j) (Si18.vol b (j + 1))) := rfl
/-- What stays while a row is lessened. -/
structure Les (n k : Nat) (b c : List (List Int)) : Prop where
  sh : Sh n c
  det : Si18.det n c = Si18.det n b
  tri : Tri (fam b) (fam c)
  els : ∀ a, a ≠ k → c.getD a [] = b.getD a []
theorem Tri.refl (B : Nat → Vec) : Tri B B := ⟨fun a => (Sp.zero B a).of_eq fun i => by omega⟩
theorem Tri.trans {B E F : Nat → Vec} (h : Tri B E) (g : Tri E F) : Tri B F := ⟨fun a => ((h.sp (g.one a)).add (h.one a)).of_eq fun i => by grind⟩
theorem Tri.symm {B E : Nat → Vec} (h : Tri B E) : Tri E B := ⟨fun a => ((h.le (h.one a)).mul (-1)).of_eq fun i => by grind⟩
theorem lessened_ok {n k : Nat} (hk : k < n) : ∀ (i : Nat) (b : List (List Int)), i ≤ k → Sh n b → (∀ j, j ≤ k → 0 < gd n (fam b) j) → (∀ j, i ≤ j → j < k → Fit n (fam b) j (fam b k)) →
    Les n k b (lessened b k i) ∧ ∀ j, j < k → Fit n (fam b) j (fam (lessened b k i) k)
  | 0, b, _, h, p, f => ⟨⟨h, rfl, Tri.refl _, fun _ _ => rfl⟩, fun j hj => f j (by omega) hj⟩
  | i + 1, b, hi, h, p, f => by
    have hs := shrink_eq b k i
    generalize hq : Si18.nearest (Si18.lam b k i) (Si18.vol b (i + 1)) = q at hs
    have h1 : Sh n (Si18.shrink b k i) := hs ▸ less1_sh h hk (by omega) q
    have t1 : Tri (fam b) (fam (Si18.shrink b k i)) := hs ▸ less1_tri h hk (by omega) q
    have d1 : Si18.det n (Si18.shrink b k i) = Si18.det n b := hs ▸ less1_det h hk (by omega) q
    have g1 : ∀ a, a ≠ k → (Si18.shrink b k i).getD a [] = b.getD a [] := fun a ha => by
      show (b.set k _).getD a [] = _
      rw [getD_set (by rw [h.len]; exact hk), if_neg ha]
    have fr := t1.frame (n := n)
    have fk : fam (Si18.shrink b k i) k = fun a => fam b k a - q * fam b i a := by rw [hs, less1_fam h hk (by omega), if_pos rfl]
    have fj : ∀ j, j < k → fam (Si18.shrink b k i) j = fam b j := fun j hj => by unfold fam; rw [g1 j (by omega)]
    have fit' : ∀ j, j < k → (Fit n (fam b) j (fam (Si18.shrink b k i) k) ↔ Fit n (fam (Si18.shrink b k i)) j (fam (Si18.shrink b k i) k)) := fun j hj => by
      unfold Fit; rw [(fr (j + 1)).1, (fr j).2, fj j hj]
    have ih := lessened_ok hk i (Si18.shrink b k i) (by omega) h1 (fun j hj => (fr j).1 ▸ p j hj) (fun j h1 h2 => by
      rw [← fit' j h2]
      unfold Fit
      rw [fk, gg_subr, gg_mulr]
      by_cases e : j = i
      · subst e
        have := nearest_spec (x := Si18.lam b k j) (y := Si18.vol b (j + 1)) (by rw [vol_gd h.wide]; exact p _ (by omega))
        rw [hq, vol_gd h.wide, lam_gg h.wide] at this
        rw [← gd_succ]; exact this
      · rw [gg_lower (show i < j by omega)]
        have := f j (by omega) h2
        unfold Fit at this
        rw [Int.mul_zero, Int.sub_zero]; exact this)
    refine ⟨⟨ih.1.sh, ih.1.det.trans d1, t1.trans ih.1.tri, fun a ha => (ih.1.els a ha).trans (g1 a ha)⟩, fun j hj => ?_⟩
    have := ih.2 j hj
    unfold Fit at this ⊢
    rw [(fr (j + 1)).1, (fr j).2, fj j hj] at this
    exact this
end Mx

/-! Reducing ends. -/
namespace Mx
theorem holds_iff {n : Nat} {b : List (List Int)} (h : Wide n b) (k : Nat) : Si18.holds b k = true ↔ 3 * gd n (fam b) k ^ 2 ≤ 4 * (gd n (fam b) (k + 1) * gd n (fam b) (k - 1) + gg n (fam b) (k - 1) (fam b (k - 1)) (fam b k) ^ 2) := by
  unfold Si18.holds
  rw [decide_eq_true_iff, vol_gd h, vol_gd h, vol_gd h, lam_gg h]
/-- The product of the first n. -/
def pr : Nat → (Nat → Int) → Int
  | 0, _ => 1
  | n + 1, f => pr n f * f n
theorem pr_pos {f : Nat → Int} : ∀ {n : Nat}, (∀ i, i < n → 0 < f i) → 0 < pr n f
  | 0, _ => by show (0 : Int) < 1; decide
  | n + 1, h => Int.mul_pos (pr_pos fun i hi => h i (by omega)) (h n (by omega))
theorem pr_congr {f g : Nat → Int} : ∀ {n : Nat}, (∀ i, i < n → f i = g i) → pr n f = pr n g
  | 0, _ => rfl
  | n + 1, h => by
    show pr n f * f n = pr n g * g n
    rw [pr_congr (n := n) fun i hi => h i (by omega), h n (by omega)]
theorem pr_less {f g : Nat → Int} {k : Nat} : ∀ {n : Nat}, k < n → (∀ i, i < n → i ≠ k → g i = f i) → (∀ i, i < n → 0 < f i) → 4 * g k < 3 * f k → 4 * pr n g < 3 * pr n f
  | 0, h, _, _, _ => absurd h (by omega)
  | n + 1, h, e, p, q => by
    show 4 * (pr n g * g n) < 3 * (pr n f * f n)
    by_cases s : k = n
    · subst s
      rw [pr_congr (n := k) fun i hi => e i (by omega) (by omega)]
      have := pr_pos (f := f) (n := k) fun i hi => p i (by omega)
      have := Int.mul_lt_mul_of_pos_left q this
      grind
    · have ih := pr_less (n := n) (by omega) (fun i hi => e i (by omega)) (fun i hi => p i (by omega)) q
      rw [e n (by omega) (by omega)]
      have := Int.mul_lt_mul_of_pos_right ih (p n (by omega))
      grind
def pot (n : Nat) (b : List (List Int)) : Int := pr n (gd n (fam b))
theorem Inv.pot_pos {n k : Nat} {A : Int} {b : List (List Int)} (h : Inv n A k b) : 0 < pot n b := pr_pos fun i hi => h.pos i (by omega)
/-- What a round keeps, before it's asked about the order. -/
theorem inv_less {n k : Nat} {A : Int} {b : List (List Int)} (hn : n ≤ 5) (hA : 0 < A) (h : Inv n A k b) (hk : k < n) :
    Inv n A k (Si18.shrunk b k) ∧ (∀ j, j < k → Fit n (fam (Si18.shrunk b k)) j (fam (Si18.shrunk b k) k)) ∧ Les n k b (Si18.shrunk b k) := by
  obtain ⟨l, f⟩ := lessened_ok hk k b (Nat.le_refl k) h.sh (fun j hj => h.pos j (by omega)) (fun j h1 h2 => by omega)
  rw [← shrunk_eq] at l f
  generalize Si18.shrunk b k = c at *
  have fr := l.tri.frame (n := n)
  have fa : ∀ a, a ≠ k → fam c a = fam b a := fun a ha => by unfold fam; rw [l.els a ha]
  have pos : ∀ j, j ≤ n → 0 < gd n (fam c) j := fun j hj => by rw [(fr j).1]; exact h.pos j hj
  have rat : ∀ j, j < n → gd n (fam c) (j + 1) ≤ A * gd n (fam c) j := fun j hj => by rw [(fr j).1, (fr (j + 1)).1]; exact h.rat j hj
  have ff : ∀ a, a ≠ k → ∀ j, j ≠ k → (Fit n (fam c) j (fam c a) ↔ Fit n (fam b) j (fam b a)) := fun a ha j hj => by
    unfold Fit; rw [(fr (j + 1)).1, (fr j).2, fa a ha, fa j hj]
  have f' : ∀ j, j < k → Fit n (fam c) j (fam c k) := fun j hj => by
    have := f j hj
    unfold Fit at this ⊢
    rw [(fr (j + 1)).1, (fr j).2, fa j (by omega)]; exact this
  refine ⟨⟨l.sh, fun e => h.det (l.det ▸ e), pos, rat, fun a ha => ?_, fun a ha j hj => (ff a (by omega) j (by omega)).2 (h.fit a ha j hj), fun a ha h0 => ?_⟩, f', l⟩
  · by_cases e : a = k
    · subst e
      have := fit_sq (n := n) (B := fam c) (A := A) (by omega) (m := a) (fun j hj => pos j (by omega)) (fun j hj => rat j (by omega)) (y := fam c a) (by rw [← gd_succ]; exact rat a ha) f' a 0 (by omega)
      rw [gg_zero, gd_zero] at this
      have : A * (4 + (a : Int)) ≤ A * 8 := Int.mul_le_mul_of_nonneg_left (by omega) (by omega)
      omega
    · rw [fa a e]; exact h.sq a ha
  · have := h.ord a ha h0
    rw [holds_iff h.sh.wide] at this
    rw [holds_iff l.sh.wide, (fr a).1, (fr (a + 1)).1, (fr (a - 1)).1, (fr (a - 1)).2, fa a (by omega), fa (a - 1) (by omega)]
    exact this
theorem les_pot {n k : Nat} {b c : List (List Int)} (l : Les n k b c) : pot n c = pot n b := pr_congr fun i _ => (l.tri.frame i).1
/-- The order holds: one up. -/
theorem inv_up {n k : Nat} {A : Int} {c : List (List Int)} (h : Inv n A k c) (f : ∀ j, j < k → Fit n (fam c) j (fam c k)) (o : 0 < k → Si18.holds c k = true) : Inv n A (k + 1) c where
  sh := h.sh
  det := h.det
  pos := h.pos
  rat := h.rat
  sq := h.sq
  fit := fun a ha j hj => by
    by_cases e : a = k
    · subst e; exact f j hj
    · exact h.fit a (by omega) j hj
  ord := fun a ha h0 => by
    by_cases e : a = k
    · subst e; exact o h0
    · exact h.ord a (by omega) h0
/-- It doesn't hold: they change places. -/
theorem inv_swap {n p : Nat} {A : Int} {c : List (List Int)} (hA : 0 < A) (h : Inv n A (p + 1) c) (hk : p + 1 < n) (o : ¬ Si18.holds c (p + 1) = true) :
    Inv n A (max 1 p) (Si18.swapped c (p + 1)) ∧ 4 * pot n (Si18.swapped c (p + 1)) < 3 * pot n c := by
  have fs := swapped_fam h.sh hk
  have sh := swapped_sh h.sh hk
  rw [holds_iff h.sh.wide] at o
  have eq := gd_swap_eq (n := n) (p := p) (B := fam c) (Int.ne_of_gt (h.pos p (by omega)))
  have els : ∀ j, j ≠ p + 1 → gd n (fam (Si18.swapped c (p + 1))) j = gd n (fam c) j := fun j hj => by rw [fs]; exact gd_swap hj
  rw [← fs] at eq
  have p0 := h.pos p (by omega)
  have p1 := h.pos (p + 1) (by omega)
  have p2 := h.pos (p + 2) (by omega)
  have r0 := h.rat p (by omega)
  have r1 := h.rat (p + 1) (by omega)
  rw [show p + 1 - 1 = p from rfl] at o
  have e0 := els p (by omega)
  have e2 := els (p + 2) (by omega)
  generalize hE : gd n (fam (Si18.swapped c (p + 1))) (p + 1) = E at *
  generalize hL : gg n (fam c) p (fam c p) (fam c (p + 1)) = L at *
  have small : 4 * E < 3 * gd n (fam c) (p + 1) := by
    have : 4 * E * gd n (fam c) (p + 1) < 3 * gd n (fam c) (p + 1) * gd n (fam c) (p + 1) := by
      have : ¬ 3 * gd n (fam c) (p + 1) ^ 2 ≤ 4 * (gd n (fam c) (p + 2) * gd n (fam c) p + L ^ 2) := o
      rw [Int.not_le] at this
      grind
    exact Int.lt_of_mul_lt_mul_right this (by omega)
  have Epos : 0 < E := by
    have : 0 < E * gd n (fam c) (p + 1) := by
      have a := Int.mul_pos p2 p0
      have b := sq_nonneg L
      omega
    rcases Int.lt_or_le 0 E with q | q
    · exact q
    · have := Int.mul_le_mul_of_nonneg_right q (Int.le_of_lt p1); omega
  have fit_iff : ∀ a, a < p → ∀ j, j < a → (Fit n (fam (Si18.swapped c (p + 1))) j (fam (Si18.swapped c (p + 1)) a) ↔ Fit n (fam c) j (fam c a)) := fun a ha j hj => by
    have ta : ∀ a, a < p → fam (Si18.swapped c (p + 1)) a = fam c a := fun a ha => by
      rw [fs]; show fam c (tw p a) = _; congr 1; unfold tw; rw [if_neg (by omega), if_neg (by omega)]
    unfold Fit
    rw [els (j + 1) (by omega), ta a ha, ta j (by omega), gg_congr (E := fam c) (x' := fam c a) (y' := fam c j) (fun b hb i _ => by rw [ta b (by omega)]) (fun _ _ => rfl) (fun _ _ => rfl)]
  refine ⟨⟨sh, ?_, fun j hj => ?_, fun j hj => ?_, fun a ha => ?_, fun a ha j hj => ?_, fun a ha h0 => ?_⟩, ?_⟩
  · rw [swapped_det h.sh hk]; have := h.det; omega
  · by_cases e : j = p + 1
    · rw [e, hE]; exact Epos
    · rw [els j e]; exact h.pos j hj
  · by_cases e : j = p
    · rw [e, hE, e0]; omega
    by_cases e' : j = p + 1
    · rw [e', hE, e2]
      have : gd n (fam c) (p + 1) * gd n (fam c) (p + 2) ≤ gd n (fam c) (p + 1) * (A * E) := by
        have a1 : gd n (fam c) (p + 2) * gd n (fam c) (p + 1) ≤ gd n (fam c) (p + 2) * (A * gd n (fam c) p) := Int.mul_le_mul_of_nonneg_left r0 (by omega)
        have a2 : 0 ≤ A * (L * L) := Int.mul_nonneg (by omega) (sq_nonneg L)
        have a3 : A * (E * gd n (fam c) (p + 1)) = A * (gd n (fam c) (p + 2) * gd n (fam c) p) + A * (L * L) := by rw [eq]; grind
        grind
      exact Int.le_of_mul_le_mul_left this p1
    · rw [els j e', els (j + 1) (by omega)]; exact h.rat j hj
  · rw [fs]; exact h.sq _ ((tw_lt hk).2 ha)
  · exact (fit_iff a (by omega) j hj).2 (h.fit a (by omega) j hj)
  · have := h.ord a (by omega) h0
    rw [holds_iff h.sh.wide] at this
    have ta : ∀ a, a < p → fam (Si18.swapped c (p + 1)) a = fam c a := fun a ha => by
      rw [fs]; show fam c (tw p a) = _; congr 1; unfold tw; rw [if_neg (by omega), if_neg (by omega)]
    rw [holds_iff sh.wide, els a (by omega), els (a + 1) (by omega), els (a - 1) (by omega), ta a (by omega), ta (a - 1) (by omega), gg_congr (E := fam c) (x' := fam c a) (y' := fam c (a - 1)) (fun b hb i _ => by rw [ta b (by omega)]) (fun _ _ => rfl) (fun _ _ => rfl)]
    exact this
  · refine pr_less hk (fun i hi ne => els i ne) (fun i hi => h.pos i (by omega)) ?_
    rw [hE]; exact small
/-- The grid. -/
def InG (n : Nat) (b : List (List Int)) (x : List Int) : Prop := x.length = n ∧ Sp (fam b) n (vec x)
theorem tri_grid {n : Nat} {b c : List (List Int)} (h : Tri (fam b) (fam c)) (x : List Int) : InG n c x ↔ InG n b x :=
  ⟨fun s => ⟨s.1, h.sp s.2⟩, fun s => ⟨s.1, h.le s.2⟩⟩
theorem swap_grid {n p : Nat} {c : List (List Int)} (h : Sh n c) (hk : p + 1 < n) (x : List Int) : InG n (Si18.swapped c (p + 1)) x ↔ InG n c x := by
  unfold InG; rw [swapped_fam h hk, sp_swap hk]
theorem run_ok {n : Nat} {A : Int} (hn : n ≤ 5) (hA : 0 < A) : ∀ (f t k : Nat) (b : List (List Int)), Inv n A k b → 1 ≤ k → k ≤ n → pot n b * 3 ^ t < 4 ^ t → 2 * t + (n - k) + 1 ≤ f →
    ∃ c, Si18.run n f k b = some c ∧ Inv n A n c ∧ ∀ x, InG n c x ↔ InG n b x
  | 0, t, k, b, _, _, _, _, hf => absurd hf (by omega)
  | f + 1, t, k, b, h, h1, hk, hp, hf => by
    unfold Si18.run
    by_cases e : n ≤ k
    · rw [if_pos e]
      have : k = n := by omega
      subst this
      exact ⟨b, rfl, h, fun _ => Iff.rfl⟩
    · rw [if_neg e]
      obtain ⟨i1, i2, l⟩ := inv_less hn hA h (by omega)
      have pe := les_pot l
      have ge := tri_grid (n := n) l.tri
      show ∃ c, (if Si18.holds (Si18.shrunk b k) k = true then Si18.run n f (k + 1) (Si18.shrunk b k) else Si18.run n f (max 1 (k - 1)) (Si18.swapped (Si18.shrunk b k) k)) = some c ∧ _
      generalize Si18.shrunk b k = c at *
      by_cases o : Si18.holds c k = true
      · rw [if_pos o]
        obtain ⟨d, a1, a2, a3⟩ := run_ok hn hA f t (k + 1) c (inv_up i1 i2 fun _ => o) (by omega) (by omega) (pe ▸ hp) (by omega)
        exact ⟨d, a1, a2, fun x => (a3 x).trans (ge x)⟩
      · rw [if_neg o]
        obtain ⟨p, rfl⟩ : ∃ p, k = p + 1 := ⟨k - 1, by omega⟩
        obtain ⟨j1, j2⟩ := inv_swap hA i1 (by omega) o
        obtain ⟨u, rfl⟩ : ∃ u, t = u + 1 := ⟨t - 1, by
          have : t ≠ 0 := fun z => by
            subst z
            have := i1.pot_pos
            rw [pe] at this
            simp at hp; omega
          omega⟩
        have hp' : pot n (Si18.swapped c (p + 1)) * 3 ^ u < 4 ^ u := by
          rw [← pe] at hp
          have w : (0 : Int) < 3 ^ u := Int.pow_pos (by decide)
          have := Int.mul_lt_mul_of_pos_right j2 w
          have e3 : pot n c * 3 ^ (u + 1) = 3 * pot n c * 3 ^ u := by rw [Int.pow_succ]; grind
          have e4 : (4 : Int) ^ (u + 1) = 4 * 4 ^ u := by rw [Int.pow_succ]; grind
          rw [e3, e4] at hp
          grind
        obtain ⟨d, a1, a2, a3⟩ := run_ok hn hA f u (max 1 p) (Si18.swapped c (p + 1)) j1 (by omega) (by omega) hp' (by omega)
        exact ⟨d, a1, a2, fun x => (a3 x).trans ((swap_grid i1.sh (by omega) x).trans (ge x))⟩
/-! ### The beginning -/
theorem gg_le {n : Nat} {B : Nat → Vec} {y : Vec} : ∀ {l : Nat}, (∀ j, j ≤ l → 0 < gd n B j) → gg n B l y y ≤ gd n B l * dp n y y
  | 0, _ => by rw [gg_zero, gd_zero]; omega
  | l + 1, p => by
    have ih := gg_le (n := n) (B := B) (y := y) (l := l) fun j hj => p j (by omega)
    have s := gg_step (n := n) (B := B) y y (Int.ne_of_gt (p l (by omega)))
    have p0 := p l (by omega)
    have p1 := p (l + 1) (by omega)
    have q := sq_nonneg (gg n B l (B l) y)
    have a := Int.mul_le_mul_of_nonneg_left ih (Int.le_of_lt p1)
    have : gd n B l * gg n B (l + 1) y y ≤ gd n B l * (gd n B (l + 1) * dp n y y) := by
      have e : gd n B l * (gd n B (l + 1) * dp n y y) = gd n B (l + 1) * (gd n B l * dp n y y) := by grind
      omega
    exact Int.le_of_mul_le_mul_left this p0
theorem inv_start {n : Nat} {A : Int} {b : List (List Int)} (hA : 0 < A) (h : Sh n b) (d : Si18.det n b ≠ 0) (q : ∀ a, a < n → dp n (fam b a) (fam b a) ≤ A) : Inv n A 1 b where
  sh := h
  det := d
  pos := gd_pos (ind_of d)
  rat := fun j hj => by
    have p := gd_pos (ind_of d)
    have := gg_le (n := n) (B := fam b) (y := fam b j) (l := j) fun i hi => p i (by omega)
    rw [gd_succ]
    have := Int.mul_le_mul_of_nonneg_left (q j hj) (Int.le_of_lt (p j (by omega)))
    rw [Int.mul_comm A]; omega
  sq := fun a ha => by have := q a ha; omega
  fit := fun a ha j hj => by omega
  ord := fun a ha h0 => by omega
theorem Inv.vol_le {n k : Nat} {A : Int} {b : List (List Int)} (hA : 0 < A) (h : Inv n A k b) : ∀ j, j ≤ n → gd n (fam b) j ≤ A ^ j
  | 0, _ => by rw [gd_zero]; simp
  | j + 1, hj => by
    have ih := h.vol_le hA j (by omega)
    have r := h.rat j (by omega)
    have := Int.mul_le_mul_of_nonneg_left ih (Int.le_of_lt hA)
    rw [Int.pow_succ, Int.mul_comm]; omega
theorem pr_le {f g : Nat → Int} : ∀ {n : Nat}, (∀ i, i < n → 0 < f i) → (∀ i, i < n → f i ≤ g i) → pr n f ≤ pr n g
  | 0, _, _ => Int.le_refl _
  | n + 1, p, h => by
    have ih := pr_le (n := n) (fun i hi => p i (by omega)) (fun i hi => h i (by omega))
    have p0 := pr_pos (n := n) fun i hi => p i (by omega)
    have p1 := p n (by omega)
    have h1 := h n (by omega)
    exact Int.mul_le_mul ih h1 (by omega) (by omega)
theorem pow_le {x y : Int} (h0 : 0 ≤ x) (h : x ≤ y) : ∀ n : Nat, x ^ n ≤ y ^ n
  | 0 => by simp
  | n + 1 => by
    rw [Int.pow_succ, Int.pow_succ]
    exact Int.mul_le_mul (pow_le h0 h n) h h0 (Int.pow_nonneg (by omega))
theorem pot_start {n k : Nat} {A : Int} {b : List (List Int)} (hn : n ≤ 5) (hA : 0 < A) (hA' : A ≤ 5000000) (h : Inv n A k b) : pot n b * 3 ^ 700 < 4 ^ 700 := by
  have a : pot n b ≤ pr n fun j => (5000000 : Int) ^ j := pr_le (fun i hi => h.pos i (by omega)) fun i hi => Int.le_trans (h.vol_le hA i (by omega)) (pow_le (by omega) hA' i)
  have b' : (pr n fun j => (5000000 : Int) ^ j) ≤ 5000000 ^ 10 := by
    match n, hn with
    | 0, _ | 1, _ | 2, _ | 3, _ | 4, _ | 5, _ => decide +kernel
  have c : (5000000 : Int) ^ 10 * 3 ^ 700 < 4 ^ 700 := by decide +kernel
  have := Int.mul_le_mul_of_nonneg_right (Int.le_trans a b') (show (0 : Int) ≤ 3 ^ 700 by decide +kernel)
  exact Int.lt_of_le_of_lt this c
/-- Reduced rows of the same grid. -/
theorem reduced_ok {n : Nat} {A : Int} {b : List (List Int)} (h1 : 1 ≤ n) (hn : n ≤ 5) (hA : 0 < A) (hA' : A ≤ 5000000) (h : Inv n A 1 b) :
    Si18.run n 20000 1 b = some (Si18.reducedOf n b) ∧ Inv n A n (Si18.reducedOf n b) ∧ ∀ x, InG n (Si18.reducedOf n b) x ↔ InG n b x := by
  obtain ⟨c, e, i, g⟩ := run_ok hn hA 20000 700 1 b h (Nat.le_refl 1) h1 (pot_start hn hA hA' h) (by omega)
  have : Si18.reducedOf n b = c := by unfold Si18.reducedOf; rw [e]; rfl
  rw [this]; exact ⟨e, i, g⟩
end Mx

/-! All points up to a square: the specification's list holds each of them, once. -/
namespace Mx
/-! ### The root -/
theorem rootIn_spec (z : Nat) : ∀ (k lo hi : Nat), lo * lo ≤ z → z < hi * hi → hi ≤ lo + 2 ^ k → Si18.rootIn z k lo hi * Si18.rootIn z k lo hi ≤ z ∧ z < (Si18.rootIn z k lo hi + 1) * (Si18.rootIn z k lo hi + 1)
  | 0, lo, hi, h1, h2, h3 => by
    have h3' : hi ≤ lo + 1 := by simpa using h3
    exact ⟨h1, Nat.lt_of_lt_of_le h2 (Nat.mul_le_mul h3' h3')⟩
  | k + 1, lo, hi, h1, h2, h3 => by
    unfold Si18.rootIn
    by_cases e : hi ≤ lo + 1
    · rw [if_pos e]; exact ⟨h1, Nat.lt_of_lt_of_le h2 (Nat.mul_le_mul e e)⟩
    · rw [if_neg e]
      have p : (2 : Nat) ^ (k + 1) = 2 ^ k + 2 ^ k := by rw [Nat.pow_succ]; omega
      by_cases q : ((lo + hi) / 2) * ((lo + hi) / 2) ≤ z
      · rw [if_pos q]; exact rootIn_spec z k _ _ q h2 (by omega)
      · rw [if_neg q]; exact rootIn_spec z k _ _ h1 (by omega) (by omega)
theorem root_spec {z : Nat} (h : z + 2 ≤ 2 ^ 200) : Si18.root z * Si18.root z ≤ z ∧ z < (Si18.root z + 1) * (Si18.root z + 1) := by
  unfold Si18.root
  refine rootIn_spec z 200 0 (z + 2) (by omega) ?_ (by omega)
  have : (z + 2) * (z + 2) = z * z + 4 * z + 4 := by grind
  omega
theorem root_ge {z x : Nat} (h : z + 2 ≤ 2 ^ 200) (hx : x * x ≤ z) : x ≤ Si18.root z := by
  have := (root_spec h).2
  rcases Nat.lt_or_ge (Si18.root z) x with q | q
  · have := Nat.mul_le_mul q q
    show _; simp only [Nat.succ_eq_add_one] at this; omega
  · exact q
/-! ### Multiples within bounds -/
theorem combos_mem : ∀ {ks : List Nat} {m : List Int}, m ∈ Si18.combos ks ↔ m.length = ks.length ∧ ∀ a, a < ks.length → (m.getD a 0).natAbs ≤ ks.getD a 0
  | [], m => by
    show m ∈ [[]] ↔ _
    rw [List.mem_singleton]
    constructor
    · intro h; subst h; exact ⟨rfl, fun a ha => by simp at ha⟩
    · intro h; exact List.length_eq_zero_iff.1 h.1
  | k :: ks, m => by
    show m ∈ (Si18.combos ks).flatMap (fun c => (List.range (2 * k + 1)).map fun (i : Nat) => ((i : Int) - (k : Int)) :: c) ↔ _
    rw [List.mem_flatMap]
    constructor
    · rintro ⟨c, hc, hm⟩
      rw [List.mem_map] at hm
      obtain ⟨i, hi, rfl⟩ := hm
      rw [List.mem_range] at hi
      obtain ⟨h1, h2⟩ := combos_mem.1 hc
      refine ⟨by simp [h1], fun a ha => ?_⟩
      cases a with
      | zero => show ((i : Int) - k).natAbs ≤ k; omega
      | succ a => exact h2 a (by simpa using ha)
    · rintro ⟨h1, h2⟩
      match m, h1 with
      | [], h1 => simp at h1
      | x :: m, h1 =>
        refine ⟨m, combos_mem.2 ⟨by simpa using h1, fun a ha => h2 (a + 1) (by simpa using ha)⟩, ?_⟩
        have := h2 0 (by simp)
        have h0 : x.natAbs ≤ k := this
        rw [List.mem_map]
        exact ⟨(x + k).toNat, List.mem_range.2 (by omega), by congr 1; omega⟩
theorem nodup_map {α β : Type} {f : α → β} : ∀ {l : List α}, (∀ x, x ∈ l → ∀ y, y ∈ l → f x = f y → x = y) → l.Nodup → (l.map f).Nodup
  | [], _, _ => List.nodup_nil
  | a :: l, h, d => by
    rw [List.nodup_cons] at d
    rw [List.map_cons, List.nodup_cons]
    refine ⟨fun q => ?_, nodup_map (fun x hx y hy => h x (List.mem_cons_of_mem _ hx) y (List.mem_cons_of_mem _ hy)) d.2⟩
    obtain ⟨y, hy, e⟩ := List.mem_map.1 q
    have := h y (List.mem_cons_of_mem _ hy) a (List.mem_cons_self ..) e
    exact d.1 (this ▸ hy)
theorem nodup_flatMap {α β : Type} {f : α → List β} : ∀ {l : List α}, (∀ x, x ∈ l → (f x).Nodup) → (∀ x, x ∈ l → ∀ y, y ∈ l → ∀ z, z ∈ f x → z ∈ f y → x = y) → l.Nodup → (l.flatMap f).Nodup
  | [], _, _, _ => List.nodup_nil
  | a :: l, h, g, d => by
    rw [List.nodup_cons] at d
    rw [List.flatMap_cons, List.nodup_append]
    refine ⟨h a (List.mem_cons_self ..), nodup_flatMap (fun x hx => h x (List.mem_cons_of_mem _ hx)) (fun x hx y hy => g x (List.mem_cons_of_mem _ hx) y (List.mem_cons_of_mem _ hy)) d.2, fun z hz w hw e => ?_⟩
    subst e
    obtain ⟨y, hy, q⟩ := List.mem_flatMap.1 hw
    have := g a (List.mem_cons_self ..) y (List.mem_cons_of_mem _ hy) z hz q
    exact d.1 (this ▸ hy)
theorem combos_nodup : ∀ ks : List Nat, (Si18.combos ks).Nodup
  | [] => by show [[]].Nodup; simp
  | k :: ks => by
    show ((Si18.combos ks).flatMap _).Nodup
    refine nodup_flatMap (fun c _ => nodup_map (fun i _ j _ e => ?_) List.nodup_range) (fun x _ y _ z hx hy => ?_) (combos_nodup ks)
    · have := (List.cons.inj e).1; omega
    · obtain ⟨i, _, rfl⟩ := List.mem_map.1 hx
      obtain ⟨j, _, e⟩ := List.mem_map.1 hy
      exact (List.cons.inj e).2.symm
/-! ### Multiples of rows -/
theorem fold_plus {n : Nat} : ∀ (l : List (List Int)) (z : List Int), z.length = n → (∀ r ∈ l, r.length = n) → (l.foldl Si18.plus z).length = n ∧ ∀ i, vec (l.foldl Si18.plus z) i = vec z i + sg l.length fun a => fam l a i
  | [], z, hz, _ => ⟨hz, fun i => by show vec z i = vec z i + 0; omega⟩
  | r :: l, z, hz, h => by
    have hr : r.length = n := h r (List.mem_cons_self ..)
    obtain ⟨h1, h2⟩ := fold_plus l (Si18.plus z r) (by rw [plus_length (by omega), hz]) fun x hx => h x (List.mem_cons_of_mem _ hx)
    refine ⟨h1, fun i => ?_⟩
    show vec (l.foldl Si18.plus (Si18.plus z r)) i = _
    rw [h2, vec_plus (by omega), List.length_cons, sg_first]
    show _ = vec z i + (vec r i + sg l.length fun a => fam l a i)
    omega
theorem combo_spec {n : Nat} {m : List Int} {c : List (List Int)} (hm : m.length = n) (hc : Sh n c) : (Si18.combo n m c).length = n ∧ ∀ i, vec (Si18.combo n m c) i = sg n fun a => m.getD a 0 * fam c a i := by
  have hl : (List.zipWith Si18.times m c).length = n := by simp [hm, hc.len]
  obtain ⟨h1, h2⟩ := fold_plus (n := n) (List.zipWith Si18.times m c) (Si18.zeros n) (by simp [Si18.zeros]) fun r hr => by
    obtain ⟨i, hi, rfl⟩ := List.getElem_of_mem hr
    rw [List.getElem_zipWith, times_length]
    exact hc.row _ (List.getElem_mem _)
  refine ⟨h1, fun i => ?_⟩
  show vec ((List.zipWith Si18.times m c).foldl Si18.plus (Si18.zeros n)) i = _
  rw [h2, hl]
  have z : vec (Si18.zeros n) i = 0 := by
    unfold vec Si18.zeros
    rw [List.getD_eq_getElem?_getD, List.getElem?_replicate]; split <;> rfl
  rw [z, Int.zero_add]
  refine sg_congr fun a ha => ?_
  show vec ((List.zipWith Si18.times m c).getD a []) i = m.getD a 0 * vec (c.getD a []) i
  rw [← vec_times]
  congr 1
  rw [List.getD_eq_getElem?_getD, List.getD_eq_getElem?_getD, List.getD_eq_getElem?_getD, List.getElem?_zipWith, List.getElem?_eq_getElem (by omega), List.getElem?_eq_getElem (by rw [hc.len]; exact ha)]
  rfl
/-- Points of the grid, by their multiples. -/
theorem grid_combo {n : Nat} {c : List (List Int)} {x : List Int} (hc : Sh n c) : InG n c x ↔ ∃ m : List Int, m.length = n ∧ Si18.combo n m c = x := by
  constructor
  · rintro ⟨h1, f, hf⟩
    refine ⟨(List.range n).map f, by simp, ?_⟩
    obtain ⟨g1, g2⟩ := combo_spec (m := (List.range n).map f) (by simp) hc
    refine vec_ext' (by omega) fun i => ?_
    rw [g2, hf]
    exact sg_congr fun a ha => by
      show vec ((List.range n).map f) a * _ = _
      rw [vec_range f ha]
  · rintro ⟨m, h1, rfl⟩
    obtain ⟨g1, g2⟩ := combo_spec h1 hc
    exact ⟨g1, fun a => m.getD a 0, g2⟩
theorem combo_inj {n : Nat} {c : List (List Int)} (hc : Sh n c) (d : Si18.det n c ≠ 0) {m k : List Int} (hm : m.length = n) (hk : k.length = n) (e : Si18.combo n m c = Si18.combo n k c) : m = k := by
  refine vec_ext hm hk fun p hp => ?_
  have a := mult_of (n := n) (b := c) (c := fun a => m.getD a 0) (fun i _ => (combo_spec hm hc).2 i) hp
  have b := mult_of (n := n) (b := c) (c := fun a => k.getD a 0) (fun i _ => (combo_spec hk hc).2 i) hp
  rw [e] at a
  exact Int.eq_of_mul_eq_mul_right d (a.symm.trans b)
theorem square_dp {n : Nat} {x : List Int} (h : x.length = n) : Si18.square x = dp n (vec x) (vec x) := dot_dp (by omega) (by omega)
theorem square_nonneg (x : List Int) : 0 ≤ Si18.square x := by rw [square_dp rfl]; exact dp_nonneg _ _
/-! ### The list -/
theorem box_get {n r : Nat} {c : List (List Int)} {p : Nat} (hp : p < n) : (Si18.boxOf n c r).getD p 0 = Si18.root (r * (dp n (ov n c p) (ov n c p)).toNat / ((Si18.det n c).natAbs * (Si18.det n c).natAbs)) := by
  unfold Si18.boxOf
  rw [List.getD_eq_getElem?_getD, List.getElem?_map, other_get hp]
  show Si18.root _ = _
  congr 4
  have : Si18.square ((List.range n).map (ov n c p)) = dp n (ov n c p) (ov n c p) := by
    rw [square_dp (n := n) (by simp)]
    exact dp_congr (fun i hi => vec_range _ hi) fun i hi => vec_range _ hi
  rw [this]
theorem box_length (n r : Nat) (c : List (List Int)) : (Si18.boxOf n c r).length = n := by
  unfold Si18.boxOf Si18.other; simp
/-- What the rows at right angles are up to, so that roots are found. -/
def Rooted (n : Nat) (c : List (List Int)) (r : Nat) : Prop := ∀ p, p < n → r * (dp n (ov n c p) (ov n c p)).toNat + 2 ≤ 2 ^ 200
theorem mem_list {n r : Nat} {c : List (List Int)} (hc : Sh n c) (d : Si18.det n c ≠ 0) (hr : Rooted n c r) {x : List Int} :
    x ∈ ((Si18.combos (Si18.boxOf n c r)).map fun m => Si18.combo n m c).filter (fun x => decide (Si18.square x ≤ (r : Int))) ↔ InG n c x ∧ Si18.square x ≤ (r : Int) := by
  rw [List.mem_filter, List.mem_map, decide_eq_true_iff, grid_combo hc]
  constructor
  · rintro ⟨⟨m, hm, e⟩, h⟩
    exact ⟨⟨m, by rw [(combos_mem.1 hm).1, box_length], e⟩, h⟩
  · rintro ⟨⟨m, hm, e⟩, h⟩
    refine ⟨⟨m, combos_mem.2 ⟨by rw [hm, box_length], fun p hp => ?_⟩, e⟩, h⟩
    rw [box_length] at hp
    rw [box_get hp]
    have hx := combo_spec hm hc
    rw [e] at hx
    have a := mult_of (n := n) (b := c) (c := fun a => m.getD a 0) (fun i _ => hx.2 i) hp
    have q := dp_cauchy n (vec x) (ov n c p)
    rw [a, ← square_dp hx.1] at q
    have o := dp_nonneg n (ov n c p)
    have s := square_nonneg x
    have q2 := Int.le_trans q (Int.mul_le_mul_of_nonneg_right h o)
    have hd : 0 < (Si18.det n c).natAbs * (Si18.det n c).natAbs := Nat.mul_pos (by omega) (by omega)
    have q3 : ((m.getD p 0).natAbs * (m.getD p 0).natAbs) * ((Si18.det n c).natAbs * (Si18.det n c).natAbs) ≤ r * (dp n (ov n c p) (ov n c p)).toNat := by
      have e1 : (((m.getD p 0).natAbs * (m.getD p 0).natAbs) * ((Si18.det n c).natAbs * (Si18.det n c).natAbs) : Nat) = (m.getD p 0 * Si18.det n c * (m.getD p 0 * Si18.det n c)).natAbs := by
        rw [Int.natAbs_mul, Int.natAbs_mul]; grind
      rw [e1]
      have e2 : r * (dp n (ov n c p) (ov n c p)).toNat = ((r : Int) * dp n (ov n c p) (ov n c p)).toNat := by
        rw [Int.toNat_mul (by omega) o]; rfl
      rw [e2]
      have := sq_nonneg (m.getD p 0 * Si18.det n c)
      omega
    refine root_ge ?_ ((Nat.le_div_iff_mul_le hd).2 q3)
    have := Nat.div_le_self (r * (dp n (ov n c p) (ov n c p)).toNat) ((Si18.det n c).natAbs * (Si18.det n c).natAbs)
    have := hr p hp
    omega
theorem list_nodup {n r : Nat} {c : List (List Int)} (hc : Sh n c) (d : Si18.det n c ≠ 0) :
    (((Si18.combos (Si18.boxOf n c r)).map fun m => Si18.combo n m c).filter (fun x => decide (Si18.square x ≤ (r : Int)))).Nodup := by
  refine List.Nodup.sublist List.filter_sublist (nodup_map (fun m hm k hk e => ?_) (combos_nodup _))
  exact combo_inj hc d (by rw [(combos_mem.1 hm).1, box_length]) (by rw [(combos_mem.1 hk).1, box_length]) e
theorem ov_minor (n : Nat) (c : List (List Int)) (p j : Nat) : ov n c p j = sgn (p + j) * Si18.det (n - 1) (minor c p j) := by
  unfold ov
  rw [det_dt]
  congr 1
  refine dt_congr fun a e _ _ => ?_
  show (c.getD (sk p a) []).getD (sk j e) 0 = (((c.eraseIdx p).map fun x => x.eraseIdx j).getD a []).getD e 0
  rw [getD_map_erase, getD_erase, getD_erase]
theorem natAbs_sgn (j : Nat) (x : Int) : (sgn j * x).natAbs = x.natAbs := by unfold sgn; split <;> simp
theorem mul_self_lt {x : Int} {a : Nat} (h : x.natAbs < 2 ^ a) : x * x < 2 ^ (2 * a) := by
  have : x.natAbs * x.natAbs < 2 ^ a * 2 ^ a := Nat.mul_lt_mul'' h h
  rw [← Nat.pow_add, ← Nat.two_mul] at this
  have e : x * x = ((x.natAbs * x.natAbs : Nat) : Int) := by rw [Int.natAbs_mul_self]
  rw [e]; exact_mod_cast this
theorem sg_lt {f : Nat → Int} {X : Int} : ∀ {n : Nat}, (∀ i, i < n → f i ≤ X) → sg n f ≤ n * X
  | 0, _ => by show (0 : Int) ≤ (0 : Nat) * X; omega
  | n + 1, h => by
    have := sg_lt (n := n) fun i hi => h i (by omega)
    have := h n (by omega)
    show sg n f + f n ≤ ((n + 1 : Nat) : Int) * X
    rw [show ((n + 1 : Nat) : Int) * X = n * X + X by grind]; omega
/-- A row's number, by its square. -/
theorem entry_sq {n : Nat} {x : Vec} {i : Nat} (hi : i < n) : x i * x i ≤ dp n x x := by
  have : ∀ n, i < n → x i * x i ≤ dp n x x := fun n => by
    induction n with
    | zero => intro h; omega
    | succ n ih =>
      intro h
      show _ ≤ dp n x x + x n * x n
      by_cases e : i = n
      · subst e; have := dp_nonneg i x; omega
      · have := ih (by omega); have := sq_nonneg (x n); omega
  exact this n hi
theorem abs_lt_of_sq {x : Int} {y : Nat} (h : x * x < (y : Int) * y) : x.natAbs < y := by
  rcases Nat.lt_or_ge x.natAbs y with q | q
  · exact q
  · have := Nat.mul_le_mul q q
    have e : x * x = ((x.natAbs * x.natAbs : Nat) : Int) := by rw [Int.natAbs_mul_self]
    rw [e] at h
    have : x.natAbs * x.natAbs < y * y := by exact_mod_cast h
    omega
theorem Inv.big {n k : Nat} {A : Int} {b : List (List Int)} (hA' : A ≤ 5000000) (h : Inv n A k b) : Big 12 b := fun r hr x hx => by
  obtain ⟨a, ha, rfl⟩ := List.getElem_of_mem hr
  obtain ⟨i, hi, rfl⟩ := List.getElem_of_mem hx
  have hn : b[a].length = n := h.sh.row _ (List.getElem_mem _)
  have s := h.sq a (h.sh.len ▸ ha)
  have f : fam b a = vec b[a] := by unfold fam; rw [List.getD_eq_getElem?_getD, List.getElem?_eq_getElem ha]; rfl
  have g : vec b[a] i = b[a][i] := by unfold vec; rw [List.getD_eq_getElem?_getD, List.getElem?_eq_getElem hi]; rfl
  rw [f] at s
  have e := entry_sq (n := n) (x := vec b[a]) (i := i) (by omega)
  rw [g] at e
  refine abs_lt_of_sq (Int.lt_of_le_of_lt (Int.le_trans e s) ?_)
  show 2 * A < 4096 * 4096
  omega
theorem Inv.rooted {n k r : Nat} {A : Int} {b : List (List Int)} (hn : n ≤ 5) (hA' : A ≤ 5000000) (h : Inv n A k b) (hr : r ≤ 2 ^ 60) : Rooted n b r := fun p _ => by
  have e : ∀ i, i < n → ov n b p i * ov n b p i ≤ 2 ^ 122 := fun i _ => by
    refine Int.le_of_lt (mul_self_lt (a := 61) ?_)
    rw [ov_minor, natAbs_sgn]
    refine abs_mono (det_big (minor_big (h.big hA') p i) (by omega)) ?_
    omega
  have s := sg_lt e
  have q : dp n (ov n b p) (ov n b p) ≤ 5 * 2 ^ 122 := by
    refine Int.le_trans s (Int.mul_le_mul_of_nonneg_right (by omega) (by decide))
  have q2 : (dp n (ov n b p) (ov n b p)).toNat ≤ 5 * 2 ^ 122 := by omega
  have := Nat.mul_le_mul hr q2
  omega
/-- All points up to a square. -/
theorem points_mem {n r : Nat} {A : Int} {b : List (List Int)} (h1 : 1 ≤ n) (hn : n ≤ 5) (hA : 0 < A) (hA' : A ≤ 5000000) (h : Inv n A 1 b) (hr : r ≤ 2 ^ 60) {x : List Int} :
    x ∈ Si18.pointsIn n b r ↔ InG n b x ∧ Si18.square x ≤ (r : Int) := by
  obtain ⟨_, i, g⟩ := reduced_ok h1 hn hA hA' h
  rw [← g x]
  exact mem_list i.sh i.det (i.rooted hn hA' hr)
theorem points_nodup {n r : Nat} {A : Int} {b : List (List Int)} (h1 : 1 ≤ n) (hn : n ≤ 5) (hA : 0 < A) (hA' : A ≤ 5000000) (h : Inv n A 1 b) : (Si18.pointsIn n b r).Nodup := by
  obtain ⟨_, i, _⟩ := reduced_ok h1 hn hA hA' h
  exact list_nodup i.sh i.det
end Mx

/-! More vectors than there are numbers aren't free of one another. -/
namespace Mx
theorem sg_skip {f : Nat → Int} {p : Nat} : ∀ {n : Nat}, p < n + 1 → sg (n + 1) f = f p + sg n fun a => f (sk p a)
  | 0, h => by
    have : p = 0 := by omega
    subst this; simp [sg]
  | n + 1, h => by
    show sg (n + 1) f + f (n + 1) = _
    by_cases e : p = n + 1
    · subst e
      rw [sg_congr (n := n + 1) (f := fun a => f (sk (n + 1) a)) (g := f) fun a ha => by unfold sk; rw [if_pos ha]]
      omega
    · rw [sg_skip (p := p) (n := n) (by omega)]
      show _ = f p + (sg n (fun a => f (sk p a)) + f (sk p n))
      have : sk p n = n + 1 := by unfold sk; rw [if_neg (by omega)]
      rw [this]; omega
theorem dep : ∀ (m : Nat) (X : Nat → Nat → Int), ∃ c : Nat → Int, (∃ a, a < m + 1 ∧ c a ≠ 0) ∧ ∀ j, j < m → sg (m + 1) (fun a => c a * X a j) = 0
  | 0, X => ⟨fun _ => 1, ⟨0, by omega, by decide⟩, fun j hj => by omega⟩
  | m + 1, X => by
    rcases Classical.em (∃ p, p < m + 2 ∧ X p m ≠ 0) with ⟨p, hp, ne⟩ | no
    · obtain ⟨c, ⟨a, ha, ca⟩, h⟩ := dep m fun a j => X p m * X (sk p a) j - X (sk p a) m * X p j
      obtain ⟨e, e1, e2⟩ : ∃ e : Nat → Int, e p = -(sg (m + 1) fun a => c a * X (sk p a) m) ∧ ∀ a, e (sk p a) = c a * X p m := by
        refine ⟨fun r => if r = p then -(sg (m + 1) fun a => c a * X (sk p a) m) else c (if r < p then r else r - 1) * X p m, by simp, fun a => ?_⟩
        have s1 : sk p a ≠ p := by unfold sk; split <;> omega
        have s2 : (if sk p a < p then sk p a else sk p a - 1) = a := by unfold sk; grind
        show (if sk p a = p then _ else c (if sk p a < p then sk p a else sk p a - 1) * X p m) = _
        rw [if_neg s1, s2]
      refine ⟨e, ⟨sk p a, sk_lt ha, ?_⟩, fun j hj => ?_⟩
      · rw [e2]
        exact fun z => (Int.mul_eq_zero.1 z).elim ca ne
      · rw [sg_skip hp, e1, sg_congr (f := fun a => e (sk p a) * X (sk p a) j) (g := fun a => c a * X p m * X (sk p a) j) fun a _ => by rw [e2]]
        by_cases q : j = m
        · subst q
          have : sg (j + 1) (fun a => c a * X p j * X (sk p a) j) = sg (j + 1) (fun a => c a * X (sk p a) j) * X p j := by
            rw [← sg_mulr]; exact sg_congr fun a _ => by grind
          rw [this]; grind
        · have := h j (by omega)
          rw [sg_congr (g := fun a => c a * X p m * X (sk p a) j - c a * X (sk p a) m * X p j) fun a _ => by grind, sg_sub, sg_mulr (X p j)] at this
          rw [Int.neg_mul]; omega
    · obtain ⟨c, ⟨a, ha, ca⟩, h⟩ := dep m X
      refine ⟨fun r => if r = m + 1 then 0 else c r, ⟨a, by omega, ?_⟩, fun j hj => ?_⟩
      · show (if a = m + 1 then 0 else c a) ≠ 0
        rw [if_neg (by omega)]; exact ca
      · by_cases q : j = m
        · subst q
          refine sg_zero fun a ha => ?_
          have : X a j = 0 := Classical.byContradiction fun z => no ⟨a, ha, z⟩
          rw [this]; omega
        · show sg (m + 1) _ + (if m + 1 = m + 1 then 0 else c (m + 1)) * X (m + 1) j = 0
          rw [if_pos rfl, sg_congr (g := fun a => c a * X a j) fun a ha => by show (if a = m + 1 then 0 else c a) * X a j = _; rw [if_neg (show ¬ a = m + 1 by omega)], h j (by omega)]; omega
/-- Each vector has a multiple in as many that are free. -/
theorem full {n : Nat} {B : Nat → Vec} (h : ∀ c : Nat → Int, (∀ i, i < n → sg n (fun a => c a * B a i) = 0) → ∀ a, a < n → c a = 0) (y : Vec) :
    ∃ d : Int, d ≠ 0 ∧ ∃ z, Sp B n z ∧ ∀ i, i < n → z i = d * y i := by
  obtain ⟨c, ⟨a, ha, ca⟩, e⟩ := dep n fun a => if a = n then y else B a
  have e' : ∀ i, i < n → sg n (fun a => c a * B a i) + c n * y i = 0 := fun i hi => by
    have := e i hi
    have s : sg (n + 1) (fun a => c a * (if a = n then y else B a) i) = sg n (fun a => c a * (if a = n then y else B a) i) + c n * (if n = n then y else B n) i := rfl
    rw [s, if_pos rfl, sg_congr (g := fun a => c a * B a i) fun a ha => by rw [if_neg (show ¬ a = n by omega)]] at this
    exact this
  refine ⟨-(c n), fun z => ?_, _, ⟨c, fun _ => rfl⟩, fun i hi => ?_⟩
  · have z : c n = 0 := by omega
    have := h c (fun i hi => by have := e' i hi; rw [z] at this; omega)
    by_cases q : a = n
    · exact ca (q ▸ z)
    · exact ca (this a (by omega))
  · have := e' i hi
    show sg n (fun a => c a * B a i) = _
    rw [Int.neg_mul]; omega
end Mx

/-! The first of some points; what short, near and count answer. -/
namespace Mx
open Si18 (less firstOf leastSquare square)
theorem less_cons (a b : Int) (r s : List Int) : less (a :: r) (b :: s) = true ↔ a < b ∨ (a = b ∧ less r s = true) := by
  show (decide (a < b) || (a == b && less r s)) = true ↔ _
  simp
theorem less_nil_left (y : List Int) : less [] y = false := by cases y <;> rfl
theorem less_nil_right (x : List Int) : less x [] = false := by cases x <;> rfl
theorem less_trans : ∀ {x y z : List Int}, less x y = true → less y z = true → less x z = true
  | [], y, _, h, _ => by rw [less_nil_left] at h; exact absurd h (by decide)
  | _ :: _, [], _, h, _ => by rw [less_nil_right] at h; exact absurd h (by decide)
  | _ :: _, _ :: _, [], _, h => by rw [less_nil_right] at h; exact absurd h (by decide)
  | a :: x, b :: y, c :: z, h, g => by
    rw [less_cons] at h g ⊢
    rcases h with h | ⟨h, h'⟩ <;> rcases g with g | ⟨g, g'⟩
    · exact .inl (by omega)
    · exact .inl (by omega)
    · exact .inl (by omega)
    · exact .inr ⟨by omega, less_trans h' g'⟩
theorem less_irrefl : ∀ x : List Int, less x x = false
  | [] => rfl
  | a :: x => by
    cases e : less (a :: x) (a :: x) with
    | false => rfl
    | true =>
      rw [less_cons, less_irrefl x] at e
      rcases e with e | e
      · omega
      · exact absurd e.2 (by decide)
theorem less_total : ∀ {x y : List Int}, x.length = y.length → less x y = false → less y x = false → x = y
  | [], [], _, _, _ => rfl
  | [], _ :: _, h, _, _ => by simp at h
  | _ :: _, [], h, _, _ => by simp at h
  | a :: x, b :: y, l, h, g => by
    have h : ¬ less (a :: x) (b :: y) = true := by rw [h]; decide
    have g : ¬ less (b :: y) (a :: x) = true := by rw [g]; decide
    rw [less_cons] at h g
    have e : a = b := by omega
    subst e
    have h' : less x y = false := by cases q : less x y with
      | false => rfl
      | true => exact absurd (.inr ⟨rfl, q⟩) h
    have g' : less y x = false := by cases q : less y x with
      | false => rfl
      | true => exact absurd (.inr ⟨rfl, q⟩) g
    rw [less_total (by simpa using l) h' g']
theorem fold_first : ∀ (l : List (List Int)) (m : List Int), (l.foldl (fun (m : List Int) x => if less x m = true then x else m) m = m ∨ l.foldl (fun (m : List Int) x => if less x m = true then x else m) m ∈ l) ∧
    (∀ y, y ∈ l → less y (l.foldl (fun (m : List Int) x => if less x m = true then x else m) m) = false) ∧ (∀ y, less y m = false → less y (l.foldl (fun (m : List Int) x => if less x m = true then x else m) m) = false)
  | [], m => ⟨.inl rfl, fun y hy => by simp at hy, fun y h => h⟩
  | x :: l, m => by
    rw [List.foldl_cons]
    by_cases q : less x m = true
    · rw [if_pos q]
      obtain ⟨h1, h2, h3⟩ := fold_first l x
      refine ⟨.inr ?_, fun y hy => ?_, fun y h => h3 y ?_⟩
      · rcases h1 with h1 | h1
        · rw [h1]; exact List.mem_cons_self ..
        · exact List.mem_cons_of_mem _ h1
      · rcases List.mem_cons.1 hy with e | e
        · subst e; exact h3 y (less_irrefl y)
        · exact h2 y e
      · cases w : less y x with
        | false => rfl
        | true => rw [less_trans w q] at h; exact absurd h (by decide)
    · rw [if_neg q]
      obtain ⟨h1, h2, h3⟩ := fold_first l m
      refine ⟨?_, fun y hy => ?_, h3⟩
      · rcases h1 with h1 | h1
        · exact .inl h1
        · exact .inr (List.mem_cons_of_mem _ h1)
      · rcases List.mem_cons.1 hy with e | e
        · subst e; exact h3 y (by simpa using q)
        · exact h2 y e
theorem firstOf_spec {l : List (List Int)} (h : l ≠ []) : firstOf l ∈ l ∧ ∀ y, y ∈ l → less y (firstOf l) = false := by
  obtain ⟨h1, h2, _⟩ := fold_first l (l.headD [])
  refine ⟨?_, h2⟩
  rcases h1 with h1 | h1
  · show l.foldl _ (l.headD []) ∈ l
    rw [h1]
    match l, h with
    | a :: l, _ => exact List.mem_cons_self ..
  · exact h1
theorem fold_min (f : List Int → Int) : ∀ (l : List (List Int)) (m : Int), (l.foldl (fun (m : Int) x => min m (f x)) m ≤ m) ∧ (∀ y, y ∈ l → l.foldl (fun (m : Int) x => min m (f x)) m ≤ f y) ∧ (l.foldl (fun (m : Int) x => min m (f x)) m = m ∨ ∃ y, y ∈ l ∧ l.foldl (fun (m : Int) x => min m (f x)) m = f y)
  | [], m => ⟨Int.le_refl m, fun y hy => by simp at hy, .inl rfl⟩
  | x :: l, m => by
    rw [List.foldl_cons]
    obtain ⟨h1, h2, h3⟩ := fold_min f l (min m (f x))
    refine ⟨by omega, fun y hy => ?_, ?_⟩
    · rcases List.mem_cons.1 hy with e | e
      · subst e; omega
      · exact h2 y e
    · rcases h3 with h3 | ⟨y, hy, h3⟩
      · by_cases q : m ≤ f x
        · exact .inl (by omega)
        · exact .inr ⟨x, List.mem_cons_self .., by omega⟩
      · exact .inr ⟨y, List.mem_cons_of_mem _ hy, h3⟩
theorem least_spec {l : List (List Int)} (h : l ≠ []) : (∃ y, y ∈ l ∧ leastSquare l = square y) ∧ ∀ y, y ∈ l → leastSquare l ≤ square y := by
  obtain ⟨h1, h2, h3⟩ := fold_min square l (square (l.headD []))
  refine ⟨?_, h2⟩
  rcases h3 with h3 | h3
  · refine ⟨l.headD [], ?_, h3⟩
    match l, h with
    | a :: l, _ => exact List.mem_cons_self ..
  · exact h3
/-- The first of those of the least square, of some. -/
def Firsts (P : List Int → Prop) (f : List Int → Int) (x : List Int) : Prop := P x ∧ ∀ y, P y → less (f y :: y) (f x :: x) = false
theorem Firsts.uniq {P : List Int → Prop} {f : List Int → Int} {x y : List Int} {n : Nat} (l : ∀ x, P x → x.length = n) (h : Firsts P f x) (g : Firsts P f y) : x = y := by
  have := less_total (x := f x :: x) (y := f y :: y) (by simp [l x h.1, l y g.1]) (g.2 x h.1) (h.2 y g.1)
  exact (List.cons.inj this).2
theorem first_of_list {P : List Int → Prop} {f : List Int → Int} {l : List (List Int)} (m : Int) (hP : ∀ x, x ∈ l → P x) (hm : ∀ y, P y → m ≤ f y) (ha : ∃ y, y ∈ l ∧ f y = m) (hl : ∀ y, P y → f y = m → y ∈ l) :
    Firsts P f (firstOf (l.filter fun x => f x == m)) := by
  obtain ⟨z, hz, ez⟩ := ha
  have ne : (l.filter fun x => f x == m) ≠ [] := fun e => by
    have : z ∈ l.filter fun x => f x == m := List.mem_filter.2 ⟨hz, by simp [ez]⟩
    rw [e] at this; simp at this
  obtain ⟨h1, h2⟩ := firstOf_spec ne
  generalize firstOf (l.filter fun x => f x == m) = x at *
  rw [List.mem_filter] at h1
  have ex : f x = m := by simpa using h1.2
  refine ⟨hP x h1.1, fun y hy => ?_⟩
  cases q : less (f y :: y) (f x :: x) with
  | false => rfl
  | true =>
    rw [less_cons] at q
    have := hm y hy
    rcases q with q | ⟨q, q'⟩
    · omega
    · rw [h2 y (List.mem_filter.2 ⟨hl y hy (by omega), by simp; omega⟩)] at q'
      exact absurd q' (by decide)
/-! ### Short -/
/-- A point but 0 whose first number other than 0 is above 0. -/
def Up (n : Nat) (b : List (List Int)) (x : List Int) : Prop := InG n b x ∧ square x ≠ 0 ∧ Si18.ahead x = true
theorem InG.len {n : Nat} {b : List (List Int)} {x : List Int} (h : InG n b x) : x.length = n := h.1
def neg (x : List Int) : List Int := x.map fun a => -a
theorem vec_neg (x : List Int) (i : Nat) : vec (neg x) i = -(vec x i) := by
  unfold vec neg
  rw [List.getD_eq_getElem?_getD, List.getD_eq_getElem?_getD, List.getElem?_map]
  cases x[i]? <;> rfl
theorem square_neg (x : List Int) : square (neg x) = square x := by
  have l : (neg x).length = x.length := by simp [neg]
  rw [square_dp (n := x.length) l, square_dp (n := x.length) rfl]
  exact sg_congr fun i _ => by rw [vec_neg]; grind
theorem InG.neg {n : Nat} {b : List (List Int)} {x : List Int} (h : InG n b x) : InG n b (Mx.neg x) := ⟨by rw [← h.1]; simp [Mx.neg], (h.2.mul (-1)).of_eq fun i => by rw [vec_neg]; omega⟩
theorem square_zero {x : List Int} : square x = 0 ↔ ∀ a ∈ x, a = 0 := by
  rw [square_dp rfl]
  constructor
  · intro h a ha
    obtain ⟨i, hi, rfl⟩ := List.getElem_of_mem ha
    have := dp_zero h i hi
    unfold vec at this
    rw [List.getD_eq_getElem?_getD, List.getElem?_eq_getElem hi] at this
    exact this
  · intro h
    refine sg_zero fun i hi => ?_
    have : vec x i = 0 := by
      unfold vec; rw [List.getD_eq_getElem?_getD, List.getElem?_eq_getElem hi]; exact h _ (List.getElem_mem _)
    rw [this]; omega
theorem ahead_or : ∀ {x : List Int}, (∃ a ∈ x, a ≠ 0) → (Si18.ahead x = true ∧ Si18.ahead (neg x) = false) ∨ (Si18.ahead x = false ∧ Si18.ahead (neg x) = true)
  | [], h => by obtain ⟨a, ha, _⟩ := h; simp at ha
  | a :: x, h => by
    by_cases e : a = 0
    · subst e
      obtain ⟨b, hb, nb⟩ := h
      have hb : b ∈ x := by
        rcases List.mem_cons.1 hb with q | q
        · exact absurd q nb
        · exact q
      have := ahead_or ⟨b, hb, nb⟩
      exact this
    · have ne : (a != 0) = true := by simpa using e
      have h1 : Si18.ahead (a :: x) = decide (0 < a) := by unfold Si18.ahead; simp [List.find?, ne]
      have h2 : Si18.ahead (neg (a :: x)) = decide (0 < -a) := by unfold Si18.ahead neg; simp [e]
      rw [h1, h2]
      by_cases q : 0 < a
      · left; simp; omega
      · right; simp; omega
theorem nonzero_ex {x : List Int} (h : square x ≠ 0) : ∃ a ∈ x, a ≠ 0 := by
  rcases Classical.em (∃ a ∈ x, a ≠ 0) with q | q
  · exact q
  · exact absurd (square_zero.2 fun a ha => Classical.byContradiction fun e => q ⟨a, ha, e⟩) h
theorem up_of {n : Nat} {b : List (List Int)} {x : List Int} (h : InG n b x) (z : square x ≠ 0) : Up n b x ∨ Up n b (neg x) := by
  rcases ahead_or (nonzero_ex z) with q | q
  · exact .inl ⟨h, z, q.1⟩
  · exact .inr ⟨h.neg, by rw [square_neg]; exact z, q.2⟩
theorem row_grid {n : Nat} {b : List (List Int)} (h : Sh n b) {r : List Int} (hr : r ∈ b) : InG n b r := by
  obtain ⟨a, ha, rfl⟩ := List.getElem_of_mem hr
  refine ⟨h.row _ (List.getElem_mem _), (Sp.mem (B := fam b) (k := n) (a := a) (h.len ▸ ha)).of_eq fun i => ?_⟩
  unfold fam; rw [List.getD_eq_getElem?_getD, List.getElem?_eq_getElem ha]; rfl
theorem Inv.row_sq {n k : Nat} {A : Int} {b : List (List Int)} (h : Inv n A k b) {r : List Int} (hr : r ∈ b) : 0 < square r ∧ square r ≤ 2 * A := by
  obtain ⟨a, ha, rfl⟩ := List.getElem_of_mem hr
  have hn : b[a].length = n := h.sh.row _ (List.getElem_mem _)
  have f : fam b a = vec b[a] := by unfold fam; rw [List.getD_eq_getElem?_getD, List.getElem?_eq_getElem ha]; rfl
  have := h.sq a (h.sh.len ▸ ha)
  rw [f, ← square_dp hn] at this
  refine ⟨?_, this⟩
  have nn := square_nonneg b[a]
  rcases Classical.em (square b[a] = 0) with z | z
  · exfalso
    have an : a < n := h.sh.len ▸ ha
    have := ind_of h.det (fun c => if c = a then 1 else 0) (fun i hi => by
      rw [sg_one (k := a) an fun c _ e => by simp [e]]
      simp only [if_true]
      rw [f]
      rw [square_dp hn] at z
      rw [dp_zero z i hi]; rfl) a an
    simp at this
  · omega
theorem short_spec {n : Nat} {A : Int} {b : List (List Int)} (h1 : 1 ≤ n) (hn : n ≤ 5) (hA : 0 < A) (hA' : A ≤ 5000000) (h : Inv n A 1 b) :
    let ps := (Si18.pointsIn n b (leastSquare (Si18.reducedOf n b)).toNat).filter fun x => square x != 0 && Si18.ahead x
    Firsts (Up n b) square (firstOf (ps.filter fun x => square x == leastSquare ps)) := by
  intro ps
  obtain ⟨_, i, g⟩ := reduced_ok h1 hn hA hA' h
  have ne : Si18.reducedOf n b ≠ [] := fun e => by have := i.sh.len; rw [e] at this; simp at this; omega
  obtain ⟨⟨r, hr, er⟩, _⟩ := least_spec ne
  obtain ⟨r1, r2⟩ := i.row_sq hr
  have mem : ∀ x, x ∈ ps ↔ Up n b x ∧ square x ≤ square r := fun x => by
    show x ∈ List.filter _ _ ↔ _
    rw [List.mem_filter, points_mem h1 hn hA hA' h (by omega), er]
    unfold Up
    simp only [Bool.and_eq_true, bne_iff_ne, ne_eq]
    constructor
    · rintro ⟨⟨a, b⟩, c, d⟩; exact ⟨⟨a, c, d⟩, by omega⟩
    · rintro ⟨⟨a, c, d⟩, b⟩; exact ⟨⟨a, by omega⟩, c, d⟩
  have rg : InG n b r := (g r).1 (row_grid i.sh hr)
  have ex : ∃ z, z ∈ ps := by
    rcases up_of rg (by omega) with q | q
    · exact ⟨r, (mem r).2 ⟨q, Int.le_refl _⟩⟩
    · exact ⟨_, (mem _).2 ⟨q, by rw [square_neg]; omega⟩⟩
  obtain ⟨z, hz⟩ := ex
  have nps : ps ≠ [] := fun e => by rw [e] at hz; simp at hz
  obtain ⟨⟨y, hy, ey⟩, hl⟩ := least_spec nps
  refine first_of_list (leastSquare ps) (fun x hx => ((mem x).1 hx).1) (fun x hx => ?_) ⟨y, hy, ey.symm⟩ fun x hx ex => (mem x).2 ⟨hx, ?_⟩
  · by_cases q : square x ≤ square r
    · exact hl x ((mem x).2 ⟨hx, q⟩)
    · have := ((mem y).1 hy).2; omega
  · have := ((mem y).1 hy).2; omega
/-! ### Near -/
theorem gg_full {n : Nat} {b : List (List Int)} (h : Si18.det n b ≠ 0) (y : Vec) : gg n (fam b) n y y = 0 := by
  obtain ⟨d, hd, z, hz, e⟩ := full (ind_of h) y
  have a := gg_sp (n := n) (y := y) hz
  rw [gg_congr (x' := fun i => d * y i) (y' := y) (E := fam b) (fun _ _ _ _ => rfl) e (fun _ _ => rfl), gg_mulr] at a
  exact (Int.mul_eq_zero.1 a).resolve_left hd
theorem rest_ok {n : Nat} {b : List (List Int)} (h : Sh n b) (p : ∀ j, j ≤ n → 0 < gd n (fam b) j) : ∀ (i : Nat) (t : List Int), i ≤ n → t.length = n → (∀ j, i ≤ j → j < n → Fit n (fam b) j (vec t)) →
    (Si18.rest b i t).length = n ∧ Sp (fam b) n (fun a => vec t a - vec (Si18.rest b i t) a) ∧ ∀ j, j < n → Fit n (fam b) j (vec (Si18.rest b i t))
  | 0, t, _, ht, f => ⟨ht, (Sp.zero _ n).of_eq fun a => by show vec t a - vec t a = 0; omega, fun j hj => f j (by omega) hj⟩
  | i + 1, t, hi, ht, f => by
    show (Si18.rest b i (Si18.plus t (Si18.times (-(Si18.nearest (Si18.lead b t i) (Si18.vol b (i + 1)))) (Si18.row b i)))).length = n ∧ _
    have hq := nearest_spec (x := Si18.lead b t i) (y := Si18.vol b (i + 1)) (by rw [vol_gd h.wide]; exact p _ hi)
    generalize e : Si18.nearest (Si18.lead b t i) (Si18.vol b (i + 1)) = q at *
    have lr : (Si18.row b i).length = n := h.at hi
    have l1 : (Si18.plus t (Si18.times (-q) (Si18.row b i))).length = n := by rw [plus_length (by rw [times_length]; omega), ht]
    have v : vec (Si18.plus t (Si18.times (-q) (Si18.row b i))) = fun a => vec t a - q * fam b i a := by
      funext a
      rw [vec_plus (by rw [times_length]; omega), vec_times]
      show vec t a + -q * fam b i a = _
      grind
    have hr : Si18.rest b (i + 1) t = Si18.rest b i (Si18.plus t (Si18.times (-q) (Si18.row b i))) := by rw [← e]; rfl
    rw [hr]
    obtain ⟨a1, a2, a3⟩ := rest_ok h p i (Si18.plus t (Si18.times (-q) (Si18.row b i))) (by omega) l1 fun j h1 h2 => by
      unfold Fit
      rw [v, gg_subr, gg_mulr]
      by_cases e : j = i
      · subst e
        rw [vol_gd h.wide, lead_gg h.wide (by omega)] at hq
        rw [← gd_succ]; exact hq
      · rw [gg_lower (show i < j by omega), Int.mul_zero, Int.sub_zero]
        exact f j (by omega) h2
    refine ⟨a1, ?_, a3⟩
    refine (a2.add ((Sp.mem (a := i) (by omega)).mul q)).of_eq fun a => ?_
    show vec t a - _ = vec (Si18.plus t (Si18.times (-q) (Si18.row b i))) a - _ + q * fam b i a
    rw [v]; grind
theorem minus_length {x t : List Int} (h : x.length = t.length) : (Si18.minus x t).length = x.length := by
  show (Si18.plus x (Si18.times (-1) t)).length = _
  rw [plus_length (by rw [times_length]; exact h)]
theorem vec_minus {x t : List Int} (h : x.length = t.length) (i : Nat) : vec (Si18.minus x t) i = vec x i - vec t i := by
  show vec (Si18.plus x (Si18.times (-1) t)) i = _
  rw [vec_plus (by rw [times_length]; exact h), vec_times]; omega
theorem near_spec {n : Nat} {A : Int} {b : List (List Int)} {t : List Int} (h1 : 1 ≤ n) (hn : n ≤ 5) (hA : 0 < A) (hA' : A ≤ 5000000) (h : Inv n A 1 b) (ht : t.length = n) :
    Firsts (InG n b) (fun x => square (Si18.minus x t)) (Si18.nearOf n b t) := by
  obtain ⟨_, i, g⟩ := reduced_ok h1 hn hA hA' h
  show Firsts (InG n b) (fun x => square (Si18.minus x t)) (firstOf ((((Si18.pointsIn n b (4 * (square (Si18.minus (Si18.plane n (Si18.reducedOf n b) t) t)).toNat)).map fun v => Si18.plus (Si18.plane n (Si18.reducedOf n b) t) v)).filter fun x => square (Si18.minus x t) == _))
  obtain ⟨r1, r2, r3⟩ := rest_ok i.sh i.pos n t (Nat.le_refl n) ht fun j h1 h2 => by omega
  have hp : Si18.plane n (Si18.reducedOf n b) t = Si18.minus t (Si18.rest (Si18.reducedOf n b) n t) := rfl
  have lp : (Si18.plane n (Si18.reducedOf n b) t).length = n := by rw [hp, minus_length (by omega), ht]
  have gp : InG n b (Si18.plane n (Si18.reducedOf n b) t) := (g _).1 ⟨lp, r2.of_eq fun a => by rw [hp, vec_minus (by omega)]⟩
  have dp4 : 4 * square (Si18.minus (Si18.plane n (Si18.reducedOf n b) t) t) ≤ A * (4 + n) := by
    have e : square (Si18.minus (Si18.plane n (Si18.reducedOf n b) t) t) = dp n (vec (Si18.rest (Si18.reducedOf n b) n t)) (vec (Si18.rest (Si18.reducedOf n b) n t)) := by
      rw [square_dp (n := n) (by rw [minus_length (by omega), lp])]
      refine sg_congr fun a _ => ?_
      rw [vec_minus (by omega), hp, vec_minus (by omega)]; grind
    rw [e]
    have := fit_sq (n := n) (B := fam (Si18.reducedOf n b)) (A := A) (by omega) (m := n) i.pos i.rat (y := vec (Si18.rest (Si18.reducedOf n b) n t)) (by
      rw [gg_full i.det]
      exact Int.mul_nonneg (by omega) (Int.le_of_lt (i.pos n (Nat.le_refl n)))) r3 n 0 (by omega)
    rw [gg_zero, gd_zero, Int.mul_one] at this
    exact this
  generalize Si18.plane n (Si18.reducedOf n b) t = p at *
  have dn := square_nonneg (Si18.minus p t)
  have d5 : A * (4 + (n : Int)) ≤ A * 9 := Int.mul_le_mul_of_nonneg_left (by omega) (by omega)
  generalize hd : square (Si18.minus p t) = d at *
  have mem : ∀ x, x ∈ (Si18.pointsIn n b (4 * d.toNat)).map (fun v => Si18.plus p v) ↔ InG n b x ∧ square (Si18.minus x p) ≤ 4 * d := fun x => by
    rw [List.mem_map]
    constructor
    · rintro ⟨v, hv, rfl⟩
      rw [points_mem h1 hn hA hA' h (by omega)] at hv
      have lv := hv.1.1
      refine ⟨⟨by rw [plus_length (by omega), lp], (gp.2.add hv.1.2).of_eq fun a => vec_plus (by omega) a⟩, ?_⟩
      have : Si18.minus (Si18.plus p v) p = v := vec_ext' (by rw [minus_length (by rw [plus_length (by omega)]), plus_length (by omega)]; omega) fun a => by
        rw [vec_minus (by rw [plus_length (by omega)]), vec_plus (by omega)]; omega
      rw [this]; omega
    · rintro ⟨hx, hs⟩
      have lx := hx.1
      refine ⟨Si18.minus x p, ?_, vec_ext' (by rw [plus_length (by rw [minus_length (by omega)]; omega)]; omega) fun a => by
        rw [vec_plus (by rw [minus_length (by omega)]; omega), vec_minus (by omega)]; omega⟩
      rw [points_mem h1 hn hA hA' h (by omega)]
      exact ⟨⟨by rw [minus_length (by omega), lx], (hx.2.sub gp.2).of_eq fun a => vec_minus (by omega) a⟩, by omega⟩
  have close : ∀ x, InG n b x → square (Si18.minus x t) ≤ d → square (Si18.minus x p) ≤ 4 * d := fun x hx hs => by
    have lx := hx.1
    have e1 : square (Si18.minus x p) = dp n (fun a => vec x a - vec p a) (fun a => vec x a - vec p a) := by
      rw [square_dp (n := n) (by rw [minus_length (by omega), lx])]
      exact sg_congr fun a _ => by rw [vec_minus (by omega)]
    have e2 : square (Si18.minus x t) = dp n (fun a => vec x a - vec t a) (fun a => vec x a - vec t a) := by
      rw [square_dp (n := n) (by rw [minus_length (by omega), lx])]
      exact sg_congr fun a _ => by rw [vec_minus (by omega)]
    have e3 : square (Si18.minus p t) = dp n (fun a => vec p a - vec t a) (fun a => vec p a - vec t a) := by
      rw [square_dp (n := n) (by rw [minus_length (by omega), lp])]
      exact sg_congr fun a _ => by rw [vec_minus (by omega)]
    have nn := dp_nonneg n (fun a => vec x a - vec t a + (vec p a - vec t a))
    rw [hd] at e3
    have e4 : dp n (fun a => vec x a - vec p a) (fun a => vec x a - vec p a) + dp n (fun a => vec x a - vec t a + (vec p a - vec t a)) (fun a => vec x a - vec t a + (vec p a - vec t a)) = 2 * dp n (fun a => vec x a - vec t a) (fun a => vec x a - vec t a) + 2 * dp n (fun a => vec p a - vec t a) (fun a => vec p a - vec t a) := by
      unfold dp
      rw [← sg_add, ← sg_mul, ← sg_mul, ← sg_add]
      exact sg_congr fun a _ => by grind
    omega
  obtain ⟨f1, f2, f3⟩ := fold_min (fun x => square (Si18.minus x t)) ((Si18.pointsIn n b (4 * d.toNat)).map fun v => Si18.plus p v) ((d.toNat : Nat) : Int)
  generalize List.foldl (fun (m : Int) x => min m (square (Si18.minus x t))) ((d.toNat : Nat) : Int) ((Si18.pointsIn n b (4 * d.toNat)).map fun v => Si18.plus p v) = m at *
  have pin : p ∈ (Si18.pointsIn n b (4 * d.toNat)).map (fun v => Si18.plus p v) := (mem p).2 ⟨gp, by
    have : square (Si18.minus p p) = 0 := by
      rw [square_dp (n := n) (by rw [minus_length rfl, lp])]
      exact sg_zero fun a _ => by rw [vec_minus rfl]; grind
    omega⟩
  refine first_of_list m (fun x hx => ((mem x).1 hx).1) (fun x hx => ?_) ?_ fun x hx ex => (mem x).2 ⟨hx, close x hx ?_⟩
  · by_cases q : square (Si18.minus x t) ≤ d
    · exact f2 x ((mem x).2 ⟨hx, close x hx q⟩)
    · show m ≤ square (Si18.minus x t); omega
  · rcases f3 with f3 | ⟨y, hy, f3⟩
    · exact ⟨p, pin, by show square (Si18.minus p t) = m; omega⟩
    · exact ⟨y, hy, f3.symm⟩
  · have ex : square (Si18.minus x t) = m := ex
    omega
end Mx

/-! The minima. -/
namespace Mx
open Si18 (square)
/-- A multiple of x, not by 0, lies in the first i of V. -/
def Dp (n : Nat) (V : List (List Int)) (i : Nat) (x : List Int) : Prop := ∃ d : Int, d ≠ 0 ∧ ∃ z, Sp (fam V) i z ∧ ∀ k, k < n → z k = d * vec x k
def Free (n : Nat) (V : List (List Int)) : Prop := Ind n (fam V) V.length
theorem fam_app {V W : List (List Int)} {a : Nat} (h : a < V.length) : fam (V ++ W) a = fam V a := by
  unfold fam; rw [List.getD_eq_getElem?_getD, List.getD_eq_getElem?_getD, List.getElem?_append_left h]
theorem fam_last (V : List (List Int)) (x : List Int) : fam (V ++ [x]) V.length = vec x := by
  unfold fam; rw [List.getD_eq_getElem?_getD, List.getElem?_append_right (Nat.le_refl _)]; simp
theorem fam_get {V : List (List Int)} {a : Nat} {x : List Int} (h : V[a]? = some x) : fam V a = vec x := by
  unfold fam; rw [List.getD_eq_getElem?_getD, h]; rfl
theorem Dp.mono {n : Nat} {V : List (List Int)} {i j : Nat} {x : List Int} (h : Dp n V i x) (l : i ≤ j) : Dp n V j x := by
  obtain ⟨d, hd, z, hz, e⟩ := h
  exact ⟨d, hd, z, hz.mono l, e⟩
theorem Dp.app {n : Nat} {V W : List (List Int)} {i : Nat} {x : List Int} (h : Dp n V i x) (l : i ≤ V.length) : Dp n (V ++ W) i x := by
  obtain ⟨d, hd, z, hz, e⟩ := h
  exact ⟨d, hd, z, hz.congr fun a ha => (fam_app (by omega)).symm, e⟩
theorem Dp.mem {n : Nat} {V : List (List Int)} {a i : Nat} {x : List Int} (h : V[a]? = some x) (l : a < i) : Dp n V i x :=
  ⟨1, by decide, fam V a, Sp.mem l, fun k _ => by rw [fam_get h]; omega⟩
/-- As many as i + 1 that depend on i aren't free. -/
theorem steinitz {n i : Nat} {V W : List (List Int)} (hV : Free n V) (hi : i < V.length) (h : ∀ a, a ≤ i → ∀ x, V[a]? = some x → Dp n W i x) : False := by
  have H : ∀ a, ∃ d : Int, d ≠ 0 ∧ ∃ c : Nat → Int, a ≤ i → ∀ k, k < n → d * fam V a k = sg i fun j => c j * fam W j k := fun a => by
    by_cases q : a ≤ i
    · have ha : V[a]? = some V[a] := List.getElem?_eq_getElem (by omega)
      obtain ⟨d, hd, z, ⟨c, hc⟩, e⟩ := h a q _ ha
      exact ⟨d, hd, c, fun _ k hk => by rw [fam_get ha, ← e k hk, hc]⟩
    · exact ⟨1, by decide, fun _ => 0, fun g => absurd g q⟩
  let D : Nat → Int := fun a => (H a).choose
  have D0 : ∀ a, D a ≠ 0 := fun a => (H a).choose_spec.1
  let X : Nat → Nat → Int := fun a => (H a).choose_spec.2.choose
  have X0 : ∀ a, a ≤ i → ∀ k, k < n → D a * fam V a k = sg i fun j => X a j * fam W j k := fun a => (H a).choose_spec.2.choose_spec
  obtain ⟨c, ⟨a, ha, ca⟩, e⟩ := dep i X
  have := hV (fun r => if r < i + 1 then c r * D r else 0) (fun k hk => by
    have r : ∀ m, sg (i + 1 + m) (fun r => (if r < i + 1 then c r * D r else 0) * fam V r k) = sg (i + 1) fun r => c r * (D r * fam V r k) := fun m => by
      induction m with
      | zero => exact sg_congr fun r hr => by rw [if_pos hr, Int.mul_assoc]
      | succ m ih =>
        show sg (i + 1 + m) _ + (if i + 1 + m < i + 1 then c (i + 1 + m) * D (i + 1 + m) else 0) * fam V (i + 1 + m) k = _
        rw [ih, if_neg (by omega)]; omega
    have hl : V.length = i + 1 + (V.length - (i + 1)) := by omega
    rw [hl, r, sg_congr (g := fun r => sg i fun j => c r * X r j * fam W j k) fun r hr => by
      rw [X0 r (by omega) k hk, ← sg_mul]; exact sg_congr fun j _ => by grind]
    rw [sg_swap]
    refine sg_zero fun j hj => ?_
    rw [sg_mulr, e j hj]; omega) a (by omega)
  simp only [if_pos ha] at this
  exact (Int.mul_eq_zero.1 this).elim ca (D0 a)
/-- The points that are the minima, of some points. -/
structure Mins (n : Nat) (P : List Int → Prop) (V : List (List Int)) : Prop where
  free : Free n V
  all : ∀ x, P x → Dp n V V.length x
  low : ∀ x, P x → ∀ i v, V[i]? = some v → square x < square v → Dp n V i x
  mem : ∀ v, v ∈ V → P v
  up : ∀ (i j : Nat) (v w : List Int), i ≤ j → V[i]? = some v → V[j]? = some w → square v ≤ square w
theorem Mins.len_le {n : Nat} {P : List Int → Prop} {V W : List (List Int)} (h : Mins n P V) (g : Mins n P W) : V.length ≤ W.length := by
  rcases Nat.lt_or_ge W.length V.length with q | q
  · exact (steinitz (i := W.length) h.free q fun a _ x hx => g.all x (h.mem x (List.mem_of_getElem? hx))).elim
  · exact q
theorem Mins.sq_le {n : Nat} {P : List Int → Prop} {V W : List (List Int)} (h : Mins n P V) (g : Mins n P W) {i : Nat} {v w : List Int} (hv : V[i]? = some v) (hw : W[i]? = some w) : square w ≤ square v := by
  rcases Int.lt_or_le (square v) (square w) with q | q
  · refine (steinitz (W := W) (i := i) h.free (List.getElem?_eq_some_iff.1 hv).1 fun a ha x hx => ?_).elim
    have := h.up a i x v ha hx hv
    exact g.low x (h.mem x (List.mem_of_getElem? hx)) i w hw (by omega)
  · exact q
theorem Mins.squares {n : Nat} {P : List Int → Prop} {V W : List (List Int)} (h : Mins n P V) (g : Mins n P W) : V.map square = W.map square := by
  have l : V.length = W.length := Nat.le_antisymm (h.len_le g) (g.len_le h)
  refine List.ext_getElem (by simp [l]) fun i h1 h2 => ?_
  rw [List.length_map] at h1 h2
  rw [List.getElem_map, List.getElem_map]
  exact Int.le_antisymm (g.sq_le h (List.getElem?_eq_getElem h2) (List.getElem?_eq_getElem h1)) (h.sq_le g (List.getElem?_eq_getElem h1) (List.getElem?_eq_getElem h2))
/-- One more point, no shorter than those before: left. -/
theorem Mins.skip {n : Nat} {P : List Int → Prop} {V : List (List Int)} {y : List Int} (h : Mins n P V) (hy : Dp n V V.length y) (s : ∀ v, v ∈ V → square v ≤ square y) : Mins n (fun x => P x ∨ x = y) V where
  free := h.free
  all := fun x hx => hx.elim (h.all x) fun e => e ▸ hy
  low := fun x hx i v hv l => hx.elim (fun q => h.low x q i v hv l) fun e => by
    have := s v (List.mem_of_getElem? hv); rw [e] at l; omega
  mem := fun v hv => .inl (h.mem v hv)
  up := h.up
theorem Mins.take {n : Nat} {P : List Int → Prop} {V : List (List Int)} {y : List Int} (h : Mins n P V) (hy : Free n (V ++ [y])) (s : ∀ v, v ∈ V → square v ≤ square y) : Mins n (fun x => P x ∨ x = y) (V ++ [y]) where
  free := hy
  all := fun x hx => by
    rw [List.length_append]
    rcases hx with hx | rfl
    · exact ((h.all x hx).app (Nat.le_refl _)).mono (by omega)
    · exact Dp.mem (a := V.length) (by simp) (by simp)
  low := fun x hx i v hv l => by
    have il := (List.getElem?_eq_some_iff.1 hv).1
    rw [List.length_append, List.length_singleton] at il
    by_cases q : i < V.length
    · rw [List.getElem?_append_left q] at hv
      rcases hx with hx | rfl
      · exact (h.low x hx i v hv l).app (by omega)
      · have := s v (List.mem_of_getElem? hv); omega
    · have e : i = V.length := by omega
      subst e
      rcases hx with hx | rfl
      · exact (h.all x hx).app (Nat.le_refl _)
      · simp at hv; subst hv; omega
  mem := fun v hv => by
    rcases List.mem_append.1 hv with q | q
    · exact .inl (h.mem v q)
    · exact .inr (List.mem_singleton.1 q)
  up := fun i j v w ij hv hw => by
    have jl := (List.getElem?_eq_some_iff.1 hw).1
    rw [List.length_append, List.length_singleton] at jl
    by_cases q : j < V.length
    · rw [List.getElem?_append_left (by omega)] at hv hw
      exact h.up i j v w ij hv hw
    · have e : j = V.length := by omega
      subst e
      simp at hw; subst hw
      by_cases p : i < V.length
      · rw [List.getElem?_append_left p] at hv
        exact s v (List.mem_of_getElem? hv)
      · have e : i = V.length := by omega
        subst e; simp at hv; subst hv; exact Int.le_refl _
theorem Mins.nil (n : Nat) : Mins n (fun _ => False) [] := ⟨fun c _ a ha => by simp at ha, fun x h => h.elim, fun x h => h.elim, fun v h => by simp at h, fun i j v w _ h => by simp at h⟩
theorem Mins.iff {n : Nat} {P Q : List Int → Prop} {V : List (List Int)} (h : Mins n P V) (e : ∀ x, P x ↔ Q x) : Mins n Q V :=
  ⟨h.free, fun x hx => h.all x ((e x).2 hx), fun x hx => h.low x ((e x).2 hx), fun v hv => (e v).1 (h.mem v hv), h.up⟩
/-- Whether a point is free of those taken, by a determinant. -/
theorem free_pos {n : Nat} {V : List (List Int)} (h : Free n V) : ∀ j, j ≤ V.length → 0 < gd n (fam V) j := gd_pos h
theorem free_or {n : Nat} {V : List (List Int)} (h : Free n V) (x : List Int) : (gg n (fam V) V.length (vec x) (vec x) ≠ 0 → Free n (V ++ [x])) ∧ (gg n (fam V) V.length (vec x) (vec x) = 0 → Dp n V V.length x) := by
  have p := gd_pos h V.length (Nat.le_refl _)
  constructor
  · intro ne c hc a ha
    rw [List.length_append, List.length_singleton] at ha hc
    have e : ∀ i, i < n → sg V.length (fun a => c a * fam V a i) + c V.length * vec x i = 0 := fun i hi => by
      have := hc i hi
      have s : sg (V.length + 1) (fun a => c a * fam (V ++ [x]) a i) = sg V.length (fun a => c a * fam (V ++ [x]) a i) + c V.length * fam (V ++ [x]) V.length i := rfl
      rw [s, fam_last, sg_congr (g := fun a => c a * fam V a i) fun a ha => by rw [fam_app ha]] at this
      exact this
    have z : c V.length = 0 := by
      have s := gg_sp (n := n) (j := V.length) (B := fam V) (y := vec x) (s := fun i => sg V.length fun a => c a * fam V a i) ⟨c, fun _ => rfl⟩
      rw [gg_congr (E := fam V) (x' := fun i => -(c V.length) * vec x i) (y' := vec x) (fun _ _ _ _ => rfl) (fun i hi => by
        have := e i hi
        show sg V.length (fun a => c a * fam V a i) = -(c V.length) * vec x i
        rw [Int.neg_mul]; omega) (fun _ _ => rfl), gg_mulr] at s
      have := (Int.mul_eq_zero.1 s).resolve_right ne
      omega
    by_cases q : a = V.length
    · rw [q]; exact z
    · exact h c (fun i hi => by have := e i hi; rw [z] at this; omega) a (by omega)
  · intro z
    obtain ⟨w, hw⟩ := wv_ex n (fam V) V.length (vec x)
    have e := hw.prod hw
    rw [z, Int.mul_zero] at e
    have w0 := dp_zero e
    refine ⟨gd n (fam V) V.length, Int.ne_of_gt p, fun i => -1 * (w i - gd n (fam V) V.length * vec x i), hw.sp.mul (-1), fun k hk => ?_⟩
    show -1 * (w k - gd n (fam V) V.length * vec x k) = _
    rw [w0 k hk]; omega
/-- Of two sets of points one of which holds enough of the other. -/
theorem Mins.more {n : Nat} {P Q : List Int → Prop} {V : List (List Int)} (h : Mins n P V) (s : ∀ x, P x → Q x) (t : ∀ x, Q x → P x ∨ ∃ W : List (List Int), (∀ w, w ∈ W → P w ∧ square w ≤ square x) ∧ Dp n W W.length x) : Mins n Q V := by
  have tr : ∀ {i : Nat} {x : List Int} {W : List (List Int)}, Dp n W W.length x → (∀ w, w ∈ W → Dp n V i w) → Dp n V i x := fun {i x W} hx hw => by
    obtain ⟨d, hd, z, ⟨c, hc⟩, e⟩ := hx
    have H : ∀ k, k ≤ W.length → ∃ f : Int, f ≠ 0 ∧ ∃ u, Sp (fam V) i u ∧ ∀ j, j < n → u j = f * sg k fun a => c a * fam W a j := fun k => by
      induction k with
      | zero => exact fun _ => ⟨1, by decide, _, Sp.zero _ i, fun j _ => by simp [sg]⟩
      | succ k ih =>
        intro hk
        obtain ⟨f, hf, u, hu, eu⟩ := ih (by omega)
        have hg : W[k]? = some W[k] := List.getElem?_eq_getElem hk
        obtain ⟨g, hg', y, hy, ey⟩ := hw W[k] (List.getElem_mem _)
        refine ⟨f * g, fun q => (Int.mul_eq_zero.1 q).elim hf hg', _, (hu.mul g).add (hy.mul (f * c k)), fun j hj => ?_⟩
        show g * u j + f * c k * y j = f * g * (sg k (fun a => c a * fam W a j) + c k * fam W k j)
        rw [eu j hj, ey j hj, fam_get hg]; grind
    obtain ⟨f, hf, u, hu, eu⟩ := H W.length (Nat.le_refl _)
    refine ⟨f * d, fun q => (Int.mul_eq_zero.1 q).elim hf hd, u, hu, fun k hk => ?_⟩
    rw [eu k hk, ← hc k, e k hk]; grind
  refine ⟨h.free, fun x hx => ?_, fun x hx i v hv l => ?_, fun v hv => s v (h.mem v hv), h.up⟩
  · rcases t x hx with q | ⟨W, hW, q⟩
    · exact h.all x q
    · exact tr q fun w hw => h.all w (hW w hw).1
  · rcases t x hx with q | ⟨W, hW, q⟩
    · exact h.low x q i v hv l
    · exact tr q fun w hw => h.low w (hW w hw).1 i v hv (by have := (hW w hw).2; omega)
/-- One after another, of points that are sorted. -/
def take1 (free : List (List Int) → List Int → Bool) (st : List (List Int)) (x : List Int) : List (List Int) := if free st x = true then st ++ [x] else st
theorem take_ok {n : Nat} {free : List (List Int) → List Int → Bool} {Q : List Int → Prop} (hf : ∀ st x, Free n st → (∀ v, v ∈ st → Q v) → Q x → (free st x = true → Free n (st ++ [x])) ∧ (free st x = false → Dp n st st.length x)) :
    ∀ (ps : List (List Int)) (P : List Int → Prop) (st : List (List Int)), Mins n P st → ps.Pairwise (fun x y => square x ≤ square y) → (∀ v, v ∈ st → ∀ x, x ∈ ps → square v ≤ square x) → (∀ v, v ∈ st → Q v) → (∀ x, x ∈ ps → Q x) →
    Mins n (fun x => P x ∨ x ∈ ps) (ps.foldl (take1 free) st)
  | [], P, st, h, _, _, _, _ => h.iff fun x => by simp
  | y :: ps, P, st, h, hs, hv, q1, q2 => by
    rw [List.foldl_cons]
    rw [List.pairwise_cons] at hs
    have s := fun v hv' => hv v hv' y (List.mem_cons_self ..)
    have qy := q2 y (List.mem_cons_self ..)
    have hh := hf st y h.free q1 qy
    have fin : ∀ x, ((P x ∨ x = y) ∨ x ∈ ps) ↔ (P x ∨ x ∈ y :: ps) := fun x => by rw [List.mem_cons, or_assoc]
    by_cases e : free st y = true
    · have : take1 free st y = st ++ [y] := by unfold take1; rw [if_pos e]
      rw [this]
      refine (take_ok hf ps _ _ (h.take (hh.1 e) s) hs.2 (fun v hv' x hx => ?_) (fun v hv' => ?_) fun x hx => q2 x (List.mem_cons_of_mem _ hx)).iff fin
      · rcases List.mem_append.1 hv' with q | q
        · exact hv v q x (List.mem_cons_of_mem _ hx)
        · rw [List.mem_singleton.1 q]; exact hs.1 x hx
      · rcases List.mem_append.1 hv' with q | q
        · exact q1 v q
        · rw [List.mem_singleton.1 q]; exact qy
    · have : take1 free st y = st := by unfold take1; rw [if_neg e]
      rw [this]
      exact (take_ok hf ps _ _ (h.skip (hh.2 (by simpa using e)) s) hs.2 (fun v hv' x hx => hv v hv' x (List.mem_cons_of_mem _ hx)) q1 fun x hx => q2 x (List.mem_cons_of_mem _ hx)).iff fin
/-- The specification's word for free. -/
theorem freeOf_gg {n : Nat} {V : List (List Int)} {x : List Int} (h : ∀ v, v ∈ V → v.length ≤ n) (hx : x.length ≤ n) : Si18.freeOf V x = (gg n (fam V) V.length (vec x) (vec x) != 0) := by
  have e : Si18.det (V ++ [x]).length ((V ++ [x]).map fun a => (V ++ [x]).map fun c => Si18.dot a c) = gg n (fam V) V.length (vec x) (vec x) := by
    rw [det_dt]
    have hl : (V ++ [x]).length = V.length + 1 := by simp
    rw [hl]
    have W : Wide n (V ++ [x]) := fun r hr => by
      rcases List.mem_append.1 hr with q | q
      · exact h r q
      · rw [List.mem_singleton.1 q]; exact hx
    refine dt_congr fun a c ha hc => ?_
    show (List.getD ((V ++ [x]).map _) a []).getD c 0 = _
    have ga : (V ++ [x])[a]? = some (V ++ [x])[a] := List.getElem?_eq_getElem (by omega)
    have gc : (V ++ [x])[c]? = some (V ++ [x])[c] := List.getElem?_eq_getElem (by omega)
    rw [List.getD_eq_getElem?_getD (l := (V ++ [x]).map _), List.getElem?_map, ga]
    show List.getD ((V ++ [x]).map _) c 0 = _
    rw [List.getD_eq_getElem?_getD, List.getElem?_map, gc]
    show Si18.dot _ _ = _
    rw [dot_dp (W _ (List.getElem_mem _)) (W _ (List.getElem_mem _)), ← fam_get ga, ← fam_get gc]
    have f : ∀ a, a < V.length + 1 → fam (V ++ [x]) a = if a = V.length then vec x else fam V a := fun a ha => by
      by_cases q : a = V.length
      · rw [if_pos q, q, fam_last]
      · rw [if_neg q, fam_app (by omega)]
    rw [f a ha, f c hc]
  unfold Si18.freeOf
  show (Si18.det (V ++ [x]).length ((V ++ [x]).map fun a => (V ++ [x]).map fun c => Si18.dot a c) != 0) = _
  rw [e]
/-- The specification's way to take them stops at n. -/
theorem stop_ok {n : Nat} : ∀ (ps st : List (List Int)), Free n st → st.length ≤ n → (∀ v, v ∈ st → v.length ≤ n) → (∀ x, x ∈ ps → x.length ≤ n) →
    ps.foldl (fun (st : List (List Int)) x => if (st.length < n && Si18.freeOf st x) = true then st ++ [x] else st) st = ps.foldl (take1 Si18.freeOf) st
  | [], st, _, _, _, _ => rfl
  | y :: ps, st, h, l, q1, q2 => by
    rw [List.foldl_cons, List.foldl_cons]
    have qy := q2 y (List.mem_cons_self ..)
    have fg := freeOf_gg q1 qy
    have hh := free_or h y
    have e : (if (st.length < n && Si18.freeOf st y) = true then st ++ [y] else st) = take1 Si18.freeOf st y := by
      unfold take1
      by_cases q : st.length < n
      · rw [decide_eq_true q]; rfl
      · have : Si18.freeOf st y = false := by
          rw [fg]
          refine Classical.byContradiction fun z => ?_
          have f : Free n (st ++ [y]) := hh.1 (by simpa using z)
          exact steinitz (W := (List.range n).map fun i => (List.range n).map fun j => if j = i then (1 : Int) else 0) (i := n) f (by simp; omega) fun a ha x hx => by
            refine ⟨1, by decide, _, ⟨fun i => vec x i, fun _ => rfl⟩, fun k hk => ?_⟩
            have u : ∀ i, i < n → fam ((List.range n).map fun i => (List.range n).map fun j => if j = i then (1 : Int) else 0) i k = if k = i then 1 else 0 := fun i hi => by
              rw [fam_get (x := (List.range n).map fun j => if j = i then (1 : Int) else 0) (by rw [List.getElem?_map, List.getElem?_range hi]; rfl), vec_range _ hk]
            show sg n (fun i => vec x i * _) = _
            rw [sg_one hk fun i hi ne => by rw [u i hi, if_neg (Ne.symm ne)]; omega, u k hk, if_pos rfl]; omega
        rw [this]; simp
    rw [e]
    have hl : take1 Si18.freeOf st y = st ∨ (take1 Si18.freeOf st y = st ++ [y] ∧ Free n (st ++ [y]) ∧ st.length + 1 ≤ n) := by
      rw [← e]
      by_cases q : st.length < n
      · by_cases z : Si18.freeOf st y = true
        · right
          rw [z, decide_eq_true q]
          refine ⟨rfl, hh.1 ?_, q⟩
          rw [fg] at z; simpa using z
        · left
          rw [if_neg (by simp [z])]
      · left
        rw [if_neg (by simp [q])]
    rcases hl with z | ⟨z, f, l'⟩
    · rw [z]; exact stop_ok ps st h l q1 fun x hx => q2 x (List.mem_cons_of_mem _ hx)
    · rw [z]
      exact stop_ok ps _ f (by simp; omega) (fun v hv => by
        rcases List.mem_append.1 hv with q | q
        · exact q1 v q
        · rw [List.mem_singleton.1 q]; exact qy) fun x hx => q2 x (List.mem_cons_of_mem _ hx)
/-- Taken from sorted points, by determinants. -/
theorem taken {n : Nat} {ps : List (List Int)} (h : ∀ x, x ∈ ps → x.length ≤ n) (s : ps.Pairwise fun x y => square x ≤ square y) : Mins n (fun x => x ∈ ps) (ps.foldl (take1 Si18.freeOf) []) :=
  (take_ok (Q := fun x => x.length ≤ n) (fun st x f q1 qx => by
    rw [freeOf_gg q1 qx]
    obtain ⟨a, b⟩ := free_or f x
    exact ⟨fun e => a (by simpa using e), fun e => b (by simpa using e)⟩) ps _ [] (Mins.nil n) s (fun v hv => by simp at hv) (fun v hv => by simp at hv) h).iff fun x => by simp
end Mx

/-! What minima and count answer. -/
namespace Mx
open Si18 (square)
theorem foldl_max : ∀ (l : List (List Int)) (m : Nat), m ≤ l.foldl (fun (m : Nat) x => max m (square x).toNat) m ∧ (∀ y, y ∈ l → (square y).toNat ≤ l.foldl (fun (m : Nat) x => max m (square x).toNat) m) ∧
    (∀ B : Nat, m ≤ B → (∀ y, y ∈ l → (square y).toNat ≤ B) → l.foldl (fun (m : Nat) x => max m (square x).toNat) m ≤ B)
  | [], m => ⟨Nat.le_refl m, fun y hy => by simp at hy, fun B h _ => h⟩
  | x :: l, m => by
    rw [List.foldl_cons]
    obtain ⟨h1, h2, h3⟩ := foldl_max l (max m (square x).toNat)
    refine ⟨by omega, fun y hy => ?_, fun B hm hl => h3 B ?_ fun y hy => hl y (List.mem_cons_of_mem _ hy)⟩
    · rcases List.mem_cons.1 hy with e | e
      · subst e; omega
      · exact h2 y e
    · have := hl x (List.mem_cons_self ..); omega
theorem dp_nil {n : Nat} {x : List Int} (h : square x = 0) : Dp n [] 0 x := ⟨1, by decide, _, Sp.zero _ 0, fun k _ => by
  have : vec x k = 0 := by
    by_cases q : k < x.length
    · exact dp_zero (by rw [← square_dp rfl]; exact h) k q
    · exact vec_out (by omega)
  show (0 : Int) = 1 * _
  rw [this]; rfl⟩
theorem grid_dp {n : Nat} {c : List (List Int)} {x : List Int} (hc : Sh n c) (h : InG n c x) : Dp n c c.length x := ⟨1, by decide, vec x, by rw [hc.len]; exact h.2, fun k _ => by omega⟩
theorem minima_spec {n : Nat} {A : Int} {b : List (List Int)} (h1 : 1 ≤ n) (hn : n ≤ 5) (hA : 0 < A) (hA' : A ≤ 5000000) (h : Inv n A 1 b) :
    ∃ V, Mins n (InG n b) V ∧ (Si18.minimaOf n b).map (fun (r : Nat) => (r : Int)) = V.map square := by
  obtain ⟨_, i, g⟩ := reduced_ok h1 hn hA hA' h
  show ∃ V, Mins n (InG n b) V ∧ (((((Si18.pointsIn n b ((Si18.reducedOf n b).foldl (fun (m : Nat) x => max m (square x).toNat) 0)).filter fun x => square x != 0).mergeSort fun x y => decide (square x ≤ square y)).foldl (fun (st : List (List Int)) x => if (st.length < n && Si18.freeOf st x) = true then st ++ [x] else st) []).map fun x => (square x).toNat).map (fun (r : Nat) => (r : Int)) = V.map square
  obtain ⟨_, b2, b3⟩ := foldl_max (Si18.reducedOf n b) 0
  have bb := b3 (2 * A).toNat (by omega) fun y hy => by have := (i.row_sq hy).2; omega
  generalize (Si18.reducedOf n b).foldl (fun (m : Nat) x => max m (square x).toNat) 0 = big at *
  have mem : ∀ x, x ∈ ((Si18.pointsIn n b big).filter fun x => square x != 0).mergeSort (fun x y => decide (square x ≤ square y)) ↔ (InG n b x ∧ square x ≤ big) ∧ square x ≠ 0 := fun x => by
    rw [List.mem_mergeSort, List.mem_filter, points_mem h1 hn hA hA' h (by omega)]
    simp
  have srt : (((Si18.pointsIn n b big).filter fun x => square x != 0).mergeSort fun x y => decide (square x ≤ square y)).Pairwise fun x y => square x ≤ square y := by
    refine List.Pairwise.imp (fun {a b} e => ?_) (List.pairwise_mergeSort (le := fun x y => decide (square x ≤ square y)) (fun a b c h1 h2 => ?_) (fun a b => ?_) _)
    · simpa using e
    · simp at *; omega
    · simp; omega
  generalize ((Si18.pointsIn n b big).filter fun x => square x != 0).mergeSort (fun x y => decide (square x ≤ square y)) = ps at *
  have len : ∀ x, x ∈ ps → x.length ≤ n := fun x hx => Nat.le_of_eq ((mem x).1 hx).1.1.1
  rw [stop_ok ps [] (fun c _ a ha => by simp at ha) (Nat.zero_le n) (fun v hv => by simp at hv) len]
  have m := taken len srt
  refine ⟨_, m.more (fun x hx => ((mem x).1 hx).1.1) (fun x hx => ?_), ?_⟩
  · by_cases z : square x = 0
    · exact .inr ⟨[], fun w hw => by simp at hw, dp_nil z⟩
    by_cases q : square x ≤ big
    · exact .inl ((mem x).2 ⟨⟨hx, q⟩, z⟩)
    · refine .inr ⟨Si18.reducedOf n b, fun w hw => ⟨(mem w).2 ⟨⟨(g w).1 (row_grid i.sh hw), ?_⟩, ?_⟩, ?_⟩, grid_dp i.sh ((g x).2 hx)⟩
      · have := b2 w hw; omega
      · have := (i.row_sq hw).1; omega
      · have := b2 w hw; omega
  · rw [List.map_map]
    refine List.map_congr_left fun x hx => ?_
    have := square_nonneg x
    show (((square x).toNat : Nat) : Int) = square x
    omega
/-- Lists that hold just the points up to a square, once each, are as long. -/
theorem count_spec {n r : Nat} {A : Int} {b : List (List Int)} (h1 : 1 ≤ n) (hn : n ≤ 5) (hA : 0 < A) (hA' : A ≤ 5000000) (h : Inv n A 1 b) (hr : r ≤ 2 ^ 60) {l : List (List Int)} (d : l.Nodup) (m : ∀ x, x ∈ l ↔ InG n b x ∧ square x ≤ (r : Int)) :
    (Si18.pointsIn n b r).length = l.length := by
  refine ((List.perm_ext_iff_of_nodup (points_nodup h1 hn hA hA' h) d).2 fun x => ?_).length_eq
  rw [points_mem h1 hn hA hA' h hr, m]
end Mx

/-! The program's ladder: sizes, rows of L. -/
namespace Mx
theorem sg_abs {f : Nat → Int} {e : Nat} : ∀ {n : Nat}, (∀ i, i < n → (f i).natAbs < 2 ^ e) → (sg n f).natAbs ≤ n * 2 ^ e
  | 0, _ => by show (0 : Int).natAbs ≤ _; simp
  | n + 1, h => by
    have a := sg_abs (n := n) fun i hi => h i (by omega)
    have b := h n (by omega)
    have c : (sg n f + f n).natAbs ≤ (sg n f).natAbs + (f n).natAbs := Int.natAbs_add_le _ _
    show (sg n f + f n).natAbs ≤ _
    rw [Nat.add_mul, Nat.one_mul]; omega
theorem sg_abs8 {f : Nat → Int} {e n : Nat} (hn : n ≤ 7) (h : ∀ i, i < n → (f i).natAbs < 2 ^ e) : (sg n f).natAbs < 2 ^ (e + 3) := by
  have a := sg_abs h
  have b : n * 2 ^ e ≤ 7 * 2 ^ e := Nat.mul_le_mul_right _ hn
  have c : (2 : Nat) ^ (e + 3) = 8 * 2 ^ e := by rw [Nat.pow_add]; omega
  have d := Nat.two_pow_pos e
  omega
theorem dt_big {e : Nat} : ∀ {m : Nat} {M : Mat}, m ≤ 7 → (∀ a c, a < m → c < m → (M a c).natAbs < 2 ^ e) → (dt m M).natAbs < 2 ^ (m * (e + 3) + 1)
  | 0, _, _, _ => by show (1 : Int).natAbs < 2 ^ (0 * _ + 1); rw [Nat.zero_mul]; decide
  | m + 1, M, hm, h => by
    have q : (m + 1) * (e + 3) + 1 = (e + (m * (e + 3) + 1)) + 3 := by rw [Nat.add_mul]; omega
    rw [q]
    refine sg_abs8 hm fun j hj => ?_
    have ih := dt_big (e := e) (m := m) (M := mn M j) (by omega) fun a c ha hc => h _ _ (by omega) (sk_lt hc)
    refine mul_abs ?_ ih
    rw [natAbs_sgn]; exact h 0 j (by omega) hj
def BigV (n a : Nat) (x : Vec) : Prop := ∀ i, i < n → (x i).natAbs < 2 ^ a
theorem dp_big {n a b : Nat} {x y : Vec} (hn : n ≤ 7) (hx : BigV n a x) (hy : BigV n b y) : (dp n x y).natAbs < 2 ^ (a + b + 3) :=
  sg_abs8 hn fun i hi => mul_abs (hx i hi) (hy i hi)
theorem gg_big {n a j : Nat} {B : Nat → Vec} {x y : Vec} (hn : n ≤ 7) (hj : j ≤ 5) (hB : ∀ b, b < j → BigV n a (B b)) (hx : BigV n a x) (hy : BigV n a y) : (gg n B j y x).natAbs < 2 ^ (12 * a + 37) := by
  have d := dt_big (e := a + a + 3) (m := j + 1) (M := fun c d => dp n (if c = j then y else B c) (if d = j then x else B d)) (by omega) fun c d hc hd => by
    have h1 : BigV n a (if c = j then y else B c) := by
      split
      · exact hy
      · exact hB c (by omega)
    have h2 : BigV n a (if d = j then x else B d) := by
      split
      · exact hx
      · exact hB d (by omega)
    exact dp_big hn h1 h2
  refine abs_mono d ?_
  have : (j + 1) * (a + a + 3 + 3) ≤ 6 * (a + a + 3 + 3) := Nat.mul_le_mul_right _ (by omega)
  omega
theorem gd_big {n a j : Nat} {B : Nat → Vec} (hn : n ≤ 7) (hj : j ≤ 5) (hB : ∀ b, b < j → BigV n a (B b)) : (gd n B j).natAbs < 2 ^ (12 * a + 37) := by
  cases j with
  | zero => rw [gd_zero]; exact Nat.one_lt_two_pow (by omega)
  | succ j => rw [gd_succ]; exact gg_big hn (by omega) (fun b hb => hB b (by omega)) (hB j (by omega)) (hB j (by omega))
theorem bigV_of {n a : Nat} {x : List Int} (h : BigR a x) : BigV n a (vec x) := fun i _ => getD_big h i
/-- What a row of the ladder is worked out from. -/
structure LPre (n : Nat) (bs : List (List Int)) (a : Nat) : Prop where
  hn : n ≤ 5
  len : bs.length ≤ 5
  wide : ∀ r ∈ bs, r.length = n
  big : Big a bs
  ha : a ≤ 700
  pos : ∀ j, j ≤ bs.length → 0 < gd n (fam bs) j
theorem LPre.bigB {n a : Nat} {bs : List (List Int)} (h : LPre n bs a) (k : Nat) : BigV n a (fam bs k) := fun i _ => by
  show ((bs.getD k []).getD i 0).natAbs < _
  rw [List.getD_eq_getElem?_getD (l := bs)]
  cases e : bs[k]? with
  | none => exact Nat.two_pow_pos a
  | some r => exact getD_big (h.big r (List.mem_of_getElem? e)) i
/-- L(k, j) for j below m, of another row. -/
def lrow (n : Nat) (B : Nat → Vec) (m : Nat) (y : Vec) : List Int := (List.range m).map fun j => gg n B j (B j) y
theorem lrow_length (n : Nat) (B : Nat → Vec) (m : Nat) (y : Vec) : (lrow n B m y).length = m := by unfold lrow; simp
theorem lrow_get {n m j : Nat} {B : Nat → Vec} {y : Vec} (h : j < m) : (lrow n B m y)[j]? = some (gg n B j (B j) y) := by
  unfold lrow; rw [List.getElem?_map, List.getElem?_range h]; rfl
theorem lrow_succ (n m : Nat) (B : Nat → Vec) (y : Vec) : lrow n B (m + 1) y = lrow n B m y ++ [gg n B m (B m) y] := by
  unfold lrow; rw [List.range_succ, List.map_append]; rfl
theorem lrow_congr {n m : Nat} {B E : Nat → Vec} {y : Vec} (h : ∀ a, a < m → B a = E a) : lrow n B m y = lrow n E m y := by
  unfold lrow
  refine List.map_congr_left fun j hj => ?_
  have hj := List.mem_range.1 hj
  exact gg_congr (fun a ha i _ => by rw [h a (by omega)]) (fun _ _ => rfl) fun i _ => by rw [h j hj]
/-- The table: L(k, j), row k by row k. -/
def ltab (n : Nat) (bs : List (List Int)) : List (List Int) := (List.range bs.length).map fun k => lrow n (fam bs) (k + 1) (fam bs k)
theorem ltab_length (n : Nat) (bs : List (List Int)) : (ltab n bs).length = bs.length := by unfold ltab; simp
theorem ltab_get {n k : Nat} {bs : List (List Int)} (h : k < bs.length) : (ltab n bs)[k]? = some (lrow n (fam bs) (k + 1) (fam bs k)) := by
  unfold ltab; rw [List.getElem?_map, List.getElem?_range h]; rfl
/-- A row with its own number behind. -/
def lfull (n : Nat) (bs : List (List Int)) (y : List Int) : List Int := lrow n (fam bs) bs.length (vec y) ++ [gg n (fam bs) bs.length (vec y) (vec y)]
theorem lfull_length (n : Nat) (bs : List (List Int)) (y : List Int) : (lfull n bs y).length = bs.length + 1 := by unfold lfull; simp [lrow_length]
theorem ltab_append {n : Nat} {bs : List (List Int)} {y : List Int} : ltab n (bs ++ [y]) = ltab n bs ++ [lfull n bs y] := by
  unfold ltab
  rw [List.length_append, List.length_singleton, List.range_succ, List.map_append]
  congr 1
  · refine List.map_congr_left fun k hk => ?_
    have hk := List.mem_range.1 hk
    rw [lrow_congr (E := fam bs) fun a ha => fam_app (by omega), fam_app hk]
  · show [lrow n (fam (bs ++ [y])) (bs.length + 1) (fam (bs ++ [y]) bs.length)] = [lfull n bs y]
    rw [fam_last, lrow_succ, fam_last, lrow_congr (E := fam bs) fun a ha => fam_app (by omega)]
    unfold lfull
    rw [gg_congr (E := fam bs) (x' := vec y) (y' := vec y) (fun a ha i _ => by rw [fam_app ha]) (fun _ _ => rfl) fun _ _ => rfl]
theorem fam_take {bs : List (List Int)} {k a : Nat} (h : a < k) : fam (bs.take k) a = fam bs a := by
  unfold fam; rw [List.getD_eq_getElem?_getD, List.getD_eq_getElem?_getD, List.getElem?_take_of_lt h]
theorem take_succ_get {B : Type} {bs : List B} {k : Nat} {y : B} (h : bs[k]? = some y) : bs.take (k + 1) = bs.take k ++ [y] := by
  rw [List.take_succ, h]; rfl
theorem LPre.take {n a : Nat} {bs : List (List Int)} (h : LPre n bs a) (k : Nat) : LPre n (bs.take k) a where
  hn := h.hn
  len := Nat.le_trans (List.length_take_le' k bs) h.len
  wide := fun r hr => h.wide r (List.mem_of_mem_take hr)
  big := fun r hr => h.big r (List.mem_of_mem_take hr)
  ha := h.ha
  pos := fun j hj => by
    rw [List.length_take] at hj
    rw [gd_congr (E := fam bs) fun a ha i _ => by rw [fam_take (by omega)]]
    exact h.pos j (by omega)
/-- The rest when a step is divided: what the program's inner turn gives. -/
theorem step_div {n l : Nat} {B : Nat → Vec} (z y : Vec) (p : 0 < gd n B l) : (gg n B l z y * gd n B (l + 1) - gg n B l (B l) y * gg n B l (B l) z) / gd n B l = gg n B (l + 1) z y := by
  have s := gg_step z y (Int.ne_of_gt p)
  have : gg n B l z y * gd n B (l + 1) - gg n B l (B l) y * gg n B l (B l) z = gg n B (l + 1) z y * gd n B l := by grind
  rw [this, Int.mul_ediv_cancel _ (Int.ne_of_gt p)]
end Mx

/-! The program's way of reducing. -/
namespace Mx
theorem lead_congr {b c : List (List Int)} {x : List Int} {j : Nat} (h : ∀ a, a ≤ j → b.getD a [] = c.getD a []) : Si18.lead b x j = Si18.lead c x j := by
  unfold Si18.lead
  congr 1
  refine List.map_congr_left fun a ha => ?_
  refine List.map_congr_left fun d hd => ?_
  have ha := List.mem_range.1 ha
  have hd := List.mem_range.1 hd
  have e1 : Si18.row b a = Si18.row c a := h a (by omega)
  have e2 : Si18.row b d = Si18.row c d := h d (by omega)
  rw [e1, e2]
theorem vol_congr {b c : List (List Int)} : ∀ {j : Nat}, (∀ a, a < j → b.getD a [] = c.getD a []) → Si18.vol b j = Si18.vol c j
  | 0, _ => rfl
  | j + 1, h => by
    show Si18.lead b (Si18.row b j) j = Si18.lead c (Si18.row c j) j
    have e : Si18.row b j = Si18.row c j := h j (by omega)
    rw [e]; exact lead_congr fun a ha => h a (by omega)
theorem rest_congr {b c : List (List Int)} : ∀ {i : Nat} {t : List Int}, (∀ a, a < i → b.getD a [] = c.getD a []) → Si18.rest b i t = Si18.rest c i t
  | 0, _, _ => rfl
  | i + 1, t, h => by
    show Si18.rest b i _ = Si18.rest c i _
    have e : Si18.row b i = Si18.row c i := h i (by omega)
    rw [lead_congr (c := c) fun a ha => h a (by omega), vol_congr (c := c) fun a ha => h a (by omega), e]
    exact rest_congr fun a ha => h a (by omega)
theorem lessened_rest {b : List (List Int)} {k : Nat} (hk : k < b.length) : ∀ i, i ≤ k → ∀ y, lessened (b.set k y) k i = b.set k (Si18.rest b i y)
  | 0, _, y => rfl
  | i + 1, hi, y => by
    show lessened (Si18.shrink (b.set k y) k i) k i = b.set k (Si18.rest b i _)
    rw [shrink_eq]
    have r1 : Si18.row (b.set k y) k = y := by rw [row_at, getD_set hk, if_pos rfl]
    have r2 : Si18.row (b.set k y) i = Si18.row b i := by rw [row_at, getD_set hk, if_neg (by omega)]; rfl
    have s : less1 (b.set k y) k i (Si18.nearest (Si18.lam (b.set k y) k i) (Si18.vol (b.set k y) (i + 1))) = b.set k (Si18.plus y (Si18.times (-(Si18.nearest (Si18.lead b y i) (Si18.vol b (i + 1)))) (Si18.row b i))) := by
      unfold less1
      rw [r1, r2, List.set_set]
      have l : Si18.lam (b.set k y) k i = Si18.lead b y i := by
        unfold Si18.lam
        rw [r1]
        exact lead_congr fun a ha => by rw [getD_set hk, if_neg (by omega)]
      have v : Si18.vol (b.set k y) (i + 1) = Si18.vol b (i + 1) := vol_congr fun a ha => by rw [getD_set hk, if_neg (by omega)]
      rw [l, v]
    rw [s]
    exact lessened_rest hk i (by omega) _
theorem set_self {b : List (List Int)} {k : Nat} (hk : k < b.length) : b.set k (b.getD k []) = b := by
  rw [List.getD_eq_getElem?_getD, List.getElem?_eq_getElem hk]
  exact List.set_getElem_self hk
theorem shrunk_rest {b : List (List Int)} {k : Nat} (hk : k < b.length) : Si18.shrunk b k = b.set k (Si18.rest b k (b.getD k [])) := by
  rw [shrunk_eq, ← lessened_rest hk k (Nat.le_refl k), set_self hk]
/-! ### How great a row may grow while it is lessened -/
theorem Inv.vol_big {n k : Nat} {A : Int} {b : List (List Int)} (hn : n ≤ 5) (hA : 0 < A) (hA' : A ≤ 5000000) (h : Inv n A k b) (j : Nat) (hj : j ≤ n) : gd n (fam b) j ≤ 2 ^ 115 := by
  have a := Int.le_trans (h.vol_le hA j hj) (pow_le (by omega) hA' j)
  have : (5000000 : Int) ^ j ≤ 2 ^ 115 := by
    match j, Nat.le_trans hj hn with
    | 0, _ | 1, _ | 2, _ | 3, _ | 4, _ | 5, _ => decide +kernel
  omega
theorem gg_cauchy {n l : Nat} {B : Nat → Vec} (y : Vec) : gg n B l (B l) y * gg n B l (B l) y ≤ gd n B l * gd n B (l + 1) * dp n y y := by
  obtain ⟨w, hw⟩ := wv_ex n B l (B l)
  have c := dp_cauchy n w y
  have e := hw.prod hw
  rw [← gd_succ] at e
  rw [hw.val, ← e]; exact c
theorem abs_ediv {q D L : Int} (hD : 0 < D) (h : -D ≤ 2 * (L - q * D)) (g : 2 * (L - q * D) ≤ D) : q * q ≤ 2 * (L * L) + 2 := by
  -- the size of q is at most that of L, and one more
  have a1 : q ≤ L.natAbs + 1 := by
    rcases Int.lt_or_le (L.natAbs + 1 : Int) q with z | z
    · exfalso
      have : (L.natAbs + 2 : Int) * D ≤ q * D := Int.mul_le_mul_of_nonneg_right (by omega) (by omega)
      have e : ((L.natAbs : Int) + 2) * D = L.natAbs * D + 2 * D := by grind
      have l : (L.natAbs : Int) * 1 ≤ L.natAbs * D := Int.mul_le_mul_of_nonneg_left (by omega) (by omega)
      omega
    · exact z
  have a2 : -(L.natAbs + 1 : Int) ≤ q := by
    rcases Int.lt_or_le q (-(L.natAbs + 1 : Int)) with z | z
    · exfalso
      have : q * D ≤ -(L.natAbs + 2 : Int) * D := Int.mul_le_mul_of_nonneg_right (by omega) (by omega)
      have e : -((L.natAbs : Int) + 2) * D = -(L.natAbs * D) - 2 * D := by grind
      have l : (L.natAbs : Int) * 1 ≤ L.natAbs * D := Int.mul_le_mul_of_nonneg_left (by omega) (by omega)
      omega
    · exact z
  have s := abs_sq a2 a1
  have e : ((L.natAbs : Int) + 1) * (L.natAbs + 1) = L.natAbs * L.natAbs + 2 * L.natAbs + 1 := by grind
  have e2 : (L.natAbs : Int) * L.natAbs = L * L := by
    have := Int.natAbs_mul_self (a := L)
    rw [← this]; exact (Int.natCast_mul _ _).symm
  have e3 := sq_nonneg ((L.natAbs : Int) - 1)
  have e4 : ((L.natAbs : Int) - 1) * (L.natAbs - 1) = L.natAbs * L.natAbs - 2 * L.natAbs + 1 := by grind
  omega
theorem pow2_le {s t : Nat} (h : s ≤ t) : (2 : Int) ^ s ≤ 2 ^ t := by
  obtain ⟨d, rfl⟩ := Nat.exists_eq_add_of_le h
  have p := Int.pow_pos (n := 2) (m := s) (by decide)
  have q := Int.pow_pos (n := 2) (m := d) (by decide)
  have := Int.mul_le_mul_of_nonneg_left (show (1 : Int) ≤ 2 ^ d by omega) (Int.le_of_lt p)
  rw [Int.pow_add]; omega
theorem nearest_big {L D : Int} {a : Nat} (hD : 0 < D) (h : L.natAbs < 2 ^ a) : (Si18.nearest L D).natAbs < 2 ^ (a + 3) := by
  obtain ⟨s1, s2⟩ := nearest_spec (x := L) hD
  have q := abs_ediv hD s1 s2
  refine abs_lt_of_sq (Int.lt_of_le_of_lt q ?_)
  have m := mul_self_lt h
  have e : ((2 ^ (a + 3) : Nat) : Int) * ((2 ^ (a + 3) : Nat) : Int) = 64 * 2 ^ (2 * a) := by
    rw [← Int.natCast_mul, ← Nat.pow_add, show a + 3 + (a + 3) = 2 * a + 6 by omega, Nat.pow_add, Int.natCast_mul]
    have : ((2 ^ (2 * a) : Nat) : Int) = 2 ^ (2 * a) := by exact_mod_cast rfl
    rw [this, Int.mul_comm]; rfl
  rw [e]
  have : (0 : Int) < 2 ^ (2 * a) := Int.pow_pos (by decide)
  omega
theorem less_big {n k l s : Nat} {A : Int} {b : List (List Int)} {y : Vec} (hn : n ≤ 5) (hA : 0 < A) (hA' : A ≤ 5000000) (h : Inv n A k b) (hl : l < n) (hs : 24 ≤ s) (hy : dp n y y < 2 ^ s) :
    dp n (fun i => y i - Si18.nearest (gg n (fam b) l (fam b l) y) (gd n (fam b) (l + 1)) * fam b l i) (fun i => y i - Si18.nearest (gg n (fam b) l (fam b l) y) (gd n (fam b) (l + 1)) * fam b l i) < 2 ^ (s + 258) := by
  have p1 := h.pos (l + 1) (by omega)
  have p0 := h.pos l (by omega)
  have q := nearest_spec (x := gg n (fam b) l (fam b l) y) p1
  have c := gg_cauchy (n := n) (B := fam b) (l := l) y
  have v0 := h.vol_big hn hA hA' l (by omega)
  have v1 := h.vol_big hn hA hA' (l + 1) (by omega)
  have r := h.sq l hl
  generalize Si18.nearest (gg n (fam b) l (fam b l) y) (gd n (fam b) (l + 1)) = t at *
  have qq := abs_ediv p1 q.1 q.2
  have y0 := dp_nonneg n y
  have b0 := dp_nonneg n (fam b l)
  have d2 : gd n (fam b) l * gd n (fam b) (l + 1) ≤ 2 ^ 115 * 2 ^ 115 := Int.mul_le_mul v0 v1 (by omega) (by omega)
  have d3 := Int.mul_le_mul_of_nonneg_right d2 y0
  have t2 : t * t ≤ 2 * (2 ^ 115 * 2 ^ 115 * dp n y y) + 2 := by omega
  have t0 := sq_nonneg t
  have u : t * t * dp n (fam b l) (fam b l) ≤ (2 * (2 ^ 115 * 2 ^ 115 * dp n y y) + 2) * 2 ^ 24 := Int.mul_le_mul t2 (by omega) b0 (by omega)
  have nn := dp_nonneg n (fun i => y i + t * fam b l i)
  have e : dp n (fun i => y i - t * fam b l i) (fun i => y i - t * fam b l i) + dp n (fun i => y i + t * fam b l i) (fun i => y i + t * fam b l i) = 2 * dp n y y + 2 * (t * t * dp n (fam b l) (fam b l)) := by
    unfold dp
    rw [← sg_add, ← sg_mul, ← sg_mul, ← sg_mul, ← sg_add]
    exact sg_congr fun i _ => by grind
  have pw : (2 : Int) ^ (s + 258) = 2 ^ 258 * 2 ^ s := by rw [Int.pow_add, Int.mul_comm]
  have p24 : (2 : Int) ^ 24 ≤ 2 ^ s := by
    obtain ⟨d, rfl⟩ := Nat.exists_eq_add_of_le hs
    have : (0 : Int) < 2 ^ d := Int.pow_pos (by decide)
    rw [Int.pow_add]; omega
  rw [pw]
  generalize (2 : Int) ^ s = S at *
  omega
theorem big_of_sq {n a : Nat} {y : List Int} (hy : y.length = n) (h : dp n (vec y) (vec y) < 2 ^ (2 * a)) : BigR a y := fun x hx => by
  obtain ⟨i, hi, rfl⟩ := List.getElem_of_mem hx
  have g : vec y i = y[i] := by unfold vec; rw [List.getD_eq_getElem?_getD, List.getElem?_eq_getElem hi]; rfl
  have e := entry_sq (n := n) (x := vec y) (i := i) (by omega)
  rw [g] at e
  refine abs_lt_of_sq (Int.lt_of_le_of_lt e ?_)
  have : ((2 ^ a : Nat) : Int) * ((2 ^ a : Nat) : Int) = 2 ^ (2 * a) := by
    rw [← Int.natCast_mul, ← Nat.pow_add, ← Nat.two_mul]; exact_mod_cast rfl
  rw [this]; exact h
theorem Inv.lpre {n k : Nat} {A : Int} {b : List (List Int)} (hn : n ≤ 5) (hA' : A ≤ 5000000) (h : Inv n A k b) {a : Nat} (h1 : 12 ≤ a) (h2 : a ≤ 700) : LPre n b a where
  hn := hn
  len := by rw [h.sh.len]; exact hn
  wide := h.sh.row
  big := fun r hr x hx => abs_mono (h.big hA' r hr x hx) h1
  ha := h2
  pos := fun j hj => h.pos j (by rw [h.sh.len] at hj; exact hj)
theorem run_pos {n m k : Nat} {b c : List (List Int)} (h : Si18.run n m k b = some c) : ∃ f, m = f + 1 := by
  cases m with
  | zero => cases h
  | succ f => exact ⟨f, rfl⟩
theorem run_done {n f k : Nat} {b c : List (List Int)} (hk : n ≤ k) (h : Si18.run n (f + 1) k b = some c) : b = c := by
  unfold Si18.run at h
  rw [if_pos hk] at h
  exact Option.some.inj h
theorem run_turn {n f k : Nat} {b c : List (List Int)} (hk : k < n) (h : Si18.run n (f + 1) k b = some c) :
    (Si18.holds (Si18.shrunk b k) k = true → Si18.run n f (k + 1) (Si18.shrunk b k) = some c) ∧ (Si18.holds (Si18.shrunk b k) k = false → Si18.run n f (max 1 (k - 1)) (Si18.swapped (Si18.shrunk b k) k) = some c) := by
  unfold Si18.run at h
  rw [if_neg (by omega)] at h
  constructor
  · intro o
    have h : (if Si18.holds (Si18.shrunk b k) k = true then Si18.run n f (k + 1) (Si18.shrunk b k) else Si18.run n f (max 1 (k - 1)) (Si18.swapped (Si18.shrunk b k) k)) = some c := h
    rw [if_pos o] at h; exact h
  · intro o
    have h : (if Si18.holds (Si18.shrunk b k) k = true then Si18.run n f (k + 1) (Si18.shrunk b k) else Si18.run n f (max 1 (k - 1)) (Si18.swapped (Si18.shrunk b k) k)) = some c := h
    rw [if_neg (by rw [o]; decide)] at h; exact h
end Mx

/-! The points that the program gathers. -/
namespace Mx
/-! ### The whole root -/
def isq (z : Int) : Int := ((Si18.rootIn z.toNat (z.toNat + 2) 0 (z.toNat + 2) : Nat) : Int)
theorem isq_nonneg (z : Int) : 0 ≤ isq z := Int.natCast_nonneg _
theorem isq_spec {z : Int} (h : 0 ≤ z) : isq z * isq z ≤ z ∧ z < (isq z + 1) * (isq z + 1) := by
  have s := rootIn_spec z.toNat (z.toNat + 2) 0 (z.toNat + 2) (by omega) (by
    have : (z.toNat + 2) * (z.toNat + 2) = z.toNat * z.toNat + 4 * z.toNat + 4 := by grind
    omega) (by have := Nat.lt_two_pow_self (n := z.toNat + 2); omega)
  unfold isq
  generalize Si18.rootIn z.toNat (z.toNat + 2) 0 (z.toNat + 2) = r at *
  obtain ⟨s1, s2⟩ := s
  have e : ((z.toNat : Nat) : Int) = z := Int.toNat_of_nonneg h
  constructor
  · rw [← e]; exact_mod_cast s1
  · rw [← e]; exact_mod_cast s2
theorem sq_lt_iff {x y : Int} (hx : 0 ≤ x) (hy : 0 ≤ y) : x * x < y * y ↔ x < y := by
  constructor
  · intro h
    rcases Int.lt_or_le x y with q | q
    · exact q
    · have := Int.mul_le_mul q q hy hx; omega
  · intro h
    have a := Int.mul_lt_mul_of_pos_left h (show 0 < y by omega)
    have b := Int.mul_le_mul_of_nonneg_left (Int.le_of_lt h) hx
    rw [Int.mul_comm y x] at a; omega
theorem isq_uniq {z r : Int} (h0 : 0 ≤ r) (h1 : r * r ≤ z) (h2 : z < (r + 1) * (r + 1)) : r = isq z := by
  have z0 : 0 ≤ z := Int.le_trans (sq_nonneg r) h1
  obtain ⟨s1, s2⟩ := isq_spec z0
  have n := isq_nonneg z
  have a := (sq_lt_iff h0 (show 0 ≤ isq z + 1 by omega)).1 (by omega)
  have b := (sq_lt_iff n (show 0 ≤ r + 1 by omega)).1 (by omega)
  omega
theorem isq_iff {z x : Int} (h : 0 ≤ z) : x * x ≤ z ↔ -(isq z) ≤ x ∧ x ≤ isq z := by
  obtain ⟨s1, s2⟩ := isq_spec h
  have n := isq_nonneg z
  constructor
  · intro hx
    have e : ((x.natAbs : Nat) : Int) * x.natAbs = x * x := by rw [← Int.natCast_mul, Int.natAbs_mul_self]
    have := (sq_lt_iff (show (0 : Int) ≤ x.natAbs by omega) (show 0 ≤ isq z + 1 by omega)).1 (by omega)
    omega
  · rintro ⟨a, b⟩
    have := abs_sq a b
    omega
/-! ### Along one row -/
/-- A point and a multiple of the row p. -/
def addRow (bs : List (List Int)) (p : Nat) (x : List Int) (t : Int) : List Int := Si18.plus x (Si18.times t (Si18.row bs p))
def least (n : Nat) (bs : List (List Int)) (p : Nat) (bound : Int) (x : List Int) : Int :=
  -((isq (gd n (fam bs) p * (bound * gd n (fam bs) (p + 1) - gg n (fam bs) (p + 1) (vec x) (vec x))) + gg n (fam bs) p (fam bs p) (vec x)) / gd n (fam bs) (p + 1))
def most (n : Nat) (bs : List (List Int)) (p : Nat) (bound : Int) (x : List Int) : Int :=
  (isq (gd n (fam bs) p * (bound * gd n (fam bs) (p + 1) - gg n (fam bs) (p + 1) (vec x) (vec x))) - gg n (fam bs) p (fam bs p) (vec x)) / gd n (fam bs) (p + 1)
def mv (n : Nat) (bs : List (List Int)) (p : Nat) (bound : Int) (x : List Int) : List (List Int) :=
  (List.range (most n bs p bound x + 1 - least n bs p bound x).toNat).map fun i => addRow bs p x (least n bs p bound x + (i : Nat))
structure PB (n : Nat) (bs : List (List Int)) : Prop where
  sh : Sh n bs
  det : Si18.det n bs ≠ 0
  pos : ∀ j, j ≤ n → 0 < gd n (fam bs) j
theorem Inv.pb {n k : Nat} {A : Int} {b : List (List Int)} (h : Inv n A k b) : PB n b := ⟨h.sh, h.det, h.pos⟩
theorem addRow_length {n p : Nat} {bs : List (List Int)} (h : PB n bs) (hp : p < n) {x : List Int} (hx : x.length = n) (t : Int) : (addRow bs p x t).length = n := by
  unfold addRow
  rw [plus_length (by rw [times_length, row_at, h.sh.at hp, hx]), hx]
theorem addRow_vec {n p : Nat} {bs : List (List Int)} (h : PB n bs) (hp : p < n) {x : List Int} (hx : x.length = n) (t : Int) : vec (addRow bs p x t) = fun i => vec x i + t * fam bs p i := by
  funext i
  unfold addRow
  rw [vec_plus (by rw [times_length, row_at, h.sh.at hp, hx]), vec_times]; rfl
/-- What of a point's square the rows ahead can't undo. -/
theorem gg_both {n j : Nat} {B : Nat → Vec} {x y : Vec} (p : gd n B j ≠ 0) (h : Sp B j fun i => y i - x i) : gg n B j y y = gg n B j x x := by
  rw [gg_spr h, gg_comm p, gg_spr h]
theorem mv_mem {n p : Nat} {bs : List (List Int)} (h : PB n bs) (hp : p < n) {bound : Int} {x : List Int} (hx : x.length = n) (hb : gg n (fam bs) (p + 1) (vec x) (vec x) ≤ bound * gd n (fam bs) (p + 1)) {y : List Int} :
    y ∈ mv n bs p bound x ↔ ∃ t : Int, y = addRow bs p x t ∧ gg n (fam bs) p (vec y) (vec y) ≤ bound * gd n (fam bs) p := by
  have p0 := h.pos p (by omega)
  have p1 := h.pos (p + 1) (by omega)
  have R0 : 0 ≤ gd n (fam bs) p * (bound * gd n (fam bs) (p + 1) - gg n (fam bs) (p + 1) (vec x) (vec x)) := Int.mul_nonneg (by omega) (by omega)
  have key : ∀ t, gg n (fam bs) p (vec (addRow bs p x t)) (vec (addRow bs p x t)) ≤ bound * gd n (fam bs) p ↔ least n bs p bound x ≤ t ∧ t ≤ most n bs p bound x := fun t => by
    have s := gg_step (n := n) (l := p) (B := fam bs) (vec (addRow bs p x t)) (vec (addRow bs p x t)) (Int.ne_of_gt p0)
    have e1 : gg n (fam bs) (p + 1) (vec (addRow bs p x t)) (vec (addRow bs p x t)) = gg n (fam bs) (p + 1) (vec x) (vec x) := gg_both (Int.ne_of_gt p1) (by
      rw [addRow_vec h hp hx]
      exact ((Sp.mem (a := p) (by omega)).mul t).of_eq fun i => by grind)
    have e2 : gg n (fam bs) p (fam bs p) (vec (addRow bs p x t)) = gg n (fam bs) p (fam bs p) (vec x) + t * gd n (fam bs) (p + 1) := by
      rw [addRow_vec h hp hx, gg_addr, gg_mulr, ← gd_succ]
    rw [e1, e2] at s
    have i := isq_iff (x := gg n (fam bs) p (fam bs p) (vec x) + t * gd n (fam bs) (p + 1)) R0
    unfold least most
    generalize isq (gd n (fam bs) p * (bound * gd n (fam bs) (p + 1) - gg n (fam bs) (p + 1) (vec x) (vec x))) = r at *
    generalize gg n (fam bs) (p + 1) (vec x) (vec x) = N at *
    generalize gg n (fam bs) p (fam bs p) (vec x) = L at *
    generalize gg n (fam bs) p (vec (addRow bs p x t)) (vec (addRow bs p x t)) = M at *
    generalize gd n (fam bs) p = D at *
    generalize gd n (fam bs) (p + 1) = F at *
    have c1 : M ≤ bound * D ↔ (L + t * F) * (L + t * F) ≤ D * (bound * F - N) := by
      have u : D * (bound * F - N) = F * (bound * D) - D * N := by grind
      have v : (L + t * F) * (L + t * F) = F * M - D * N := by omega
      rw [u, v]
      constructor
      · intro q
        have := Int.mul_le_mul_of_nonneg_left q (Int.le_of_lt p1)
        omega
      · intro q
        exact Int.le_of_mul_le_mul_left (show F * M ≤ F * (bound * D) by omega) p1
    rw [c1, i]
    have c2 : t ≤ (r - L) / F ↔ L + t * F ≤ r := by
      rw [Int.le_ediv_iff_mul_le p1]; omega
    have c3 : -((r + L) / F) ≤ t ↔ -r ≤ L + t * F := by
      have : -t ≤ (r + L) / F ↔ -t * F ≤ r + L := Int.le_ediv_iff_mul_le p1
      have e : -t * F = -(t * F) := Int.neg_mul _ _
      omega
    rw [c2, c3]
  unfold mv
  rw [List.mem_map]
  constructor
  · rintro ⟨i, hi, rfl⟩
    have hi := List.mem_range.1 hi
    exact ⟨_, rfl, (key _).2 ⟨by omega, by omega⟩⟩
  · rintro ⟨t, rfl, ht⟩
    obtain ⟨a, b⟩ := (key t).1 ht
    exact ⟨(t - least n bs p bound x).toNat, List.mem_range.2 (by omega), by congr 1; omega⟩
/-! ### Along all rows ahead -/
def pa (n : Nat) (bs : List (List Int)) (bound : Int) : Nat → List (List Int) → List (List Int)
  | 0, pts => pts
  | p + 1, pts => pa n bs bound p (pts.flatMap (mv n bs p bound))
/-- Points of n numbers whose part at right angles to the first p rows is within the bound. -/
def Lv (n : Nat) (bs : List (List Int)) (bound : Int) (p : Nat) (pts : List (List Int)) : Prop := ∀ x, x ∈ pts → x.length = n ∧ gg n (fam bs) p (vec x) (vec x) ≤ bound * gd n (fam bs) p
theorem lv_step {n p : Nat} {bs : List (List Int)} (h : PB n bs) (hp : p < n) {bound : Int} {pts : List (List Int)} (l : Lv n bs bound (p + 1) pts) : Lv n bs bound p (pts.flatMap (mv n bs p bound)) := fun y hy => by
  obtain ⟨x, hx, hy⟩ := List.mem_flatMap.1 hy
  obtain ⟨l1, l2⟩ := l x hx
  obtain ⟨t, rfl, g⟩ := (mv_mem h hp l1 l2).1 hy
  exact ⟨addRow_length h hp l1 t, g⟩
theorem pa_mem {n : Nat} {bs : List (List Int)} (h : PB n bs) {bound : Int} : ∀ {p : Nat} {pts : List (List Int)}, p ≤ n → Lv n bs bound p pts → ∀ {y : List Int},
    (y ∈ pa n bs bound p pts ↔ ∃ x, x ∈ pts ∧ y.length = n ∧ Sp (fam bs) p (fun i => vec y i - vec x i) ∧ dp n (vec y) (vec y) ≤ bound)
  | 0, pts, _, l, y => by
    show y ∈ pts ↔ _
    constructor
    · intro hy
      obtain ⟨a, b⟩ := l y hy
      rw [gg_zero, gd_zero] at b
      exact ⟨y, hy, a, (Sp.zero _ _).of_eq fun i => by omega, by omega⟩
    · rintro ⟨x, hx, hl, ⟨c, hc⟩, _⟩
      have : y = x := vec_ext' (by rw [hl, (l x hx).1]) fun i => by have := hc i; simp [sg] at this; omega
      rw [this]; exact hx
  | p + 1, pts, hp, l, y => by
    show y ∈ pa n bs bound p (pts.flatMap (mv n bs p bound)) ↔ _
    rw [pa_mem h (by omega) (lv_step h (by omega) l)]
    constructor
    · rintro ⟨z, hz, hl, s, d⟩
      obtain ⟨x, hx, hz⟩ := List.mem_flatMap.1 hz
      obtain ⟨l1, l2⟩ := l x hx
      obtain ⟨t, rfl, g⟩ := (mv_mem h (by omega) l1 l2).1 hz
      refine ⟨x, hx, hl, ((s.mono (by omega)).add ((Sp.mem (a := p) (by omega)).mul t)).of_eq fun i => ?_, d⟩
      rw [addRow_vec h (by omega) l1]; grind
    · rintro ⟨x, hx, hl, ⟨c, hc⟩, d⟩
      obtain ⟨l1, l2⟩ := l x hx
      have s : Sp (fam bs) p fun i => vec y i - vec (addRow bs p x (c p)) i := ⟨c, fun i => by
        have q : vec y i - vec x i = sg (p + 1) fun a => c a * fam bs a i := hc i
        rw [addRow_vec h (by omega) l1]
        have e : sg (p + 1) (fun a => c a * fam bs a i) = sg p (fun a => c a * fam bs a i) + c p * fam bs p i := rfl
        show vec y i - (vec x i + c p * fam bs p i) = _
        omega⟩
      refine ⟨addRow bs p x (c p), List.mem_flatMap.2 ⟨x, hx, (mv_mem h (by omega) l1 l2).2 ⟨c p, rfl, ?_⟩⟩, hl, s, d⟩
      rw [← gg_both (Int.ne_of_gt (h.pos p (by omega))) s]
      have a := gg_le (n := n) (B := fam bs) (y := vec y) (l := p) fun j hj => h.pos j (by omega)
      have b := Int.mul_le_mul_of_nonneg_left d (Int.le_of_lt (h.pos p (by omega)))
      rw [Int.mul_comm] at b
      rw [Int.mul_comm bound]
      rw [Int.mul_comm] at b
      omega
/-! ### Each once -/
def Sep (bs : List (List Int)) (p : Nat) (pts : List (List Int)) : Prop := ∀ x, x ∈ pts → ∀ y, y ∈ pts → Sp (fam bs) p (fun i => vec x i - vec y i) → x = y
theorem ind_sp {n p : Nat} {bs : List (List Int)} (h : PB n bs) (hp : p < n) {t : Int} (s : Sp (fam bs) p fun i => t * fam bs p i) : t = 0 := by
  have e := gg_sp (n := n) (y := fam bs p) s
  rw [gg_mulr, ← gd_succ] at e
  exact (Int.mul_eq_zero.1 e).resolve_right (Int.ne_of_gt (h.pos (p + 1) (by omega)))
theorem sep_step {n p : Nat} {bs : List (List Int)} (h : PB n bs) (hp : p < n) {bound : Int} {pts : List (List Int)} (l : Lv n bs bound (p + 1) pts) (d : pts.Nodup) (s : Sep bs (p + 1) pts) :
    (pts.flatMap (mv n bs p bound)).Nodup ∧ Sep bs p (pts.flatMap (mv n bs p bound)) := by
  have key : ∀ x, x ∈ pts → ∀ x', x' ∈ pts → ∀ t t' : Int, Sp (fam bs) p (fun i => vec (addRow bs p x t) i - vec (addRow bs p x' t') i) → x = x' ∧ t = t' := fun x hx x' hx' t t' q => by
    rw [addRow_vec h hp (l x hx).1, addRow_vec h hp (l x' hx').1] at q
    have e : x = x' := s x hx x' hx' (((q.mono (by omega)).add ((Sp.mem (a := p) (by omega)).mul (t' - t))).of_eq fun i => by grind)
    subst e
    have := ind_sp h hp (t := t - t') (q.of_eq fun i => by grind)
    exact ⟨rfl, by omega⟩
  have z : ∀ x : List Int, Sp (fam bs) p fun i => vec x i - vec x i := fun x => (Sp.zero _ _).of_eq fun i => by omega
  refine ⟨nodup_flatMap (fun x hx => nodup_map (fun i _ j _ e => ?_) List.nodup_range) (fun x hx x' hx' y hy hy' => ?_) d, fun y hy y' hy' q => ?_⟩
  · have e : addRow bs p x (least n bs p bound x + (i : Nat)) = addRow bs p x (least n bs p bound x + (j : Nat)) := e
    have := (key x hx x hx (least n bs p bound x + (i : Nat)) (least n bs p bound x + (j : Nat)) (by rw [e]; exact z _)).2
    omega
  · obtain ⟨t, rfl, _⟩ := (mv_mem h hp (l x hx).1 (l x hx).2).1 hy
    obtain ⟨t', e, _⟩ := (mv_mem h hp (l x' hx').1 (l x' hx').2).1 hy'
    exact (key x hx x' hx' t t' (by rw [e]; exact z _)).1
  · obtain ⟨x, hx, hy⟩ := List.mem_flatMap.1 hy
    obtain ⟨x', hx', hy'⟩ := List.mem_flatMap.1 hy'
    obtain ⟨t, rfl, _⟩ := (mv_mem h hp (l x hx).1 (l x hx).2).1 hy
    obtain ⟨t', rfl, _⟩ := (mv_mem h hp (l x' hx').1 (l x' hx').2).1 hy'
    obtain ⟨e1, e2⟩ := key x hx x' hx' t t' q
    rw [e1, e2]
theorem pa_nodup {n : Nat} {bs : List (List Int)} (h : PB n bs) {bound : Int} : ∀ {p : Nat} {pts : List (List Int)}, p ≤ n → Lv n bs bound p pts → pts.Nodup → Sep bs p pts → (pa n bs bound p pts).Nodup
  | 0, _, _, _, d, _ => d
  | p + 1, pts, hp, l, d, s => by
    obtain ⟨s1, s2⟩ := sep_step h (by omega) l d s
    exact pa_nodup (p := p) h (by omega) (lv_step h (by omega) l) s1 s2
/-! ### How many -/
theorem combos_length (R : Nat) : ∀ n : Nat, (Si18.combos (List.replicate n R)).length = (2 * R + 1) ^ n
  | 0 => rfl
  | n + 1 => by
    show ((Si18.combos (List.replicate n R)).flatMap _).length = _
    rw [List.length_flatMap, Nat.pow_succ, ← combos_length R n]
    have : ((Si18.combos (List.replicate n R)).map fun c => ((List.range (2 * R + 1)).map fun (i : Nat) => ((i : Int) - (R : Int)) :: c).length) = (Si18.combos (List.replicate n R)).map fun _ => 2 * R + 1 := List.map_congr_left fun c _ => by simp
    rw [this]
    generalize Si18.combos (List.replicate n R) = l
    induction l with
    | nil => simp
    | cons a l ih => simp only [List.map_cons, List.sum_cons, ih, List.length_cons]; grind
theorem box_count {n R : Nat} {l : List (List Int)} (d : l.Nodup) (h : ∀ x, x ∈ l → x.length = n ∧ dp n (vec x) (vec x) < ((R : Int) + 1) * (R + 1)) : l.length ≤ (2 * R + 1) ^ n := by
  rw [← combos_length R n]
  refine d.length_le_of_subset fun x hx => ?_
  obtain ⟨h1, h2⟩ := h x hx
  refine combos_mem.2 ⟨by simp [h1], fun a ha => ?_⟩
  have ha : a < n := by simpa using ha
  have e : (List.replicate n R).getD a 0 = R := by
    rw [List.getD_eq_getElem?_getD, List.getElem?_replicate, if_pos ha]; rfl
  rw [e]
  have q := entry_sq (n := n) (x := vec x) ha
  have : (vec x a).natAbs < R + 1 := abs_lt_of_sq (by
    have := Int.lt_of_le_of_lt q h2
    exact_mod_cast this)
  exact Nat.le_of_lt_succ this
theorem lv_count {n p R : Nat} {A bound : Int} {bs : List (List Int)} (h : PB n bs) (hp : p ≤ n) (hA : 0 ≤ A) (r : ∀ j, j < n → gd n (fam bs) (j + 1) ≤ A * gd n (fam bs) j) (hb : bound ≤ A) (hR : A * (4 + p) < 4 * (((R : Int) + 1) * (R + 1))) {pts : List (List Int)} (l : Lv n bs bound p pts) (d : pts.Nodup) (s : Sep bs p pts) : pts.length ≤ (2 * R + 1) ^ n := by
  -- each point is brought near by the rows ahead
  have H : ∀ x, x ∈ pts → (Si18.rest bs p x).length = n ∧ Sp (fam bs) p (fun a => vec x a - vec (Si18.rest bs p x) a) ∧ ∀ j, j < p → Fit n (fam bs) j (vec (Si18.rest bs p x)) := fun x hx => by
    have G : ∀ (i : Nat) (t : List Int), i ≤ p → t.length = n → (∀ j, i ≤ j → j < p → Fit n (fam bs) j (vec t)) →
        (Si18.rest bs i t).length = n ∧ Sp (fam bs) p (fun a => vec t a - vec (Si18.rest bs i t) a) ∧ ∀ j, j < p → Fit n (fam bs) j (vec (Si18.rest bs i t)) := fun i => by
      induction i with
      | zero => exact fun t _ ht f => ⟨ht, (Sp.zero _ p).of_eq fun a => by show vec t a - vec t a = 0; omega, fun j hj => f j (by omega) hj⟩
      | succ i ih =>
        intro t hi ht f
        have hq := nearest_spec (x := Si18.lead bs t i) (y := Si18.vol bs (i + 1)) (by rw [vol_gd h.sh.wide]; exact h.pos _ (by omega))
        generalize e : Si18.nearest (Si18.lead bs t i) (Si18.vol bs (i + 1)) = q at *
        have hr : Si18.rest bs (i + 1) t = Si18.rest bs i (addRow bs i t (-q)) := by rw [← e]; rfl
        have l1 := addRow_length h (show i < n by omega) ht (-q)
        have v := addRow_vec h (show i < n by omega) ht (-q)
        rw [hr]
        obtain ⟨a1, a2, a3⟩ := ih (addRow bs i t (-q)) (by omega) l1 fun j h1 h2 => by
          unfold Fit
          rw [v, gg_addr, gg_mulr]
          by_cases e : j = i
          · subst e
            rw [vol_gd h.sh.wide, lead_gg h.sh.wide (by omega)] at hq
            rw [← gd_succ]
            have : -q * gd n (fam bs) (j + 1) = -(q * gd n (fam bs) (j + 1)) := Int.neg_mul _ _
            omega
          · rw [gg_lower (show i < j by omega), Int.mul_zero, Int.add_zero]
            exact f j (by omega) h2
        refine ⟨a1, ?_, a3⟩
        refine (a2.add ((Sp.mem (a := i) (by omega)).mul q)).of_eq fun a => ?_
        show vec t a - _ = vec (addRow bs i t (-q)) a - _ + q * fam bs i a
        rw [v]; grind
    exact G p x (Nat.le_refl p) (l x hx).1 fun j h1 h2 => by omega
  rw [← List.length_map (f := Si18.rest bs p)]
  refine box_count (nodup_map (fun x hx y hy e => ?_) d) fun z hz => ?_
  · have a := (H x hx).2.1
    have b := (H y hy).2.1
    rw [e] at a
    exact s x hx y hy ((a.sub b).of_eq fun i => by omega)
  · obtain ⟨x, hx, rfl⟩ := List.mem_map.1 hz
    obtain ⟨a1, a2, a3⟩ := H x hx
    refine ⟨a1, ?_⟩
    have g : gg n (fam bs) p (vec (Si18.rest bs p x)) (vec (Si18.rest bs p x)) ≤ A * gd n (fam bs) p := by
      rw [← gg_both (Int.ne_of_gt (h.pos p hp)) a2]
      have := Int.mul_le_mul_of_nonneg_right hb (Int.le_of_lt (h.pos p hp))
      have := (l x hx).2
      omega
    have f := fit_sq hA (m := p) (fun j hj => h.pos j (by omega)) (fun j hj => r j (by omega)) g a3 p 0 (by omega)
    rw [gg_zero, gd_zero, Int.mul_one] at f
    omega
end Mx

/-! All that the program gathers; that it's enough. -/
namespace Mx
open Si18 (square)
/-- The greatest square of the first k rows; 0 of none. -/
def bnd (bs : List (List Int)) : Nat → Int
  | 0 => 0
  | k + 1 => max (bnd bs k) (square (bs.getD k []))
def tmul (t : Int) (x : List Int) : List Int := x.map fun a => t * a
def chunk (n : Nat) (bs : List (List Int)) (k t : Nat) : List (List Int) := pa n bs (bnd bs (k + 1)) k [tmul ((t : Int) + 1) (bs.getD k [])]
def tmax (n : Nat) (bs : List (List Int)) (k : Nat) : Nat := (isq (bnd bs (k + 1) * gd n (fam bs) k / gd n (fam bs) (k + 1))).toNat
def at_ (n : Nat) (bs : List (List Int)) (k t : Nat) : List (List Int) := (List.range t).flatMap (chunk n bs k)
def all_ (n : Nat) (bs : List (List Int)) (k : Nat) : List (List Int) := (List.range k).flatMap fun k => at_ n bs k (tmax n bs k)
theorem bnd_le {bs : List (List Int)} : ∀ {k a : Nat}, a < k → square (bs.getD a []) ≤ bnd bs k
  | k + 1, a, h => by
    show _ ≤ max (bnd bs k) (square (bs.getD k []))
    by_cases e : a = k
    · subst e; omega
    · have := bnd_le (bs := bs) (k := k) (a := a) (by omega); omega
theorem bnd_nonneg (bs : List (List Int)) : ∀ k, 0 ≤ bnd bs k
  | 0 => Int.le_refl 0
  | k + 1 => by have := bnd_nonneg bs k; show 0 ≤ max (bnd bs k) _; omega
theorem bnd_up {bs : List (List Int)} {A : Int} (hA : 0 ≤ A) : ∀ {k : Nat}, (∀ a, a < k → square (bs.getD a []) ≤ A) → bnd bs k ≤ A
  | 0, _ => hA
  | k + 1, h => by
    have a := bnd_up hA (k := k) fun a ha => h a (by omega)
    have b := h k (by omega)
    show max (bnd bs k) _ ≤ A
    omega
theorem tmul_length (t : Int) (x : List Int) : (tmul t x).length = x.length := by unfold tmul; simp
theorem vec_tmul (t : Int) (x : List Int) (i : Nat) : vec (tmul t x) i = t * vec x i := vec_times t x i
theorem PB.at_sq {n a : Nat} {bs : List (List Int)} (h : PB n bs) (ha : a < n) : square (bs.getD a []) = dp n (fam bs a) (fam bs a) := square_dp (h.sh.at ha)
/-- How often a row may be taken. -/
theorem tmax_iff {n k : Nat} {bs : List (List Int)} (h : PB n bs) (hk : k < n) {t : Nat} : t ≤ tmax n bs k ↔ ((t : Int) * t) * gd n (fam bs) (k + 1) ≤ bnd bs (k + 1) * gd n (fam bs) k := by
  have p0 := h.pos k (by omega)
  have p1 := h.pos (k + 1) (by omega)
  have b0 := bnd_nonneg bs (k + 1)
  have q0 : 0 ≤ bnd bs (k + 1) * gd n (fam bs) k / gd n (fam bs) (k + 1) := Int.ediv_nonneg (Int.mul_nonneg b0 (by omega)) (by omega)
  have i := isq_iff (x := (t : Int)) q0
  have n0 := isq_nonneg (bnd bs (k + 1) * gd n (fam bs) k / gd n (fam bs) (k + 1))
  rw [Int.le_ediv_iff_mul_le p1] at i
  rw [i]
  unfold tmax
  omega
theorem chunk_lv {n k : Nat} {bs : List (List Int)} (h : PB n bs) (hk : k < n) {t : Nat} (ht : t < tmax n bs k) : Lv n bs (bnd bs (k + 1)) k [tmul ((t : Int) + 1) (bs.getD k [])] := fun x hx => by
  rw [List.mem_singleton] at hx
  subst hx
  refine ⟨by rw [tmul_length, h.sh.at hk], ?_⟩
  have e : gg n (fam bs) k (vec (tmul ((t : Int) + 1) (bs.getD k []))) (vec (tmul ((t : Int) + 1) (bs.getD k []))) = (((t + 1 : Nat) : Int) * ((t + 1 : Nat) : Int)) * gd n (fam bs) (k + 1) := by
    have v : vec (tmul ((t : Int) + 1) (bs.getD k [])) = fun i => ((t + 1 : Nat) : Int) * fam bs k i := by
      funext i; rw [vec_tmul]; rfl
    rw [v, gg_mulr, gg_comm (Int.ne_of_gt (h.pos k (by omega))), gg_mulr, ← gd_succ, Int.mul_assoc]
  rw [e]
  exact (tmax_iff h hk).1 ht
theorem sep_one (bs : List (List Int)) (p : Nat) (x : List Int) : Sep bs p [x] := fun y hy z hz _ => by
  rw [List.mem_singleton] at hy hz; rw [hy, hz]
theorem chunk_mem {n k : Nat} {bs : List (List Int)} (h : PB n bs) (hk : k < n) {t : Nat} (ht : t < tmax n bs k) {y : List Int} :
    y ∈ chunk n bs k t ↔ y.length = n ∧ Sp (fam bs) k (fun i => vec y i - ((t : Int) + 1) * fam bs k i) ∧ dp n (vec y) (vec y) ≤ bnd bs (k + 1) := by
  unfold chunk
  rw [pa_mem h (by omega) (chunk_lv h hk ht)]
  have v : ∀ i, vec (tmul ((t : Int) + 1) (bs.getD k [])) i = ((t : Int) + 1) * fam bs k i := fun i => vec_tmul _ _ i
  constructor
  · rintro ⟨x, hx, a, b, c⟩
    rw [List.mem_singleton] at hx
    subst hx
    exact ⟨a, b.of_eq fun i => by rw [v], c⟩
  · rintro ⟨a, b, c⟩
    exact ⟨_, List.mem_singleton.2 rfl, a, b.of_eq fun i => by rw [v], c⟩
theorem chunk_nodup {n k : Nat} {bs : List (List Int)} (h : PB n bs) (hk : k < n) {t : Nat} (ht : t < tmax n bs k) : (chunk n bs k t).Nodup :=
  pa_nodup h (by omega) (chunk_lv h hk ht) (by simp) (sep_one _ _ _)
/-- Which points these are. -/
theorem all_mem {n : Nat} {bs : List (List Int)} (h : PB n bs) {m : Nat} (hm : m ≤ n) {y : List Int} :
    y ∈ all_ n bs m ↔ ∃ k, k < m ∧ ∃ t : Int, 0 < t ∧ y.length = n ∧ Sp (fam bs) k (fun i => vec y i - t * fam bs k i) ∧ dp n (vec y) (vec y) ≤ bnd bs (k + 1) := by
  unfold all_
  rw [List.mem_flatMap]
  constructor
  · rintro ⟨k, hk, hy⟩
    have hk := List.mem_range.1 hk
    obtain ⟨t, ht, hy⟩ := List.mem_flatMap.1 hy
    have ht := List.mem_range.1 ht
    obtain ⟨a, b, c⟩ := (chunk_mem h (by omega) ht).1 hy
    exact ⟨k, hk, (t : Int) + 1, by omega, a, b, c⟩
  · rintro ⟨k, hk, t, t0, a, b, c⟩
    refine ⟨k, List.mem_range.2 hk, ?_⟩
    have et : (((t - 1).toNat : Nat) : Int) + 1 = t := by omega
    have ht : (t - 1).toNat < tmax n bs k := by
      refine (tmax_iff (t := (t - 1).toNat + 1) h (by omega)).2 ?_
      have e1 : (((t - 1).toNat + 1 : Nat) : Int) = t := by omega
      rw [e1]
      have g : gg n (fam bs) k (vec y) (vec y) = t * t * gd n (fam bs) (k + 1) := by
        rw [gg_both (x := fun i => t * fam bs k i) (Int.ne_of_gt (h.pos k (by omega))) b, gg_mulr, gg_comm (Int.ne_of_gt (h.pos k (by omega))), gg_mulr, ← gd_succ, Int.mul_assoc]
      rw [← g]
      have q := gg_le (n := n) (B := fam bs) (y := vec y) (l := k) fun j hj => h.pos j (by omega)
      have r := Int.mul_le_mul_of_nonneg_left c (Int.le_of_lt (h.pos k (by omega)))
      rw [Int.mul_comm (bnd bs (k + 1))]; omega
    exact List.mem_flatMap.2 ⟨(t - 1).toNat, List.mem_range.2 ht, (chunk_mem h (by omega) ht).2 ⟨a, by rw [et]; exact b, c⟩⟩
theorem at_nodup {n k t : Nat} {bs : List (List Int)} (h : PB n bs) (hk : k < n) (ht : t ≤ tmax n bs k) : (at_ n bs k t).Nodup := by
  refine nodup_flatMap (fun i hi => chunk_nodup h hk (by have := List.mem_range.1 hi; omega)) (fun i hi j hj y hy hy' => ?_) List.nodup_range
  have hi := List.mem_range.1 hi
  have hj := List.mem_range.1 hj
  have a := ((chunk_mem h hk (by omega)).1 hy).2.1
  have b := ((chunk_mem h hk (by omega)).1 hy').2.1
  have := ind_sp h hk (t := (i : Int) - j) ((b.sub a).of_eq fun i => by grind)
  omega
theorem at_mem {n k t : Nat} {bs : List (List Int)} (h : PB n bs) (hk : k < n) (ht : t ≤ tmax n bs k) {y : List Int} (hy : y ∈ at_ n bs k t) : ∃ t : Int, 0 < t ∧ y.length = n ∧ Sp (fam bs) k (fun i => vec y i - t * fam bs k i) ∧ dp n (vec y) (vec y) ≤ bnd bs (k + 1) := by
  obtain ⟨i, hi, hy⟩ := List.mem_flatMap.1 hy
  have hi := List.mem_range.1 hi
  obtain ⟨a, b, c⟩ := (chunk_mem h hk (by omega)).1 hy
  exact ⟨(i : Int) + 1, by omega, a, b, c⟩
/-- What is gathered so far: each point once. -/
theorem part_nodup {n k t : Nat} {bs : List (List Int)} (h : PB n bs) (hk : k ≤ n) (ht : k < n → t ≤ tmax n bs k) (h0 : ¬ k < n → t = 0) : (all_ n bs k ++ at_ n bs k t).Nodup := by
  have apart : ∀ k l : Nat, k < l → l < n → ∀ (s t : Int) (y : List Int), 0 < t → Sp (fam bs) k (fun i => vec y i - s * fam bs k i) → Sp (fam bs) l (fun i => vec y i - t * fam bs l i) → False := fun k l hkl hl s t y t0 a b => by
    have := ind_sp h hl (t := t) ((((a.mono (by omega)).add ((Sp.mem (a := k) hkl).mul s)).sub b).of_eq fun i => by grind)
    omega
  have all : ∀ m, m ≤ n → (all_ n bs m).Nodup := fun m hm => by
    refine nodup_flatMap (fun i hi => at_nodup h (by have := List.mem_range.1 hi; omega) (Nat.le_refl _)) (fun i hi j hj y hy hy' => ?_) List.nodup_range
    have hi := List.mem_range.1 hi
    have hj := List.mem_range.1 hj
    obtain ⟨s, s0, _, a, _⟩ := at_mem h (by omega) (Nat.le_refl _) hy
    obtain ⟨t, t0, _, b, _⟩ := at_mem h (by omega) (Nat.le_refl _) hy'
    rcases Nat.lt_trichotomy i j with q | q | q
    · exact (apart i j q (by omega) s t y t0 a b).elim
    · exact q
    · exact (apart j i q (by omega) t s y s0 b a).elim
  by_cases q : k < n
  · rw [List.nodup_append]
    refine ⟨all k hk, at_nodup h q (ht q), fun y hy z hz e => ?_⟩
    subst e
    obtain ⟨l, hl, s, s0, _, a, _⟩ := (all_mem h hk).1 hy
    obtain ⟨t, t0, _, b, _⟩ := at_mem h q (ht q) hz
    exact apart l k hl q s t y t0 a b
  · have : t = 0 := h0 q
    subst this
    show (all_ n bs k ++ []).Nodup
    rw [List.append_nil]; exact all k hk
theorem part_mem {n k t : Nat} {A : Int} {bs : List (List Int)} (h : PB n bs) (hA : 0 ≤ A) (sq : ∀ a, a < n → dp n (fam bs a) (fam bs a) ≤ A) (hk : k ≤ n) (ht : k < n → t ≤ tmax n bs k) (h0 : ¬ k < n → t = 0) {y : List Int} (hy : y ∈ all_ n bs k ++ at_ n bs k t) : y.length = n ∧ dp n (vec y) (vec y) ≤ A := by
  have up : ∀ m, m ≤ n → bnd bs m ≤ A := fun m hm => bnd_up hA fun a ha => by rw [h.at_sq (by omega)]; exact sq a (by omega)
  rcases List.mem_append.1 hy with q | q
  · obtain ⟨l, hl, s, s0, a, _, c⟩ := (all_mem h hk).1 q
    exact ⟨a, Int.le_trans c (up (l + 1) (by omega))⟩
  · by_cases r : k < n
    · obtain ⟨t, t0, a, _, c⟩ := at_mem h r (ht r) q
      exact ⟨a, Int.le_trans c (up (k + 1) (by omega))⟩
    · rw [h0 r] at q; simp [at_] at q
/-! ### It's enough -/
/-- The last row that a point of the grid takes. -/
theorem last_row {n : Nat} {bs : List (List Int)} {x : List Int} (h : InG n bs x) (z : square x ≠ 0) : ∃ k, k < n ∧ ∃ t : Int, t ≠ 0 ∧ Sp (fam bs) k fun i => vec x i - t * fam bs k i := by
  obtain ⟨hl, c, hc⟩ := h
  have G : ∀ m, (∀ i, vec x i = sg m fun a => c a * fam bs a i) → (∃ k, k < m ∧ ∃ t : Int, t ≠ 0 ∧ Sp (fam bs) k fun i => vec x i - t * fam bs k i) ∨ ∀ i, vec x i = 0 := fun m => by
    induction m with
    | zero => exact fun h => .inr fun i => h i
    | succ m ih =>
      intro h
      by_cases e : c m = 0
      · rcases ih fun i => by rw [h i]; show sg m _ + c m * fam bs m i = _; rw [e]; omega with ⟨k, hk, q⟩ | q
        · exact .inl ⟨k, by omega, q⟩
        · exact .inr q
      · exact .inl ⟨m, by omega, c m, e, c, fun i => by
          have q := h i
          show vec x i - c m * fam bs m i = _
          have r : sg (m + 1) (fun a => c a * fam bs a i) = sg m (fun a => c a * fam bs a i) + c m * fam bs m i := rfl
          omega⟩
  rcases G n hc with q | q
  · exact q
  · exact (z (by rw [square_dp hl]; exact sg_zero fun i _ => by rw [q i]; omega)).elim
theorem grid_of_last {n k : Nat} {bs : List (List Int)} {x : List Int} (hk : k < n) {t : Int} (hl : x.length = n) (s : Sp (fam bs) k fun i => vec x i - t * fam bs k i) : InG n bs x ∧ Sp (fam bs) (k + 1) (vec x) := by
  have a : Sp (fam bs) (k + 1) (vec x) := ((s.mono (by omega)).add ((Sp.mem (a := k) (by omega)).mul t)).of_eq fun i => by grind
  exact ⟨⟨hl, a.mono (by omega)⟩, a⟩
theorem neg_last {k : Nat} {bs : List (List Int)} {x : List Int} {t : Int} (s : Sp (fam bs) k fun i => vec x i - t * fam bs k i) : Sp (fam bs) k fun i => vec (neg x) i - -t * fam bs k i :=
  (s.mul (-1)).of_eq fun i => by rw [vec_neg]; grind
theorem neg_length (x : List Int) : (neg x).length = x.length := by unfold neg; simp
theorem all_grid {n : Nat} {bs : List (List Int)} (h : PB n bs) {y : List Int} (hy : y ∈ all_ n bs n) : InG n bs y ∧ square y ≠ 0 := by
  obtain ⟨k, hk, t, t0, a, b, c⟩ := (all_mem h (Nat.le_refl n)).1 hy
  refine ⟨(grid_of_last hk a b).1, fun z => ?_⟩
  rw [square_dp a] at z
  have := ind_sp h hk (t := t) ((b.mul (-1)).of_eq fun i => by
    have : vec y i = 0 := by
      by_cases q : i < n
      · exact dp_zero z i q
      · exact vec_out (by omega)
    rw [this]; omega)
  omega
/-- A point, or it times -1, or it's longer than the rows that it's made of. -/
theorem all_or {n : Nat} {bs : List (List Int)} (h : PB n bs) {x : List Int} (hx : InG n bs x) (z : square x ≠ 0) :
    x ∈ all_ n bs n ∨ neg x ∈ all_ n bs n ∨ ∃ k, k < n ∧ Sp (fam bs) (k + 1) (vec x) ∧ bnd bs (k + 1) < square x := by
  obtain ⟨k, hk, t, t0, s⟩ := last_row hx z
  by_cases q : square x ≤ bnd bs (k + 1)
  · rcases Int.lt_or_le 0 t with p | p
    · exact .inl ((all_mem h (Nat.le_refl n)).2 ⟨k, hk, t, p, hx.1, s, by rw [← square_dp hx.1]; exact q⟩)
    · exact .inr (.inl ((all_mem h (Nat.le_refl n)).2 ⟨k, hk, -t, by omega, by rw [neg_length, hx.1], neg_last s, by rw [← square_dp (by rw [neg_length, hx.1]), square_neg]; exact q⟩))
  · exact .inr (.inr ⟨k, hk, (grid_of_last hk hx.1 s).2, by omega⟩)
theorem row_all {n k : Nat} {bs : List (List Int)} (h : PB n bs) (hk : k < n) : bs.getD k [] ∈ all_ n bs n :=
  (all_mem h (Nat.le_refl n)).2 ⟨k, hk, 1, by decide, h.sh.at hk, (Sp.zero _ _).of_eq fun i => by show vec (bs.getD k []) i - 1 * fam bs k i = 0; show fam bs k i - 1 * fam bs k i = 0; omega, by rw [← square_dp (h.sh.at hk)]; exact bnd_le (by omega)⟩
/-- Enough for the shortest. -/
theorem short_enough {n : Nat} {bs : List (List Int)} (h : PB n bs) (h1 : 1 ≤ n) {x : List Int} (hx : InG n bs x) (z : square x ≠ 0) : x ∈ all_ n bs n ∨ neg x ∈ all_ n bs n ∨ ∃ y, y ∈ all_ n bs n ∧ square y < square x := by
  rcases all_or h hx z with q | q | ⟨k, hk, _, q⟩
  · exact .inl q
  · exact .inr (.inl q)
  · have := bnd_le (bs := bs) (k := k + 1) (a := 0) (by omega)
    exact .inr (.inr ⟨_, row_all h (show 0 < n by omega), by omega⟩)
/-- Enough for the minima. -/
theorem minima_enough {n : Nat} {bs : List (List Int)} (h : PB n bs) {V : List (List Int)} (m : Mins n (fun x => x ∈ all_ n bs n) V) : Mins n (InG n bs) V := by
  refine m.more (fun x hx => (all_grid h hx).1) fun x hx => ?_
  by_cases z : square x = 0
  · exact .inr ⟨[], fun w hw => by simp at hw, dp_nil z⟩
  rcases all_or h hx z with q | q | ⟨k, hk, s, q⟩
  · exact .inl q
  · refine .inr ⟨[neg x], fun w hw => ?_, 1, by decide, fun i => -1 * fam [neg x] 0 i, (Sp.mem (B := fam [neg x]) (k := [neg x].length) (a := 0) (by simp)).mul (-1), fun i _ => ?_⟩
    · rw [List.mem_singleton] at hw; subst hw
      exact ⟨q, by rw [square_neg]; exact Int.le_refl _⟩
    · show -1 * vec (neg x) i = _
      rw [vec_neg]; omega
  · refine .inr ⟨bs.take (k + 1), fun w hw => ?_, 1, by decide, vec x, ?_, fun i _ => by omega⟩
    · obtain ⟨i, hi, rfl⟩ := List.getElem_of_mem hw
      have hi' : i < k + 1 := by rw [List.length_take] at hi; omega
      have e : (bs.take (k + 1))[i] = bs.getD i [] := by
        rw [List.getElem_take, List.getD_eq_getElem?_getD, List.getElem?_eq_getElem (by rw [h.sh.len]; omega)]; rfl
      rw [e]
      exact ⟨row_all h (by omega), Int.le_trans (bnd_le hi') (by omega)⟩
    · have : (bs.take (k + 1)).length = k + 1 := by rw [List.length_take, h.sh.len]; omega
      rw [this]
      exact s.congr fun a ha => (fam_take ha).symm
end Mx

/-! How great the numbers are while points are gathered. -/
namespace Mx
open Si18 (square)
/-- Rooms enough for the lists. -/
structure Cnt (n : Nat) (A : Int) (R : Nat) : Prop where
  c : (2 * R + 1) ^ n ≤ 16777216
  r : 2 * A * (4 + ((n - 2 : Nat) : Int)) < 4 * (((R : Int) + 1) * (R + 1))
/-- The reduced rows that points are gathered of. -/
structure RR (n : Nat) (A : Int) (bs : List (List Int)) : Prop where
  hn : n ≤ 5
  hA : 0 < A
  hA' : A ≤ 5000000
  hP : A ^ (n - 1) ≤ 2 ^ 60
  inv : Inv n A n bs
theorem RR.pb {n : Nat} {A : Int} {bs : List (List Int)} (h : RR n A bs) : PB n bs := h.inv.pb
theorem pow_mono {A : Int} (h : 1 ≤ A) {i j : Nat} (hij : i ≤ j) : A ^ i ≤ A ^ j := by
  obtain ⟨d, rfl⟩ : ∃ d, j = i + d := ⟨j - i, by omega⟩
  clear hij
  induction d with
  | zero => exact Int.le_refl _
  | succ d ih =>
    have p : 0 ≤ A ^ (i + d) := by
      have := pow_le (x := 0) (y := A) (by decide) (by omega) (i + d)
      have z : (0 : Int) ≤ 0 ^ (i + d) := by
        cases i + d with
        | zero => decide
        | succ m => rw [Int.pow_succ, Int.mul_zero]; exact Int.le_refl 0
      omega
    have := Int.mul_le_mul_of_nonneg_left h p
    rw [show i + (d + 1) = i + d + 1 by omega, Int.pow_succ]
    omega
theorem RR.gd60 {n : Nat} {A : Int} {bs : List (List Int)} (h : RR n A bs) {j : Nat} (hj : j < n) : gd n (fam bs) j ≤ 2 ^ 60 := by
  have a := h.inv.vol_le h.hA j (by omega)
  have b := pow_mono (A := A) (by have := h.hA; omega) (show j ≤ n - 1 by omega)
  have := h.hP
  omega
theorem RR.bnd_le {n : Nat} {A : Int} {bs : List (List Int)} (h : RR n A bs) {k : Nat} (hk : k ≤ n) : bnd bs k ≤ 2 * A :=
  bnd_up (by have := h.hA; omega) fun a ha => by rw [h.pb.at_sq (by omega)]; exact h.inv.sq a (by omega)
/-- The sizes at a level. -/
def Sd (d : Nat) : Int := (2 ^ (d + 1) - 1) * (2 ^ 50 + 1)
theorem Sd_succ (d : Nat) : Sd (d + 1) = 2 * Sd d + (2 ^ 50 + 1) := by
  unfold Sd
  have e : (2 : Int) ^ (d + 1 + 1) = 2 * 2 ^ (d + 1) := by rw [Int.pow_succ]; omega
  rw [e]; omega
theorem Sd_bound {d : Nat} (h : d ≤ 4) : 0 ≤ Sd d ∧ Sd d + 2 ^ 50 + 1 < 2 ^ 62 := by
  match d, h with
  | 0, _ | 1, _ | 2, _ | 3, _ | 4, _ => decide +kernel
structure Lq (n : Nat) (bs : List (List Int)) (bound : Int) (p d : Nat) (x : List Int) : Prop where
  len : x.length = n
  lv : gg n (fam bs) p (vec x) (vec x) ≤ bound * gd n (fam bs) p
  lj : ∀ j, j < p → -(Sd d * gd n (fam bs) (j + 1)) ≤ gg n (fam bs) j (fam bs j) (vec x) ∧ gg n (fam bs) j (fam bs j) (vec x) ≤ Sd d * gd n (fam bs) (j + 1)
  sq : dp n (vec x) (vec x) < 2 ^ (160 + 2 * d)
theorem Lq.big {n p d : Nat} {bs : List (List Int)} {bound : Int} {x : List Int} (h : Lq n bs bound p d x) (hd : d ≤ 5) : BigR 700 x :=
  big_of_sq h.len (Int.lt_of_lt_of_le h.sq (pow2_le (by omega)))
theorem root_le {D F bound N r : Int} (hD : 0 < D) (hF : 0 < F) (hN : 0 ≤ N) (h0 : 0 ≤ r) (h : r * r ≤ D * (bound * F - N)) (hb : D * bound ≤ 2 ^ 100) : r ≤ 2 ^ 50 * F := by
  rcases Int.lt_or_le (2 ^ 50 * F) r with q | q
  · exfalso
    have a := Int.mul_le_mul (show 2 ^ 50 * F + 1 ≤ r by omega) (show 2 ^ 50 * F + 1 ≤ r by omega) (by have := Int.mul_pos (show (0 : Int) < 2 ^ 50 by decide) hF; omega) h0
    have b : D * (bound * F - N) = D * bound * F - D * N := by grind
    have c := Int.mul_nonneg (Int.le_of_lt hD) hN
    have d := Int.mul_le_mul_of_nonneg_right hb (Int.le_of_lt hF)
    have e : (2 ^ 50 * F + 1) * (2 ^ 50 * F + 1) = 2 ^ 100 * (F * F) + 2 ^ 51 * F + 1 := by grind
    have f := Int.mul_le_mul_of_nonneg_left (show (1 : Int) ≤ F by omega) (Int.le_of_lt hF)
    omega
  · exact q
theorem ends_le {r L F S : Int} (hF : 0 < F) (h0 : 0 ≤ r) (hr : r ≤ 2 ^ 50 * F) (h1 : -(S * F) ≤ L) (h2 : L ≤ S * F) : -(2 ^ 50 + S + 1) ≤ -((r + L) / F) ∧ -((r + L) / F) ≤ S ∧ -(S + 1) ≤ (r - L) / F ∧ (r - L) / F ≤ 2 ^ 50 + S := by
  have a1 : (r + L) / F ≤ 2 ^ 50 + S := by
    have : (r + L) / F < 2 ^ 50 + S + 1 := Int.ediv_lt_of_lt_mul hF (by
      have : (2 ^ 50 + S + 1) * F = 2 ^ 50 * F + S * F + F := by grind
      omega)
    omega
  have a2 : -S ≤ (r + L) / F := (Int.le_ediv_iff_mul_le hF).2 (by
    have : -S * F = -(S * F) := Int.neg_mul _ _
    omega)
  have a3 : (r - L) / F ≤ 2 ^ 50 + S := by
    have : (r - L) / F < 2 ^ 50 + S + 1 := Int.ediv_lt_of_lt_mul hF (by
      have : (2 ^ 50 + S + 1) * F = 2 ^ 50 * F + S * F + F := by grind
      omega)
    omega
  have a4 : -(S + 1) ≤ (r - L) / F := (Int.le_ediv_iff_mul_le hF).2 (by
    have : -(S + 1) * F = -(S * F) - F := by grind
    omega)
  omega
theorem lq_ends {n p d : Nat} {A bound : Int} {bs : List (List Int)} (h : RR n A bs) (hp : p < n) (hb : bound ≤ 2 * A) {x : List Int} (q : Lq n bs bound (p + 1) d x) :
    -(2 ^ 50 + Sd d + 1) ≤ least n bs p bound x ∧ least n bs p bound x ≤ Sd d ∧ -(Sd d + 1) ≤ most n bs p bound x ∧ most n bs p bound x ≤ 2 ^ 50 + Sd d ∧
    0 ≤ gd n (fam bs) p * (bound * gd n (fam bs) (p + 1) - gg n (fam bs) (p + 1) (vec x) (vec x)) := by
  have p0 := h.inv.pos p (by omega)
  have p1 := h.inv.pos (p + 1) (by omega)
  have hA' := h.hA'
  have R0 : 0 ≤ gd n (fam bs) p * (bound * gd n (fam bs) (p + 1) - gg n (fam bs) (p + 1) (vec x) (vec x)) := Int.mul_nonneg (by omega) (by have := q.lv; omega)
  obtain ⟨i1, _⟩ := isq_spec R0
  have i0 := isq_nonneg (gd n (fam bs) p * (bound * gd n (fam bs) (p + 1) - gg n (fam bs) (p + 1) (vec x) (vec x)))
  have g60 := h.gd60 hp
  have gb : gd n (fam bs) p * bound ≤ 2 ^ 100 := by
    have a := Int.mul_le_mul_of_nonneg_left (show bound ≤ 2 ^ 24 by omega) (Int.le_of_lt p0)
    omega
  have r := root_le p0 p1 (gg_nonneg p1) i0 i1 gb
  obtain ⟨l1, l2⟩ := q.lj p (by omega)
  obtain ⟨e1, e2, e3, e4⟩ := ends_le p1 i0 r l1 l2
  exact ⟨e1, e2, e3, e4, R0⟩
theorem lq_step {n p d : Nat} {A bound : Int} {bs : List (List Int)} (h : RR n A bs) (hp : p < n) (hd : d ≤ 4) (hb : bound ≤ 2 * A) {x : List Int} (q : Lq n bs bound (p + 1) d x) {z : List Int} (hz : z ∈ mv n bs p bound x) : Lq n bs bound p (d + 1) z := by
  obtain ⟨m1, m2, m3, m4, _⟩ := lq_ends h hp hb q
  have pb := h.pb
  have hA' := h.hA'
  obtain ⟨s0, s62⟩ := Sd_bound hd
  have g := ((mv_mem pb hp q.len q.lv).1 hz)
  unfold mv at hz
  obtain ⟨i, hi, rfl⟩ := List.mem_map.1 hz
  have hi := List.mem_range.1 hi
  obtain ⟨_, _, g2⟩ := g
  generalize ht : least n bs p bound x + (i : Nat) = t at *
  have t1 : -(2 ^ 50 + Sd d + 1) ≤ t := by omega
  have t2 : t ≤ 2 ^ 50 + Sd d := by omega
  have v := addRow_vec pb hp q.len t
  refine ⟨addRow_length pb hp q.len t, g2, fun j hj => ?_, ?_⟩
  · rw [v, gg_addr, gg_mulr, Sd_succ]
    obtain ⟨l1, l2⟩ := q.lj j (by omega)
    obtain ⟨f1, f2⟩ := h.inv.fit p hp j hj
    have pj := h.inv.pos (j + 1) (by omega)
    generalize gg n (fam bs) j (fam bs j) (vec x) = L at *
    generalize gg n (fam bs) j (fam bs j) (fam bs p) = M at *
    generalize gd n (fam bs) (j + 1) = F at *
    generalize Sd d = S at *
    -- t M is at most |t| F
    have tm : ((t * M).natAbs : Int) ≤ (2 ^ 50 + S + 1) * F := by
      rw [Int.natAbs_mul, Int.natCast_mul]
      exact Int.mul_le_mul (by omega) (by omega) (by omega) (by omega)
    have e : (2 * S + (2 ^ 50 + 1)) * F = S * F + (2 ^ 50 + S + 1) * F := by grind
    rw [e]; omega
  · have a := h.inv.sq p hp
    have b0 := dp_nonneg n (fam bs p)
    have x0 := dp_nonneg n (vec x)
    have nn := dp_nonneg n (fun i => vec x i - t * fam bs p i)
    have e : dp n (fun i => vec x i + t * fam bs p i) (fun i => vec x i + t * fam bs p i) + dp n (fun i => vec x i - t * fam bs p i) (fun i => vec x i - t * fam bs p i) = 2 * dp n (vec x) (vec x) + 2 * (t * t * dp n (fam bs p) (fam bs p)) := by
      unfold dp
      rw [← sg_add, ← sg_mul, ← sg_mul, ← sg_mul, ← sg_add]
      exact sg_congr fun i _ => by grind
    have tt : t * t ≤ 2 ^ 62 * 2 ^ 62 := abs_sq (by omega) (by omega)
    have u : t * t * dp n (fam bs p) (fam bs p) ≤ (2 ^ 62 * 2 ^ 62) * 2 ^ 24 := Int.mul_le_mul tt (by omega) b0 (by decide)
    have s := q.sq
    have e4 : (2 : Int) ^ (160 + 2 * (d + 1)) = 4 * 2 ^ (160 + 2 * d) := by rw [show 160 + 2 * (d + 1) = 160 + 2 * d + 1 + 1 by omega, Int.pow_succ, Int.pow_succ]; omega
    have e5 := pow2_le (s := 160) (t := 160 + 2 * d) (by omega)
    rw [v, e4]
    generalize (2 : Int) ^ (160 + 2 * d) = W at *
    omega
/-- The start of a chunk. -/
theorem lq_start {n k : Nat} {A : Int} {bs : List (List Int)} (h : RR n A bs) (hk : k < n) {t : Nat} (ht : t < tmax n bs k) : Lq n bs (bnd bs (k + 1)) k 0 (tmul ((t : Int) + 1) (bs.getD k [])) ∧ (t : Int) + 1 ≤ 2 ^ 50 := by
  have pb := h.pb
  have hA' := h.hA'
  obtain ⟨l1, l2⟩ := chunk_lv pb hk ht _ (List.mem_singleton.2 rfl)
  have m := (tmax_iff (t := t + 1) pb hk).1 ht
  have p0 := h.inv.pos k (by omega)
  have p1 := h.inv.pos (k + 1) (by omega)
  have g60 := h.gd60 hk
  have b := h.bnd_le (k := k + 1) (by omega)
  have gb : bnd bs (k + 1) * gd n (fam bs) k ≤ 2 ^ 100 := by
    have a := Int.mul_le_mul_of_nonneg_right (show bnd bs (k + 1) ≤ 2 ^ 24 by omega) (Int.le_of_lt p0)
    omega
  have tt : ((t : Int) + 1) * ((t : Int) + 1) ≤ 2 ^ 50 * 2 ^ 50 := by
    have e : ((t + 1 : Nat) : Int) = (t : Int) + 1 := by omega
    rw [e] at m
    have := Int.mul_le_mul_of_nonneg_left (show (1 : Int) ≤ gd n (fam bs) (k + 1) by omega) (sq_nonneg ((t : Int) + 1))
    omega
  have t57 : (t : Int) + 1 ≤ 2 ^ 50 := by
    rcases Int.lt_or_le (2 ^ 50) ((t : Int) + 1) with q | q
    · have := (sq_lt_iff (show (0 : Int) ≤ 2 ^ 50 by decide) (show 0 ≤ (t : Int) + 1 by omega)).2 q
      omega
    · exact q
  refine ⟨⟨l1, l2, fun j hj => ?_, ?_⟩, t57⟩
  · have v : vec (tmul ((t : Int) + 1) (bs.getD k [])) = fun i => ((t : Int) + 1) * fam bs k i := by
      funext i; rw [vec_tmul]; rfl
    rw [v, gg_mulr]
    obtain ⟨f1, f2⟩ := h.inv.fit k hk j hj
    have pj := h.inv.pos (j + 1) (by omega)
    generalize gg n (fam bs) j (fam bs j) (fam bs k) = M at *
    generalize gd n (fam bs) (j + 1) = F at *
    have S0 : Sd 0 = 2 ^ 50 + 1 := by unfold Sd; decide
    have tm : ((((t : Int) + 1) * M).natAbs : Int) ≤ (2 ^ 50 + 1) * F := by
      rw [Int.natAbs_mul, Int.natCast_mul]
      exact Int.mul_le_mul (by omega) (by omega) (by omega) (by omega)
    rw [S0]; omega
  · have v : dp n (vec (tmul ((t : Int) + 1) (bs.getD k []))) (vec (tmul ((t : Int) + 1) (bs.getD k []))) = ((t : Int) + 1) * ((t : Int) + 1) * dp n (fam bs k) (fam bs k) := by
      have v : vec (tmul ((t : Int) + 1) (bs.getD k [])) = fun i => ((t : Int) + 1) * fam bs k i := by
        funext i; rw [vec_tmul]; rfl
      rw [v, dp_mul, dp_mulr, Int.mul_assoc]
    rw [v]
    have a := h.inv.sq k hk
    have u := Int.mul_le_mul tt (show dp n (fam bs k) (fam bs k) ≤ 2 ^ 24 by omega) (dp_nonneg n (fam bs k)) (by decide)
    exact Int.lt_of_le_of_lt u (by decide)
/-- Lists that fit. -/
theorem RR.fits {n p R : Nat} {A bound : Int} {bs : List (List Int)} (h : RR n A bs) (c : Cnt n A R) (hp : p + 2 ≤ n) (hb : bound ≤ 2 * A) {pts : List (List Int)} (l : Lv n bs bound p pts) (d : pts.Nodup) (s : Sep bs p pts) : pts.length ≤ 16777216 := by
  have hA := h.hA
  refine Nat.le_trans (lv_count (A := 2 * A) (R := R) h.pb (by omega) (by omega) (fun j hj => ?_) hb ?_ l d s) c.c
  · have a := h.inv.rat j hj
    have b := Int.mul_nonneg (Int.le_of_lt hA) (Int.le_of_lt (h.inv.pos j (by omega)))
    have e : 2 * A * gd n (fam bs) j = A * gd n (fam bs) j + A * gd n (fam bs) j := by grind
    omega
  · have a := c.r
    have b := Int.mul_le_mul_of_nonneg_left (show (4 : Int) + p ≤ 4 + ((n - 2 : Nat) : Int) by omega) (show 0 ≤ 2 * A by omega)
    omega
theorem RR.part_len {n k t R : Nat} {A : Int} {bs : List (List Int)} (h : RR n A bs) (c : Cnt n A R) (hk : k ≤ n) (ht : k < n → t ≤ tmax n bs k) (h0 : ¬ k < n → t = 0) : (all_ n bs k ++ at_ n bs k t).length ≤ 16777216 := by
  have hA := h.hA
  refine Nat.le_trans (box_count (R := R) (n := n) (part_nodup h.pb hk ht h0) fun x hx => ?_) c.c
  obtain ⟨a, b⟩ := part_mem h.pb (by omega) h.inv.sq hk ht h0 hx
  refine ⟨a, Int.lt_of_le_of_lt b ?_⟩
  have a := c.r
  have b := Int.mul_le_mul_of_nonneg_left (show (4 : Int) ≤ 4 + ((n - 2 : Nat) : Int) by omega) (show 0 ≤ 2 * A by omega)
  omega
end Mx

/-! What the calls answer, and of which rows they are asked. -/
namespace Mx
open Si18 (square)
def most_ (n : Nat) : Int := if n ≤ 2 then 1000 else if n = 3 then 30 else if n = 4 then 9 else 3
def bestA (n : Nat) : Int := n * (most_ n * most_ n)
def bestR (n : Nat) : Nat := if n = 1 then 1414 else if n = 2 then 2000 else if n = 3 then 82 else if n = 4 then 31 else 12
theorem best_pow {n : Nat} (h1 : 1 ≤ n) (h5 : n ≤ 5) : bestA n ^ (n - 1) ≤ 2 ^ 60 := by
  match n, h1, h5 with
  | 1, _, _ | 2, _, _ | 3, _, _ | 4, _, _ | 5, _, _ => decide
theorem best_ok {n : Nat} (h1 : 1 ≤ n) (h5 : n ≤ 5) : 0 < bestA n ∧ bestA n ≤ 5000000 ∧ Cnt n (bestA n) (bestR n) := by
  match n, h1, h5 with
  | 1, _, _ | 2, _, _ | 3, _, _ | 4, _, _ | 5, _, _ => exact ⟨by decide, by decide, by decide, by decide⟩
theorem entry_mem {b : List (List Int)} {a i : Nat} {x : Int} (h : fam b a i = x) : x = 0 ∨ ∃ r ∈ b, x ∈ r := by
  unfold fam vec at h
  rw [List.getD_eq_getElem?_getD (l := b)] at h
  cases q : b[a]? with
  | none => rw [q] at h; simp at h; exact .inl h.symm
  | some r =>
    rw [q] at h
    have h : r.getD i 0 = x := h
    rw [List.getD_eq_getElem?_getD] at h
    cases q2 : r[i]? with
    | none => rw [q2] at h; exact .inl h.symm
    | some y =>
      rw [q2] at h
      have h : y = x := h
      subst h
      exact .inr ⟨r, List.mem_of_getElem? q, List.mem_of_getElem? q2⟩
theorem sq_of_most {n : Nat} {b : List (List Int)} {m : Int} (h0 : 0 ≤ m) (h : ∀ r ∈ b, ∀ x ∈ r, -m ≤ x ∧ x ≤ m) (a : Nat) : dp n (fam b a) (fam b a) ≤ n * (m * m) := by
  refine sg_lt fun i _ => ?_
  rcases entry_mem (b := b) (a := a) (i := i) rfl with e | ⟨r, hr, hx⟩
  · rw [e]; have := sq_nonneg m; omega
  · exact abs_sq (h r hr _ hx).1 (h r hr _ hx).2
theorem rows_sh {n : Nat} {b : List Int} (hb : b.length = n * n) : Sh n (Si18Neutral.rowsOf (n : Int) b) := ⟨rowsOf_length n b, rowsOf_wide hb⟩
/-- Of rows whose numbers are up to 1000. -/
theorem start_wide {n : Nat} {b : List Int} (h1 : 1 ≤ n) (h5 : n ≤ 5) (hb : b.length = n * n) (hw : (b.all fun x => decide (x.natAbs ≤ 1000)) = true) (hd : Si18.det n (Si18Neutral.rowsOf (n : Int) b) ≠ 0) : Inv n 5000000 1 (Si18Neutral.rowsOf (n : Int) b) :=
  inv_start (by decide) (rows_sh hb) hd fun a _ => by
    have := sq_of_most (n := n) (b := Si18Neutral.rowsOf (n : Int) b) (m := 1000) (by decide) (fun r hr x hx => by
      have := List.all_eq_true.mp hw x (rowsOf_mem hr hx)
      rw [decide_eq_true_eq] at this
      omega) a
    omega
/-- Of rows that are asked of short, minima, near, count. -/
theorem start_narrow {n : Nat} {b : List Int} (h1 : 1 ≤ n) (h5 : n ≤ 5) (hb : b.length = n * n) (hn : Si18.narrow (n : Int) (Si18Neutral.rowsOf (n : Int) b) = true) (hd : Si18.det n (Si18Neutral.rowsOf (n : Int) b) ≠ 0) : Inv n (bestA n) 1 (Si18Neutral.rowsOf (n : Int) b) := by
  refine inv_start (best_ok h1 h5).1 (rows_sh hb) hd fun a _ => ?_
  have m0 : 0 ≤ most_ n := by
    unfold most_
    split
    · decide
    · split
      · decide
      · split <;> decide
  refine sq_of_most m0 (fun r hr x hx => ?_) a
  unfold Si18.narrow at hn
  have := List.all_eq_true.mp (List.all_eq_true.mp hn r hr) x hx
  unfold Si18.within at this
  rw [Bool.and_eq_true, decide_eq_true_eq, decide_eq_true_eq] at this
  have e : (if (n : Int) ≤ 2 then (1000 : Int) else if (n : Int) = 3 then 30 else if (n : Int) = 4 then 9 else 3) = most_ n := by
    unfold most_
    by_cases q : n ≤ 2
    · rw [if_pos q, if_pos (by omega)]
    · rw [if_neg q, if_neg (by omega)]
      by_cases q3 : n = 3
      · rw [if_pos q3, if_pos (by omega)]
      · rw [if_neg q3, if_neg (by omega)]
        by_cases q4 : n = 4
        · rw [if_pos q4, if_pos (by omega)]
        · rw [if_neg q4, if_neg (by omega)]
  rw [e] at this
  exact this
/-! ### short -/
def ps_ (n : Nat) (b : List (List Int)) : List (List Int) := (Si18.pointsIn n b (Si18.leastSquare (Si18.reducedOf n b)).toNat).filter fun x => square x != 0 && Si18.ahead x
def shortOf (n : Nat) (b : List (List Int)) : List Int := Si18.firstOf ((ps_ n b).filter fun x => square x == Si18.leastSquare (ps_ n b))
theorem short_eq (n : Int) (b : List Int) : PySi18.short n b = ans (if Si18.size n = false then Si18.say (-2) else if Si18.given n (Si18Neutral.rowsIn n b) = false then Si18.say (-3) else ⟨square (shortOf n.toNat (Si18Neutral.rowsIn n b)), shortOf n.toNat (Si18Neutral.rowsIn n b)⟩) := rfl
theorem short_bad {n : Int} {b : List Int} (h : n < 1 ∨ n > 5) : PySi18.short n b = [-2] := by
  rw [short_eq, if_pos (not_size h)]
  rfl
theorem one_len {k n : Nat} {b : List Int} (h : (Si18Neutral.whole32 (n : Int) && Si18Neutral.long b n (n * n)) = true) (h1 : 1 ≤ n) (h5 : n ≤ 5) : b.length = n * n := by
  rw [Bool.and_eq_true] at h
  have e1 := long_len h.2 (size_true.mpr ⟨by omega, by omega⟩)
  rw [← Int.natCast_mul] at e1
  omega
theorem short_len {n : Nat} {b : List Int} (h : PySi18.short_asked (n : Int) b = true) (h1 : 1 ≤ n) (h5 : n ≤ 5) : b.length = n * n := by
  unfold PySi18.short_asked Si18Neutral.asked at h
  simp only [List.all_cons, List.all_nil, Bool.and_true, Bool.and_eq_true] at h
  exact one_len (k := 2) h.1 h1 h5
theorem short_light {n : Nat} {b : List Int} (h : PySi18.short_asked (n : Int) b = true) (h1 : 1 ≤ n) (h5 : n ≤ 5) (g : Si18.given (n : Int) (Si18Neutral.rowsOf (n : Int) b) = true) : Si18.narrow (n : Int) (Si18Neutral.rowsOf (n : Int) b) = true := by
  unfold PySi18.short_asked Si18Neutral.asked at h
  simp only [List.all_cons, List.all_nil, Bool.and_true, Bool.and_eq_true] at h
  have l : (!Si18.size (n : Int) || (!Si18.given (n : Int) (Si18Neutral.rowsIn (n : Int) b) || Si18.narrow (n : Int) (Si18Neutral.rowsIn (n : Int) b))) = true := h.2.2
  rw [rowsIn_of h1 h5, size_true.mpr ⟨by omega, by omega⟩, g] at l
  simpa using l
theorem short_good {n : Nat} {b : List Int} (hb : b.length = n * n) (h1 : 1 ≤ n) (h5 : n ≤ 5) :
    PySi18.short (n : Int) b = if ((b.all fun x => decide (x.natAbs ≤ 1000)) && Si18.det n (Si18Neutral.rowsOf (n : Int) b) != 0) = true then square (shortOf n (Si18Neutral.rowsOf (n : Int) b)) :: shortOf n (Si18Neutral.rowsOf (n : Int) b) else [-3] := by
  rw [short_eq, rowsIn_of h1 h5, if_neg (by rw [size_true.mpr ⟨by omega, by omega⟩]; decide), given_eq hb, Int.toNat_natCast]
  generalize ((b.all fun x => decide (x.natAbs ≤ 1000)) && Si18.det n (Si18Neutral.rowsOf (n : Int) b) != 0) = c
  cases c with
  | true => rw [if_neg (by decide), if_pos rfl]; rfl
  | false => rw [if_pos rfl, if_neg (by decide)]; rfl
theorem shortOf_spec {n : Nat} {A : Int} {b : List (List Int)} (h1 : 1 ≤ n) (hn : n ≤ 5) (hA : 0 < A) (hA' : A ≤ 5000000) (h : Inv n A 1 b) : Firsts (Up n b) square (shortOf n b) := short_spec h1 hn hA hA' h
/-! ### minima -/
theorem minima_eq (n : Int) (b : List Int) : PySi18.minima n b = ans (if Si18.size n = false then Si18.say (-2) else if Si18.given n (Si18Neutral.rowsIn n b) = false then Si18.say (-3) else ⟨0, (Si18.minimaOf n.toNat (Si18Neutral.rowsIn n b)).map fun (r : Nat) => (r : Int)⟩) := rfl
theorem minima_bad {n : Int} {b : List Int} (h : n < 1 ∨ n > 5) : PySi18.minima n b = [-2] := by
  rw [minima_eq, if_pos (not_size h)]
  rfl
theorem minima_len {n : Nat} {b : List Int} (h : PySi18.minima_asked (n : Int) b = true) (h1 : 1 ≤ n) (h5 : n ≤ 5) : b.length = n * n := by
  unfold PySi18.minima_asked Si18Neutral.asked at h
  simp only [List.all_cons, List.all_nil, Bool.and_true, Bool.and_eq_true] at h
  exact one_len (k := 2) h.1 h1 h5
theorem minima_light {n : Nat} {b : List Int} (h : PySi18.minima_asked (n : Int) b = true) (h1 : 1 ≤ n) (h5 : n ≤ 5) (g : Si18.given (n : Int) (Si18Neutral.rowsOf (n : Int) b) = true) : Si18.narrow (n : Int) (Si18Neutral.rowsOf (n : Int) b) = true := by
  unfold PySi18.minima_asked Si18Neutral.asked at h
  simp only [List.all_cons, List.all_nil, Bool.and_true, Bool.and_eq_true] at h
  have l : (!Si18.size (n : Int) || (!Si18.given (n : Int) (Si18Neutral.rowsIn (n : Int) b) || Si18.narrow (n : Int) (Si18Neutral.rowsIn (n : Int) b))) = true := h.2.2
  rw [rowsIn_of h1 h5, size_true.mpr ⟨by omega, by omega⟩, g] at l
  simpa using l
theorem minima_good {n : Nat} {b : List Int} (hb : b.length = n * n) (h1 : 1 ≤ n) (h5 : n ≤ 5) :
    PySi18.minima (n : Int) b = if ((b.all fun x => decide (x.natAbs ≤ 1000)) && Si18.det n (Si18Neutral.rowsOf (n : Int) b) != 0) = true then 0 :: (Si18.minimaOf n (Si18Neutral.rowsOf (n : Int) b)).map (fun (r : Nat) => (r : Int)) else [-3] := by
  rw [minima_eq, rowsIn_of h1 h5, if_neg (by rw [size_true.mpr ⟨by omega, by omega⟩]; decide), given_eq hb, Int.toNat_natCast]
  generalize ((b.all fun x => decide (x.natAbs ≤ 1000)) && Si18.det n (Si18Neutral.rowsOf (n : Int) b) != 0) = c
  cases c with
  | true => rw [if_neg (by decide), if_pos rfl]; rfl
  | false => rw [if_pos rfl, if_neg (by decide)]; rfl
/-! ### The order of lists -/
theorem less_lt : ∀ {x y : List Int}, x.length = y.length → (x < y ↔ Si18.less x y = true)
  | [], [], _ => by simp [Si18.less]
  | [], _ :: _, h => by simp at h
  | _ :: _, [], h => by simp at h
  | a :: x, b :: y, h => by
    rw [List.cons_lt_cons_iff, less_cons, less_lt (by simpa using h)]
theorem ahead_lt : ∀ x : List Int, (x.map (fun _ => (0 : Int)) < x) ↔ Si18.ahead x = true
  | [] => by simp [Si18.ahead]
  | a :: x => by
    rw [List.map_cons, List.cons_lt_cons_iff, ahead_lt x]
    by_cases e : a = 0
    · subst e
      have : Si18.ahead (0 :: x) = Si18.ahead x := rfl
      rw [this]; simp
    · have ne : (a != 0) = true := by simpa using e
      have : Si18.ahead (a :: x) = decide (0 < a) := by unfold Si18.ahead; simp [List.find?, ne]
      rw [this, decide_eq_true_iff]
      constructor
      · rintro (q | ⟨q, _⟩)
        · exact q
        · exact absurd q.symm e
      · exact fun q => .inl q
/-- A point, or it times -1. -/
def upr (x : List Int) : List Int := if x.map (fun _ => (0 : Int)) < x then x else neg x
theorem neg_neg (x : List Int) : neg (neg x) = x := by
  unfold neg
  rw [List.map_map]
  conv => rhs; rw [← List.map_id x]
  refine List.map_congr_left fun a _ => ?_
  show - -a = a
  omega
theorem upr_length (x : List Int) : (upr x).length = x.length := by
  unfold upr; split
  · rfl
  · exact neg_length x
theorem upr_square (x : List Int) : square (upr x) = square x := by
  unfold upr; split
  · rfl
  · exact square_neg x
theorem upr_up {n : Nat} {b : List (List Int)} {x : List Int} (h : InG n b x) (z : square x ≠ 0) : Up n b (upr x) := by
  unfold upr
  by_cases c : x.map (fun _ => (0 : Int)) < x
  · rw [if_pos c]; exact ⟨h, z, (ahead_lt x).1 c⟩
  · rw [if_neg c]
    refine ⟨h.neg, by rw [square_neg]; exact z, ?_⟩
    rcases ahead_or (nonzero_ex z) with q | q
    · exact absurd ((ahead_lt x).2 q.1) c
    · exact q.2
theorem upr_of_up {n : Nat} {b : List (List Int)} {x : List Int} (h : Up n b x) : upr x = x ∧ upr (neg x) = x := by
  have a := (ahead_lt x).2 h.2.2
  refine ⟨by unfold upr; rw [if_pos a], ?_⟩
  unfold upr
  rw [if_neg, neg_neg]
  intro c
  have := (ahead_lt (neg x)).1 c
  rcases ahead_or (nonzero_ex h.2.1) with q | q
  · rw [q.2] at this; cases this
  · rw [h.2.2] at q; cases q.1
/-- The least of what the program holds against one another is what's due. -/
theorem short_least {n : Nat} {A : Int} {b : List (List Int)} (h1 : 1 ≤ n) (hn : n ≤ 5) (hA : 0 < A) (hA' : A ≤ 5000000) (h : Inv n A 1 b) {rs : List (List Int)}
    (hr : rs = (all_ n (Si18.reducedOf n b) n).map fun x => square (upr x) :: upr x) : rs ≠ [] ∧ ∀ r, r ∈ rs → (∀ y, y ∈ rs → ¬ y < r) → r = square (shortOf n b) :: shortOf n b := by
  obtain ⟨_, inv, g⟩ := reduced_ok h1 hn hA hA' h
  generalize Si18.reducedOf n b = bs at *
  have pb := inv.pb
  have sp := shortOf_spec h1 hn hA hA' h
  subst hr
  refine ⟨fun e => ?_, fun r hr hl => ?_⟩
  · have := row_all pb (show 0 < n by omega)
    rw [List.map_eq_nil_iff] at e
    rw [e] at this; simp at this
  · obtain ⟨x, hx, rfl⟩ := List.mem_map.1 hr
    obtain ⟨gx, zx⟩ := all_grid pb hx
    have ux : Up n b (upr x) := upr_up ((g x).1 gx) zx
    have up_len : ∀ y, Up n b y → y.length = n := fun y hy => hy.1.1
    have key : Firsts (Up n b) square (upr x) := ⟨ux, fun y hy => by
      have gy : InG n bs y := (g y).2 hy.1
      have lt_of : ∀ z, z ∈ all_ n bs n → ¬ (square (upr z) :: upr z) < (square (upr x) :: upr x) := fun z hz => hl _ (List.mem_map.2 ⟨z, hz, rfl⟩)
      have fin : ¬ (square y :: y) < (square (upr x) :: upr x) → Si18.less (square y :: y) (square (upr x) :: upr x) = false := fun q => by
        cases c : Si18.less (square y :: y) (square (upr x) :: upr x) with
        | false => rfl
        | true => exact absurd ((less_lt (by simp [up_len y hy, up_len _ ux])).2 c) q
      rcases short_enough pb h1 gy hy.2.1 with q | q | ⟨z, hz, q⟩
      · have := lt_of y q
        rw [(upr_of_up hy).1] at this
        exact fin this
      · have := lt_of _ q
        rw [(upr_of_up hy).2] at this
        exact fin this
      · refine fin fun c => ?_
        have := lt_of z hz
        rw [upr_square z] at this
        rw [List.cons_lt_cons_iff] at this c
        omega⟩
    have := Firsts.uniq (n := n) up_len key sp
    rw [this]
end Mx

/-! The minima, the program's way. -/
namespace Mx
open Si18 (square)
theorem free_len {n : Nat} {V : List (List Int)} (h : Free n V) : V.length ≤ n := by
  rcases Nat.lt_or_ge n V.length with q | q
  · refine (steinitz (W := (List.range n).map fun i => (List.range n).map fun j => if j = i then (1 : Int) else 0) (i := n) h q fun a _ x _ => ?_).elim
    refine ⟨1, by decide, _, ⟨fun i => vec x i, fun _ => rfl⟩, fun k hk => ?_⟩
    have u : ∀ i, i < n → fam ((List.range n).map fun i => (List.range n).map fun j => if j = i then (1 : Int) else 0) i k = if k = i then 1 else 0 := fun i hi => by
      rw [fam_get (x := (List.range n).map fun j => if j = i then (1 : Int) else 0) (by rw [List.getElem?_map, List.getElem?_range hi]; rfl), vec_range _ hk]
    show sg n (fun i => vec x i * _) = _
    rw [sg_one hk fun i hi ne => by rw [u i hi, if_neg (Ne.symm ne)]; omega, u k hk, if_pos rfl]; omega
  · exact q
/-- Free by the last number of the ladder. -/
def freeB (n : Nat) (st : List (List Int)) (x : List Int) : Bool := gg n (fam st) st.length (vec x) (vec x) != 0
/-- What's taken so far. -/
def taken_ (n : Nat) (qs : List (List Int)) : List (List Int) := qs.foldl (take1 (freeB n)) []
theorem take_sub {f : List (List Int) → List Int → Bool} : ∀ (qs st : List (List Int)), (∀ v, v ∈ qs.foldl (take1 f) st → v ∈ st ∨ v ∈ qs)
  | [], st => fun v hv => .inl hv
  | q :: qs, st => fun v hv => by
    rw [List.foldl_cons] at hv
    rcases take_sub qs _ v hv with h | h
    · unfold take1 at h
      by_cases c : f st q = true
      · rw [if_pos c] at h
        rcases List.mem_append.1 h with h | h
        · exact .inl h
        · exact .inr (by rw [List.mem_singleton.1 h]; exact List.mem_cons_self ..)
      · rw [if_neg c] at h; exact .inl h
    · exact .inr (List.mem_cons_of_mem _ h)
theorem taken_mem {n : Nat} {qs : List (List Int)} {v : List Int} (h : v ∈ taken_ n qs) : v ∈ qs := by
  rcases take_sub qs [] v h with q | q
  · simp at q
  · exact q
theorem taken_mins {n : Nat} {qs : List (List Int)} (s : qs.Pairwise fun x y => square x ≤ square y) : Mins n (fun x => x ∈ qs) (taken_ n qs) :=
  (take_ok (Q := fun _ => True) (fun st x f _ _ => by
    obtain ⟨a, b⟩ := free_or f x
    exact ⟨fun e => a (by unfold freeB at e; simpa using e), fun e => b (by unfold freeB at e; simpa using e)⟩) qs _ [] (Mins.nil n) s (fun v hv => by simp at hv) (fun v hv => by simp at hv) (fun _ _ => trivial)).iff fun x => by simp
theorem taken_take {n i : Nat} {qs : List (List Int)} {x : List Int} (h : qs[i]? = some x) : taken_ n (qs.take (i + 1)) = take1 (freeB n) (taken_ n (qs.take i)) x := by
  unfold taken_
  rw [take_succ_get h, List.foldl_append]; rfl
theorem taken_free {n i : Nat} {qs : List (List Int)} (s : qs.Pairwise fun x y => square x ≤ square y) : Free n (taken_ n (qs.take i)) := (taken_mins (s.sublist (List.take_sublist i qs))).free
/-- What the program's points give is what's due. -/
theorem minima_due {n : Nat} {A : Int} {b : List (List Int)} (h1 : 1 ≤ n) (hn : n ≤ 5) (hA : 0 < A) (hA' : A ≤ 5000000) (h : Inv n A 1 b) {V : List (List Int)} (m : Mins n (fun x => x ∈ all_ n (Si18.reducedOf n b) n) V) :
    V.map square = (Si18.minimaOf n b).map (fun (r : Nat) => (r : Int)) := by
  obtain ⟨_, inv, g⟩ := reduced_ok h1 hn hA hA' h
  obtain ⟨W, mW, e⟩ := minima_spec h1 hn hA hA' h
  rw [e]
  exact ((minima_enough inv.pb m).iff g).squares mW
theorem perm_map_inv {α β : Type} {f : α → β} {zs ys : List β} (p : zs.Perm ys) : ∀ l : List α, ys = l.map f → ∃ l' : List α, l'.Perm l ∧ zs = l'.map f := by
  induction p with
  | nil =>
    intro l e
    have : l = [] := List.map_eq_nil_iff.1 e.symm
    exact ⟨[], by rw [this], rfl⟩
  | cons x _ ih =>
    intro l e
    match l, e with
    | a :: l, e =>
      rw [List.map_cons] at e
      injection e with e1 e2
      obtain ⟨l', q, r⟩ := ih l e2
      exact ⟨a :: l', q.cons a, by rw [List.map_cons, ← r, e1]⟩
  | swap x y l0 =>
    intro l e
    match l, e with
    | a :: c :: l, e =>
      rw [List.map_cons, List.map_cons] at e
      injection e with e1 e2
      injection e2 with e2 e3
      exact ⟨c :: a :: l, List.Perm.swap a c l, by rw [List.map_cons, List.map_cons, e1, e2, e3]⟩
  | trans _ _ ih1 ih2 =>
    intro l e
    obtain ⟨l', q, r⟩ := ih2 l e
    obtain ⟨l2, q2, r2⟩ := ih1 l' r
    exact ⟨l2, q2.trans q, r2⟩
end Mx

/-! What reduce, test, near and count answer, and of what they are asked. -/
namespace Mx
open Si18 (square)
abbrev okB (n : Nat) (b : List Int) : Bool := (b.all fun x => decide (x.natAbs ≤ 1000)) && Si18.det n (Si18Neutral.rowsOf (n : Int) b) != 0
/-! ### reduce -/
theorem reduce_eq (n : Int) (b : List Int) : PySi18.reduce n b = ans (if Si18.size n = false then Si18.say (-2) else if Si18.given n (Si18Neutral.rowsIn n b) = false then Si18.say (-3) else ⟨0, (Si18.reducedOf n.toNat (Si18Neutral.rowsIn n b)).flatten⟩) := rfl
theorem reduce_bad {n : Int} {b : List Int} (h : n < 1 ∨ n > 5) : PySi18.reduce n b = [-2] := by
  rw [reduce_eq, if_pos (not_size h)]
  rfl
theorem reduce_len {n : Nat} {b : List Int} (h : PySi18.reduce_asked (n : Int) b = true) (h1 : 1 ≤ n) (h5 : n ≤ 5) : b.length = n * n := by
  unfold PySi18.reduce_asked Si18Neutral.asked at h
  simp only [List.all_cons, List.all_nil, Bool.and_true, Bool.and_eq_true] at h
  exact one_len (k := 2) h.1 h1 h5
theorem reduce_good {n : Nat} {b : List Int} (hb : b.length = n * n) (h1 : 1 ≤ n) (h5 : n ≤ 5) :
    PySi18.reduce (n : Int) b = if okB n b = true then 0 :: (Si18.reducedOf n (Si18Neutral.rowsOf (n : Int) b)).flatten else [-3] := by
  rw [reduce_eq, rowsIn_of h1 h5, if_neg (by rw [size_true.mpr ⟨by omega, by omega⟩]; decide), given_eq hb, Int.toNat_natCast]
  show _ = if ((b.all fun x => decide (x.natAbs ≤ 1000)) && Si18.det n (Si18Neutral.rowsOf (n : Int) b) != 0) = true then _ else _
  generalize ((b.all fun x => decide (x.natAbs ≤ 1000)) && Si18.det n (Si18Neutral.rowsOf (n : Int) b) != 0) = c
  cases c with
  | true => rw [if_neg (by decide), if_pos rfl]; rfl
  | false => rw [if_pos rfl, if_neg (by decide)]; rfl
/-! ### test -/
theorem test_eq (n : Int) (b : List Int) : PySi18.test n b = ans (if Si18.size n = false then Si18.say (-2) else if Si18.given n (Si18Neutral.rowsIn n b) = false then Si18.say (-3) else Si18.say (if Si18.reduced n.toNat (Si18Neutral.rowsIn n b) = true then 1 else 0)) := rfl
theorem test_bad {n : Int} {b : List Int} (h : n < 1 ∨ n > 5) : PySi18.test n b = [-2] := by
  rw [test_eq, if_pos (not_size h)]
  rfl
theorem test_len {n : Nat} {b : List Int} (h : PySi18.test_asked (n : Int) b = true) (h1 : 1 ≤ n) (h5 : n ≤ 5) : b.length = n * n := by
  unfold PySi18.test_asked Si18Neutral.asked at h
  simp only [List.all_cons, List.all_nil, Bool.and_true, Bool.and_eq_true] at h
  exact one_len (k := 2) h.1 h1 h5
theorem test_good {n : Nat} {b : List Int} (hb : b.length = n * n) (h1 : 1 ≤ n) (h5 : n ≤ 5) :
    PySi18.test (n : Int) b = if okB n b = true then [if Si18.reduced n (Si18Neutral.rowsOf (n : Int) b) = true then 1 else 0] else [-3] := by
  rw [test_eq, rowsIn_of h1 h5, if_neg (by rw [size_true.mpr ⟨by omega, by omega⟩]; decide), given_eq hb, Int.toNat_natCast]
  show _ = if ((b.all fun x => decide (x.natAbs ≤ 1000)) && Si18.det n (Si18Neutral.rowsOf (n : Int) b) != 0) = true then _ else _
  generalize ((b.all fun x => decide (x.natAbs ≤ 1000)) && Si18.det n (Si18Neutral.rowsOf (n : Int) b) != 0) = c
  cases c with
  | true => rw [if_neg (by decide), if_pos rfl]; rfl
  | false => rw [if_pos rfl, if_neg (by decide)]; rfl
/-- Reduced, by the frame. -/
theorem reduced_iff {n : Nat} {b : List (List Int)} (h : Wide n b) : Si18.reduced n b = true ↔ ∀ k, k < n → (∀ j, j < k → Fit n (fam b) j (fam b k)) ∧ (0 < k → Si18.holds b k = true) := by
  unfold Si18.reduced
  rw [List.all_eq_true]
  constructor
  · intro q k hk
    have := q k (List.mem_range.2 hk)
    rw [Bool.and_eq_true, List.all_eq_true] at this
    refine ⟨fun j hj => ?_, fun h0 => ?_⟩
    · have r := this.1 j (List.mem_range.2 hj)
      rw [Bool.and_eq_true, decide_eq_true_eq, decide_eq_true_eq, vol_gd h, lam_gg h] at r
      exact r
    · have r := this.2
      rw [Bool.or_eq_true] at r
      rcases r with r | r
      · have : k = 0 := by simpa using r
        omega
      · exact r
  · intro q k hk
    have hk := List.mem_range.1 hk
    obtain ⟨a, c⟩ := q k hk
    rw [Bool.and_eq_true, List.all_eq_true, Bool.or_eq_true]
    refine ⟨fun j hj => ?_, ?_⟩
    · rw [Bool.and_eq_true, decide_eq_true_eq, decide_eq_true_eq, vol_gd h, lam_gg h]
      exact a j (List.mem_range.1 hj)
    · by_cases z : k = 0
      · exact .inl (by simp [z])
      · exact .inr (c (by omega))
/-! ### near -/
theorem near_eq (n : Int) (b t : List Int) : PySi18.near n b t = ans (if Si18.size n = false then Si18.say (-2) else if (Si18.given n (Si18Neutral.rowsIn n b) && Si18.small t) = false then Si18.say (-3) else ⟨square (Si18.minus (Si18.nearOf n.toNat (Si18Neutral.rowsIn n b) t) t), Si18.nearOf n.toNat (Si18Neutral.rowsIn n b) t⟩) := rfl
theorem near_bad {n : Int} {b t : List Int} (h : n < 1 ∨ n > 5) : PySi18.near n b t = [-2] := by
  rw [near_eq, if_pos (not_size h)]
  rfl
theorem near_len {n : Nat} {b t : List Int} (h : PySi18.near_asked (n : Int) b t = true) (h1 : 1 ≤ n) (h5 : n ≤ 5) : b.length = n * n ∧ t.length = n := by
  unfold PySi18.near_asked Si18Neutral.asked at h
  simp only [List.all_cons, List.all_nil, Bool.and_true, Bool.and_eq_true] at h
  have h' : (Si18Neutral.whole32 (n : Int) && (Si18Neutral.long b n (n * n) && Si18Neutral.long t n n)) = true := h.1
  rw [Bool.and_eq_true, Bool.and_eq_true] at h'
  have e1 := long_len h'.2.1 (size_true.mpr ⟨by omega, by omega⟩)
  have e2 := long_len h'.2.2 (size_true.mpr ⟨by omega, by omega⟩)
  rw [← Int.natCast_mul] at e1
  omega
theorem near_light {n : Nat} {b t : List Int} (h : PySi18.near_asked (n : Int) b t = true) (h1 : 1 ≤ n) (h5 : n ≤ 5) (g : Si18.given (n : Int) (Si18Neutral.rowsOf (n : Int) b) = true) (st : Si18.small t = true) : Si18.narrow (n : Int) (Si18Neutral.rowsOf (n : Int) b) = true := by
  unfold PySi18.near_asked Si18Neutral.asked at h
  simp only [List.all_cons, List.all_nil, Bool.and_true, Bool.and_eq_true] at h
  have l : (!Si18.size (n : Int) || (!Si18.given (n : Int) (Si18Neutral.rowsIn (n : Int) b) || (!Si18.small t || Si18.narrow (n : Int) (Si18Neutral.rowsIn (n : Int) b)))) = true := h.2.2
  rw [rowsIn_of h1 h5, size_true.mpr ⟨by omega, by omega⟩, g, st] at l
  simpa using l
theorem near_good {n : Nat} {b t : List Int} (hb : b.length = n * n) (h1 : 1 ≤ n) (h5 : n ≤ 5) :
    PySi18.near (n : Int) b t = if (okB n b && Si18.small t) = true then square (Si18.minus (Si18.nearOf n (Si18Neutral.rowsOf (n : Int) b) t) t) :: Si18.nearOf n (Si18Neutral.rowsOf (n : Int) b) t else [-3] := by
  rw [near_eq, rowsIn_of h1 h5, if_neg (by rw [size_true.mpr ⟨by omega, by omega⟩]; decide), given_eq hb, Int.toNat_natCast]
  show _ = if (((b.all fun x => decide (x.natAbs ≤ 1000)) && Si18.det n (Si18Neutral.rowsOf (n : Int) b) != 0) && Si18.small t) = true then _ else _
  generalize (((b.all fun x => decide (x.natAbs ≤ 1000)) && Si18.det n (Si18Neutral.rowsOf (n : Int) b) != 0) && Si18.small t) = c
  cases c with
  | true => rw [if_neg (by decide), if_pos rfl]; rfl
  | false => rw [if_pos rfl, if_neg (by decide)]; rfl
theorem small_eq (t : List Int) : Si18.small t = t.all fun x => decide (x.natAbs ≤ 1000) := by
  unfold Si18.small
  congr 1
  funext x
  unfold Si18.within
  rw [Bool.eq_iff_iff, Bool.and_eq_true, decide_eq_true_eq, decide_eq_true_eq, decide_eq_true_eq]
  omega
/-! ### count -/
theorem count_eq (n r : Int) (b : List Int) : PySi18.count n r b = ans (if (Si18.size n && Si18.within r 0 400) = false then Si18.say (-2) else if Si18.given n (Si18Neutral.rowsIn n b) = false then Si18.say (-3) else ⟨0, [((Si18.pointsIn n.toNat (Si18Neutral.rowsIn n b) r.toNat).length : Nat)]⟩) := rfl
theorem within_iff {r : Int} : Si18.within r 0 400 = true ↔ 0 ≤ r ∧ r ≤ 400 := by
  unfold Si18.within
  rw [Bool.and_eq_true, decide_eq_true_eq, decide_eq_true_eq]
theorem count_bad {n r : Int} {b : List Int} (h : n < 1 ∨ n > 5 ∨ r < 0 ∨ r > 400) : PySi18.count n r b = [-2] := by
  rw [count_eq, if_pos]
  · rfl
  · by_cases q : n < 1 ∨ n > 5
    · rw [not_size q]; rfl
    · have : Si18.within r 0 400 = false := by
        cases e : Si18.within r 0 400 with
        | false => rfl
        | true => have := within_iff.1 e; omega
      rw [this, Bool.and_false]
theorem count_len {n : Nat} {r : Int} {b : List Int} (h : PySi18.count_asked (n : Int) r b = true) (h1 : 1 ≤ n) (h5 : n ≤ 5) : b.length = n * n := by
  unfold PySi18.count_asked Si18Neutral.asked at h
  simp only [List.all_cons, List.all_nil, Bool.and_true, Bool.and_eq_true] at h
  have h' : (Si18Neutral.whole32 (n : Int) && (Si18Neutral.whole32 r && Si18Neutral.long b n (n * n))) = true := h.1
  rw [Bool.and_eq_true, Bool.and_eq_true] at h'
  have e1 := long_len h'.2.2 (size_true.mpr ⟨by omega, by omega⟩)
  rw [← Int.natCast_mul] at e1
  omega
theorem count_light {n : Nat} {r : Int} {b : List Int} (h : PySi18.count_asked (n : Int) r b = true) (h1 : 1 ≤ n) (h5 : n ≤ 5) (hr : 0 ≤ r ∧ r ≤ 400) (g : Si18.given (n : Int) (Si18Neutral.rowsOf (n : Int) b) = true) : Si18.narrow (n : Int) (Si18Neutral.rowsOf (n : Int) b) = true ∧ r ≤ (if (n : Int) ≤ 3 then 400 else if (n : Int) = 4 then 60 else 12) := by
  unfold PySi18.count_asked Si18Neutral.asked at h
  simp only [List.all_cons, List.all_nil, Bool.and_true, Bool.and_eq_true] at h
  have l : (!Si18.size (n : Int) || (!Si18.within r 0 400 || (!Si18.given (n : Int) (Si18Neutral.rowsIn (n : Int) b) || (Si18.narrow (n : Int) (Si18Neutral.rowsIn (n : Int) b) && decide (r ≤ if (n : Int) ≤ 3 then 400 else if (n : Int) = 4 then 60 else 12))))) = true := h.2.2
  rw [rowsIn_of h1 h5, size_true.mpr ⟨by omega, by omega⟩, g, within_iff.2 hr] at l
  simpa using l
theorem count_good {n : Nat} {r : Int} {b : List Int} (hb : b.length = n * n) (h1 : 1 ≤ n) (h5 : n ≤ 5) (hr : 0 ≤ r ∧ r ≤ 400) :
    PySi18.count (n : Int) r b = if okB n b = true then [0, (((Si18.pointsIn n (Si18Neutral.rowsOf (n : Int) b) r.toNat).length : Nat) : Int)] else [-3] := by
  rw [count_eq, rowsIn_of h1 h5, if_neg (by rw [size_true.mpr ⟨by omega, by omega⟩, within_iff.2 hr]; decide), given_eq hb, Int.toNat_natCast]
  show _ = if ((b.all fun x => decide (x.natAbs ≤ 1000)) && Si18.det n (Si18Neutral.rowsOf (n : Int) b) != 0) = true then _ else _
  generalize ((b.all fun x => decide (x.natAbs ≤ 1000)) && Si18.det n (Si18Neutral.rowsOf (n : Int) b) != 0) = c
  cases c with
  | true => rw [if_neg (by decide), if_pos rfl]; rfl
  | false => rw [if_pos rfl, if_neg (by decide)]; rfl
end Mx

set_option Elab.async false
set_option linter.all false
set_option maxRecDepth 100000
set_option maxHeartbeats 4000000
namespace Py
open PySem PySem.Spec PyProof.Rows L2
/-! ### The text: each def by its name -/
def prg : Program := PySem.Challenge.pw_gridsteps_s03_short
def isDef (x : Str) : Stmt → Bool
  | .FunctionDef n _ _ _ _ _ _ _ _ _ => decide (n = x)
  | _ => false
def S (x : Str) : Stmt := ((PySem.Challenge.pw_gridsteps_s03_short.main.body.find? (isDef x)).getD (.Pass ⟨0, 0, 0, 0⟩))
structure FF (K : PySem.W.Frag) (mg : Str → Option Value) (x : Str) (ps : List Str) (f : Addr) (fd : FuncData) : Prop where
  F : Fun K x x (S x) f fd
  g : mg x = some (.ref f)
  b : Binds K fd ps []
abbrev N_split_rows : List Str := ["n", "numbers", "place"]
theorem sc_split_rows : FnScope N_split_rows ["n", "numbers"] (defScope (S "split_rows")) := ⟨by rfl, by rfl, by rfl, by decide +kernel, by rfl, by decide +kernel, by decide +kernel⟩
abbrev N_product : List Str := ["row", "other", "x", "y"]
theorem sc_product : FnScope N_product ["row", "other"] (defScope (S "product")) := ⟨by rfl, by rfl, by rfl, by decide +kernel, by rfl, by decide +kernel, by decide +kernel⟩
abbrev N_square : List Str := ["row"]
theorem sc_square : FnScope N_square ["row"] (defScope (S "square")) := ⟨by rfl, by rfl, by rfl, by decide +kernel, by rfl, by decide +kernel, by decide +kernel⟩
abbrev N_plus : List Str := ["row", "times", "other", "x", "y"]
theorem sc_plus : FnScope N_plus ["row", "times", "other"] (defScope (S "plus")) := ⟨by rfl, by rfl, by rfl, by decide +kernel, by rfl, by decide +kernel, by decide +kernel⟩
abbrev N_without : List Str := ["rows", "place", "column", "kept", "row"]
theorem sc_without : FnScope N_without ["rows", "place", "column"] (defScope (S "without")) := ⟨by rfl, by rfl, by rfl, by decide +kernel, by rfl, by decide +kernel, by decide +kernel⟩
abbrev N_cofactor : List Str := ["rows", "place", "column", "part"]
theorem sc_cofactor : FnScope N_cofactor ["rows", "place", "column"] (defScope (S "cofactor")) := ⟨by rfl, by rfl, by rfl, by decide +kernel, by rfl, by decide +kernel, by decide +kernel⟩
abbrev N_cofactors : List Str := ["rows", "place", "column"]
theorem sc_cofactors : FnScope N_cofactors ["rows", "place"] (defScope (S "cofactors")) := ⟨by rfl, by rfl, by rfl, by decide +kernel, by rfl, by decide +kernel, by decide +kernel⟩
abbrev N_determinant : List Str := ["rows"]
theorem sc_determinant : FnScope N_determinant ["rows"] (defScope (S "determinant")) := ⟨by rfl, by rfl, by rfl, by decide +kernel, by rfl, by decide +kernel, by decide +kernel⟩
abbrev N_ladder_row : List Str := ["rows", "table", "row", "numbers", "place", "own", "others", "number", "lower", "widened"]
theorem sc_ladder_row : FnScope N_ladder_row ["rows", "table", "row"] (defScope (S "ladder_row")) := ⟨by rfl, by rfl, by rfl, by decide +kernel, by rfl, by decide +kernel, by decide +kernel⟩
abbrev N_ladder : List Str := ["rows", "table", "place"]
theorem sc_ladder : FnScope N_ladder ["rows"] (defScope (S "ladder")) := ⟨by rfl, by rfl, by rfl, by decide +kernel, by rfl, by decide +kernel, by decide +kernel⟩
abbrev N_leading : List Str := ["table", "size"]
theorem sc_leading : FnScope N_leading ["table", "size"] (defScope (S "leading")) := ⟨by rfl, by rfl, by rfl, by decide +kernel, by rfl, by decide +kernel, by decide +kernel⟩
abbrev N_nearest : List Str := ["number", "part"]
theorem sc_nearest : FnScope N_nearest ["number", "part"] (defScope (S "nearest")) := ⟨by rfl, by rfl, by rfl, by decide +kernel, by rfl, by decide +kernel, by decide +kernel⟩
abbrev N_lessened : List Str := ["rows", "place", "ahead", "table", "row", "lower", "numbers"]
theorem sc_lessened : FnScope N_lessened ["rows", "place"] (defScope (S "lessened")) := ⟨by rfl, by rfl, by rfl, by decide +kernel, by rfl, by decide +kernel, by decide +kernel⟩
abbrev N_in_order : List Str := ["table", "place", "slant", "space"]
theorem sc_in_order : FnScope N_in_order ["table", "place"] (defScope (S "in_order")) := ⟨by rfl, by rfl, by rfl, by decide +kernel, by rfl, by decide +kernel, by decide +kernel⟩
abbrev N_reduced : List Str := ["rows", "done", "place", "upper"]
theorem sc_reduced : FnScope N_reduced ["rows"] (defScope (S "reduced")) := ⟨by rfl, by rfl, by rfl, by decide +kernel, by rfl, by decide +kernel, by decide +kernel⟩
abbrev N_root : List Str := ["number", "guess"]
theorem sc_root : FnScope N_root ["number"] (defScope (S "root")) := ⟨by rfl, by rfl, by rfl, by decide +kernel, by rfl, by decide +kernel, by decide +kernel⟩
abbrev N_moved_along : List Str := ["rows", "table", "place", "point", "bound", "numbers", "size", "room", "least", "most", "times"]
theorem sc_moved_along : FnScope N_moved_along ["rows", "table", "place", "point", "bound"] (defScope (S "moved_along")) := ⟨by rfl, by rfl, by rfl, by decide +kernel, by rfl, by decide +kernel, by decide +kernel⟩
abbrev N_points_about : List Str := ["rows", "table", "start", "bound", "points", "place", "moved", "point"]
theorem sc_points_about : FnScope N_points_about ["rows", "table", "start", "bound"] (defScope (S "points_about")) := ⟨by rfl, by rfl, by rfl, by decide +kernel, by rfl, by decide +kernel, by decide +kernel⟩
abbrev N_short_points : List Str := ["rows", "done", "table", "points", "bound", "place", "times", "start", "x"]
theorem sc_short_points : FnScope N_short_points ["rows"] (defScope (S "short_points")) := ⟨by rfl, by rfl, by rfl, by decide +kernel, by rfl, by decide +kernel, by decide +kernel⟩
abbrev N_upright : List Str := ["point", "x"]
theorem sc_upright : FnScope N_upright ["point"] (defScope (S "upright")) := ⟨by rfl, by rfl, by rfl, by decide +kernel, by rfl, by decide +kernel, by decide +kernel⟩
abbrev N_first_shortest : List Str := ["points"]
theorem sc_first_shortest : FnScope N_first_shortest ["points"] (defScope (S "first_shortest")) := ⟨by rfl, by rfl, by rfl, by decide +kernel, by rfl, by decide +kernel, by decide +kernel⟩
abbrev N_refusal : List Str := ["n", "lists", "numbers", "number"]
theorem sc_refusal : FnScope N_refusal ["n", "lists"] (defScope (S "refusal")) := ⟨by rfl, by rfl, by rfl, by decide +kernel, by rfl, by decide +kernel, by decide +kernel⟩
abbrev N_grid_refusal : List Str := ["n", "grids", "refused", "numbers"]
theorem sc_grid_refusal : FnScope N_grid_refusal ["n", "grids"] (defScope (S "grid_refusal")) := ⟨by rfl, by rfl, by rfl, by decide +kernel, by rfl, by decide +kernel, by decide +kernel⟩
abbrev N_short : List Str := ["n", "b", "refused", "points", "point"]
theorem sc_short : FnScope N_short ["n", "b"] (defScope (S "short")) := ⟨by rfl, by rfl, by rfl, by decide +kernel, by rfl, by decide +kernel, by decide +kernel⟩
structure Txt (K : PySem.W.Frag) (mg : Str → Option Value) where
  a_split_rows : Addr
  d_split_rows : FuncData
  x_split_rows : FF K mg "split_rows" ["n", "numbers"] a_split_rows d_split_rows
  a_product : Addr
  d_product : FuncData
  x_product : FF K mg "product" ["row", "other"] a_product d_product
  a_square : Addr
  d_square : FuncData
  x_square : FF K mg "square" ["row"] a_square d_square
  a_plus : Addr
  d_plus : FuncData
  x_plus : FF K mg "plus" ["row", "times", "other"] a_plus d_plus
  a_without : Addr
  d_without : FuncData
  x_without : FF K mg "without" ["rows", "place", "column"] a_without d_without
  a_cofactor : Addr
  d_cofactor : FuncData
  x_cofactor : FF K mg "cofactor" ["rows", "place", "column"] a_cofactor d_cofactor
  a_cofactors : Addr
  d_cofactors : FuncData
  x_cofactors : FF K mg "cofactors" ["rows", "place"] a_cofactors d_cofactors
  a_determinant : Addr
  d_determinant : FuncData
  x_determinant : FF K mg "determinant" ["rows"] a_determinant d_determinant
  a_ladder_row : Addr
  d_ladder_row : FuncData
  x_ladder_row : FF K mg "ladder_row" ["rows", "table", "row"] a_ladder_row d_ladder_row
  a_ladder : Addr
  d_ladder : FuncData
  x_ladder : FF K mg "ladder" ["rows"] a_ladder d_ladder
  a_leading : Addr
  d_leading : FuncData
  x_leading : FF K mg "leading" ["table", "size"] a_leading d_leading
  a_nearest : Addr
  d_nearest : FuncData
  x_nearest : FF K mg "nearest" ["number", "part"] a_nearest d_nearest
  a_lessened : Addr
  d_lessened : FuncData
  x_lessened : FF K mg "lessened" ["rows", "place"] a_lessened d_lessened
  a_in_order : Addr
  d_in_order : FuncData
  x_in_order : FF K mg "in_order" ["table", "place"] a_in_order d_in_order
  a_reduced : Addr
  d_reduced : FuncData
  x_reduced : FF K mg "reduced" ["rows"] a_reduced d_reduced
  a_root : Addr
  d_root : FuncData
  x_root : FF K mg "root" ["number"] a_root d_root
  a_moved_along : Addr
  d_moved_along : FuncData
  x_moved_along : FF K mg "moved_along" ["rows", "table", "place", "point", "bound"] a_moved_along d_moved_along
  a_points_about : Addr
  d_points_about : FuncData
  x_points_about : FF K mg "points_about" ["rows", "table", "start", "bound"] a_points_about d_points_about
  a_short_points : Addr
  d_short_points : FuncData
  x_short_points : FF K mg "short_points" ["rows"] a_short_points d_short_points
  a_upright : Addr
  d_upright : FuncData
  x_upright : FF K mg "upright" ["point"] a_upright d_upright
  a_first_shortest : Addr
  d_first_shortest : FuncData
  x_first_shortest : FF K mg "first_shortest" ["points"] a_first_shortest d_first_shortest
  a_refusal : Addr
  d_refusal : FuncData
  x_refusal : FF K mg "refusal" ["n", "lists"] a_refusal d_refusal
  a_grid_refusal : Addr
  d_grid_refusal : FuncData
  x_grid_refusal : FF K mg "grid_refusal" ["n", "grids"] a_grid_refusal d_grid_refusal
  a_short : Addr
  d_short : FuncData
  x_short : FF K mg "short" ["n", "b"] a_short d_short
  b_abs : mg "abs" = none
  b_len : mg "len" = none
  b_list : mg "list" = none
  b_max : mg "max" = none
  b_min : mg "min" = none
  b_range : mg "range" = none
  b_sum : mg "sum" = none
  b_zip : mg "zip" = none
  t_LARGEST_SIZE : Tok
  c_LARGEST_SIZE : mg "LARGEST_SIZE" = some (.int (5) t_LARGEST_SIZE)
  t_LARGEST_NUMBER : Tok
  c_LARGEST_NUMBER : mg "LARGEST_NUMBER" = some (.int (1000) t_LARGEST_NUMBER)
  t_WRONG_SIZE : Tok
  c_WRONG_SIZE : mg "WRONG_SIZE" = some (.int (-2) t_WRONG_SIZE)
  t_WRONG_ROWS : Tok
  c_WRONG_ROWS : mg "WRONG_ROWS" = some (.int (-3) t_WRONG_ROWS)
/-! ## matrix.py -/
section
variable {P : Program} {w : World} {K : PySem.W.Frag} {mg : Str → Option Value} {base : Heap}
theorem nums_map (ns : List Int) : nums ns = ns.map MP.i := rfl
theorem cut_take {B : Type} (xs : List B) (k : Nat) : cutL xs none (some (k : Int)) = xs.take k := by
  unfold cutL
  rw [HT.sIx_none, HT.sIx_nat, List.drop_zero, Nat.sub_zero]
  by_cases h : k ≤ xs.length
  · rw [Nat.min_eq_left h]
  · rw [Nat.min_eq_right (by omega), List.take_length, List.take_of_length_le (by omega)]
theorem cut_drop {B : Type} (xs : List B) (k : Nat) : cutL xs (some (k : Int)) none = xs.drop k := by
  unfold cutL
  rw [HT.sIx_none, HT.sIx_nat]
  by_cases h : k ≤ xs.length
  · rw [Nat.min_eq_left h, List.take_of_length_le (by rw [List.length_drop]; omega)]
  · rw [Nat.min_eq_right (by omega), List.drop_length, List.drop_of_length_le (by omega)]
    simp
theorem cut_mid {B : Type} (xs : List B) (i j : Nat) (h : j ≤ xs.length) (hij : i ≤ j) : cutL xs (some (i : Int)) (some (j : Int)) = (xs.drop i).take (j - i) := by
  unfold cutL
  rw [HT.sIx_nat, HT.sIx_nat, Nat.min_eq_left h, Nat.min_eq_left (by omega)]
theorem cut_erase {B : Type} (xs : List B) (k : Nat) : cutL xs none (some (k : Int)) ++ cutL xs (some ((k : Int) + 1)) none = xs.eraseIdx k := by
  rw [show (k : Int) + 1 = ((k + 1 : Nat) : Int) by omega, cut_take, cut_drop, List.eraseIdx_eq_take_drop_succ]

theorem map_erase {B D : Type} (f : B → D) (xs : List B) (k : Nat) : (xs.map f).eraseIdx k = (xs.eraseIdx k).map f := by
  rw [List.eraseIdx_eq_take_drop_succ, List.eraseIdx_eq_take_drop_succ, List.map_append, List.map_take, List.map_drop]

/-! split_rows -/
def spSplit (K : PySem.W.Frag) : Sp := spF (fun (c : Nat × List Int) => c.1 ≤ 5 ∧ c.2.length = c.1 * c.1) (fun c => [.i (c.1 : Int), .il K c.2]) (fun c => .rows (Si18Neutral.rowsOf (c.1 : Int) c.2))
theorem ok_split_rows (T : Txt K mg) : FnOk P w K mg base CX0 1 T.a_split_rows T.d_split_rows ["n", "numbers"] (spSplit K) := by
  refine T.x_split_rows.F.ok sc_split_rows (spF_len fun _ => rfl) (fun cdv A outer s H vs Q E hr h => ?_)
  refine ⟨_, (pss_one (ps_ret (pe_lc (own := [("place", 2)]) (g := gName 2) (tt := tYes) rfl sc_split_rows.nd (pi_range1 rfl T.b_range (pa_cons (pv 0) pa_nil)) (blkOk_by (own := [("place", 2)]) (N := N_split_rows) (sc := defScope (S "split_rows")) (by decide +kernel)) (fun _ _ _ _ _ => (pg_name (i := 2) sc_split_rows.nd rfl (by first | exact Or.inl rfl | exact Or.inr rfl))) (fun _ _ _ _ _ => pts_nil) (fun _ _ _ _ _ => (pe_slice (r := rSlL K) sl_list (pv 1) (po_some (pe_op op_mulW (pv 2) (pv 0))) (po_some (pe_op op_mulW (pe_op op_add (pv 2) pe_int) (pv 0)))))))), ?_⟩
  refine spF_body h fun ⟨n, b⟩ ⟨hn, hb⟩ => ?_
  dsimp only at hn hb ⊢
  refine ex_ret (ev_lc_map (List.range n) (fun i => .i (i : Nat)) (fun i => .row ((b.drop (i * n)).take n)) (ei_range1 (j := (n : Int)) (ea_cons (ev_var rfl) ea_nil) (by omega) (by omega)) (by simp; exact Nat.le_trans hn (by decide))
    fun i hi => ⟨[2], _, eg_name, by simp, Ev.of_eq (ev_slice (ev_var rfl) (eo_some (ev_int (ev_var rfl) (ev_var rfl) ?_)) (eo_some (ev_int (ev_int0 (ev_var rfl) (ev_c _)) (ev_var rfl) ?_))) ?_⟩) ?_
  · have hi' : i < n := by simpa using hi
    exact wide_mul (a := 10) (b := 10) (by omega) (by omega) (by decide) (by decide) (by decide)
  · have hi' : i < n := by simpa using hi
    exact wide_mul (a := 10) (b := 10) (by omega) (by omega) (by decide) (by decide) (by decide)
  · have hi' : i < n := by simpa using hi
    have h1 : (i + 1) * n ≤ n * n := Nat.mul_le_mul_right _ hi'
    have e1 : (i : Int) * (n : Int) = ((i * n : Nat) : Int) := by rw [Int.natCast_mul]
    have e2 : ((i : Int) + 1) * (n : Int) = (((i + 1) * n : Nat) : Int) := by rw [Int.natCast_mul]; rfl
    rw [nums_map, cutL_map, e1, e2, cut_mid _ _ _ (by omega) (Nat.mul_le_mul_right _ (by omega)), show (i + 1) * n - i * n = n by rw [Nat.add_mul]; omega]
    rfl
  · show MP.le _ (MP.rows (Si18Neutral.rowsOf (n : Int) b))
    unfold Si18Neutral.rowsOf
    rw [Int.toNat_natCast, MP.rows, List.map_map]
    exact MP.le.rfl

/-! product -/
def spProd (K : PySem.W.Frag) : Sp := spF (fun (c : Mx.Row × Mx.Row × Nat × Nat) => Mx.BigR c.2.2.1 c.1 ∧ Mx.BigR c.2.2.2 c.2.1 ∧ c.2.2.1 + c.2.2.2 + 2 ≤ 1000000 ∧ c.1.length ≤ 1000) (fun c => [.il K c.1, .il K c.2.1]) (fun c => .i (Si18.dot c.1 c.2.1))
theorem zip_nums : ∀ (xs ys : List Int), List.zipWith (fun F E => MP.tup [F, E]) (nums xs) (nums ys) = (List.zip xs ys).map fun p => MP.tup [.i p.1, .i p.2]
  | [], _ => by simp [nums]
  | _ :: _, [] => by simp [nums]
  | x :: xs, y :: ys => by
    have := zip_nums xs ys
    simp only [nums, List.map_cons, List.zipWith_cons_cons, List.zip_cons_cons] at this ⊢
    rw [this]
theorem ok_product (T : Txt K mg) : FnOk P w K mg base CX0 1 T.a_product T.d_product ["row", "other"] (spProd K) := by
  refine T.x_product.F.ok sc_product (spF_len fun _ => rfl) (fun cdv A outer s H vs Q E hr h => ?_)
  refine ⟨_, (pss_one (ps_ret (pe_callB (r := rSum K) (cr_sum rfl) (by rfl) T.b_sum (by decide +kernel) (pa_cons (pe_lc (own := [("x", 2), ("y", 3)]) (g := gTup _ 2 (gCons (gName 2) (gCons (gName 3) gNil))) (tt := tYes) rfl sc_product.nd (pi_zip (by rfl) T.b_zip (pa_cons (pv 0) (pa_cons (pv 1) pa_nil))) (blkOk_by (own := [("x", 2), ("y", 3)]) (N := N_product) (sc := defScope (S "product")) (by decide +kernel)) (fun _ _ _ _ _ => (pg_tup rfl (pgs_cons (pg_name (i := 2) sc_product.nd rfl (by first | exact Or.inl rfl | exact Or.inr rfl)) (pgs_cons (pg_name (i := 3) sc_product.nd rfl (by first | exact Or.inl rfl | exact Or.inr rfl)) pgs_nil)))) (fun _ _ _ _ _ => pts_nil) (fun _ _ _ _ _ => (pe_op op_mulW (pv 2) (pv 3)))) pa_nil)))), ?_⟩
  refine spF_body h fun ⟨xs, ys, a, b⟩ ⟨h1, h2, h3, h4⟩ => ?_
  dsimp only at h1 h2 h3 h4 ⊢
  have e : (List.zip xs ys).map (fun p => MP.i (p.1 * p.2)) = nums (List.zipWith (fun (x y : Int) => x * y) xs ys) := by
    rw [nums_map, ← List.map_uncurry_zip_eq_zipWith, List.map_map]
    rfl
  refine ex_ret (ev_sum (ns := List.zipWith (fun (x y : Int) => x * y) xs ys) (ea_cons (Ev.sq (Ev.of_eq (ev_lc_map (List.zip xs ys) (fun p => MP.tup [.i p.1, .i p.2]) (fun p => MP.i (p.1 * p.2)) (Ei.of_eq (ei_zip (ea_cons (ev_var rfl) (ea_cons (ev_var rfl) ea_nil))) (zip_nums xs ys)) ?_
    fun p hp => ⟨[2, 3], _, eg_tup2, by simp, ev_int (ev_var rfl) (ev_var rfl) ?_⟩) (congrArg MP.lst e))) ea_nil)) MP.le.rfl
  · rw [List.length_zip]
    exact Nat.le_trans (Nat.min_le_left _ _) (Nat.le_trans h4 (by decide))
  · have hx := h1 p.1 (List.of_mem_zip hp).1
    have hy := h2 p.2 (List.of_mem_zip hp).2
    exact wide_mul (a := a + 1) (b := b + 1) (Mx.abs_mono hx (by omega)) (Mx.abs_mono hy (by omega)) (by omega) (by omega) (by omega)

/-! without -/
def spWithout (K : PySem.W.Frag) : Sp := spF (fun (c : Mx.Rows × Nat × Nat) => c.1.length ≤ 1000 ∧ ∀ r ∈ c.1, r.length ≤ 1000) (fun c => [.ill K c.1, .i (c.2.1 : Int), .i (c.2.2 : Int)]) (fun c => .rows (Mx.minor c.1 c.2.1 c.2.2))
theorem ok_without (T : Txt K mg) : FnOk P w K mg base CX0 1 T.a_without T.d_without ["rows", "place", "column"] (spWithout K) := by
  refine T.x_without.F.ok sc_without (spF_len fun _ => rfl) (fun cdv A outer s H vs Q E hr h => ?_)
  refine ⟨_, (pss_cons (ps_set (i := 3) sc_without.nd rfl (by first | exact Or.inl rfl | exact Or.inr rfl) (pe_op op_cat (pe_slice (r := rSlL K) sl_list (pv 0) po_none (po_some (pv 1))) (pe_slice (r := rSlL K) sl_list (pv 0) (po_some (pe_op op_add (pv 1) pe_int)) po_none))) (pss_one (ps_ret (pe_lc (own := [("row", 4)]) (g := gName 4) (tt := tYes) rfl sc_without.nd (pi_list (pv 3)) (blkOk_by (own := [("row", 4)]) (N := N_without) (sc := defScope (S "without")) (by decide +kernel)) (fun _ _ _ _ _ => (pg_name (i := 4) sc_without.nd rfl (by first | exact Or.inl rfl | exact Or.inr rfl))) (fun _ _ _ _ _ => pts_nil) (fun _ _ _ _ _ => (pe_op op_cat (pe_slice (r := rSlL K) sl_list (pv 4) po_none (po_some (pv 2))) (pe_slice (r := rSlL K) sl_list (pv 4) (po_some (pe_op op_add (pv 2) pe_int)) po_none))))))), ?_⟩
  refine spF_body h fun ⟨rs, p, q⟩ ⟨h1, h2⟩ => ?_
  dsimp only at h1 h2 ⊢
  have big : (1000 : Nat) + 1000 ≤ sizeLine := by decide
  have cl : ∀ {B : Type} (xs : List B) (lo hi : Option Int), (cutL xs lo hi).length ≤ xs.length := fun xs lo hi => by
    unfold cutL
    rw [List.length_take, List.length_drop]
    omega
  refine ex_seq (ex_set (ev_cat (ev_slice (ev_var rfl) eo_none (eo_some (ev_var rfl))) (ev_slice (ev_var rfl) (eo_some (ev_int0 (ev_var rfl) (ev_c _))) eo_none) ?_) ?_)
  · have c1 := cl (rs.map (MP.il K)) none (some (p : Int))
    have c2 := cl (rs.map (MP.il K)) (some ((p : Int) + 1)) none
    rw [List.length_map] at c1 c2
    exact Nat.le_trans (Nat.add_le_add (Nat.le_trans c1 h1) (Nat.le_trans c2 h1)) big
  · show Ex _ _ _
    have e1 : cutL (rs.map (MP.il K)) none (some (p : Int)) ++ cutL (rs.map (MP.il K)) (some ((p : Int) + 1)) none = (rs.eraseIdx p).map (MP.il K) := by
      rw [cut_erase, map_erase]
    rw [e1]
    refine ex_ret (ev_lc_map (rs.eraseIdx p) (MP.il K) (fun r => .row (r.eraseIdx q)) (ei_list (Ev.sq (ev_var rfl))) ?_ fun r hr' => ⟨[4], _, eg_name, by simp, Ev.of_eq (ev_cat (ev_slice (ev_var rfl) eo_none (eo_some (ev_var rfl))) (ev_slice (ev_var rfl) (eo_some (ev_int0 (ev_var rfl) (ev_c _))) eo_none) ?_) ?_⟩) ?_
    · exact Nat.le_trans (List.length_eraseIdx_le ..) (Nat.le_trans h1 (by decide))
    · have hw := h2 r (List.mem_of_mem_eraseIdx hr')
      have c1 := cl (nums r) none (some (q : Int))
      have c2 := cl (nums r) (some ((q : Int) + 1)) none
      rw [nums_length] at c1 c2
      exact Nat.le_trans (Nat.add_le_add (Nat.le_trans c1 hw) (Nat.le_trans c2 hw)) big
    · rw [cut_erase, nums_map, map_erase]
      rfl
    · show MP.le _ (MP.rows (Mx.minor rs p q))
      unfold Mx.minor
      rw [MP.rows, List.map_map]
      exact MP.le.rfl

/-! determinant, cofactor, cofactors: by the number of rows -/
structure DetPre (m : Nat) (rs : Mx.Rows) (a : Nat) : Prop where
  sq : Mx.Sqr m rs
  hm : m ≤ 5
  big : Mx.Big a rs
  ha : a ≤ 10000
def spDet (K : PySem.W.Frag) (M : Nat) : Sp := spF (fun (c : Nat × Mx.Rows × Nat) => c.1 < M ∧ DetPre c.1 c.2.1 c.2.2) (fun c => [.ill K c.2.1]) (fun c => .i (Si18.det c.1 c.2.1))
def spCof (K : PySem.W.Frag) (M : Nat) : Sp := spF (fun (c : Nat × Mx.Rows × Nat × Nat × Nat) => c.1 ≤ M ∧ DetPre c.1 c.2.1 c.2.2.1 ∧ c.2.2.2.1 < c.1 ∧ c.2.2.2.2 < c.1) (fun c => [.ill K c.2.1, .i (c.2.2.2.1 : Int), .i (c.2.2.2.2 : Int)]) (fun c => .i (Mx.cof c.1 c.2.1 c.2.2.2.1 c.2.2.2.2))
def spCofs (K : PySem.W.Frag) (M : Nat) : Sp := spF (fun (c : Nat × Mx.Rows × Nat × Nat) => c.1 ≤ M ∧ DetPre c.1 c.2.1 c.2.2.1 ∧ c.2.2.2 < c.1) (fun c => [.ill K c.2.1, .i (c.2.2.2 : Int)]) (fun c => .row (Mx.cofs c.1 c.2.1 c.2.2.2))
theorem ok_cofactor (T : Txt K mg) {M : Nat} (G_determinant : FnOk P w K mg base CX0 (3 * M + 1) T.a_determinant T.d_determinant ["rows"] (spDet K M)) : FnOk P w K mg base CX0 (3 * M + 2) T.a_cofactor T.d_cofactor ["rows", "place", "column"] (spCof K M) := by
  have G_without := ok_without (P := P) (w := w) (base := base) T
  refine T.x_cofactor.F.ok (k := 3 * M + 1) sc_cofactor (spF_len fun _ => rfl) (fun cdv A outer s H vs Q E hr h => ?_)
  refine ⟨_, (pss_cons (ps_set (i := 3) sc_cofactor.nd rfl (by first | exact Or.inl rfl | exact Or.inr rfl) (pe_call G_determinant (hr.mono (by omega)) rfl T.x_determinant.g T.x_determinant.F.kp T.x_determinant.b .nil pass0 (pa_cons (pe_call G_without (hr.mono (by omega)) rfl T.x_without.g T.x_without.F.kp T.x_without.b .nil pass0 (pa_cons (pv 0) (pa_cons (pv 1) (pa_cons (pv 2) pa_nil)))) pa_nil))) (pss_one (ps_ret (pe_ifExp (pt_cmpR op_eq (pe_op op_modN (pe_op op_add (pv 1) (pv 2)) pe_int) pe_int (nomark _)) (pv 3) (pe_un un_neg (pv 3)))))), ?_⟩
  refine spF_body h fun ⟨m, rs, a, p, q⟩ ⟨hM, ⟨sq, hm, big, ha⟩, hp, hq⟩ => ?_
  dsimp only at hM sq hm big ha hp hq ⊢
  obtain ⟨m, rfl⟩ : ∃ k, m = k + 1 := ⟨m - 1, by omega⟩
  have hw : rs.length ≤ 1000 ∧ ∀ r ∈ rs, r.length ≤ 1000 := ⟨by rw [sq.len]; omega, fun r hr' => by rw [sq.wide r hr']; omega⟩
  refine ex_seq (ex_set (ev_call (m, Mx.minor rs p q, a) (ea_cons ((ev_call (rs, p, q) (ea_cons (ev_var rfl) (ea_cons (ev_var rfl) (ea_cons (ev_var rfl) ea_nil))) hw).le (MP.rows_ill _)) ea_nil) ⟨by dsimp only; omega, Mx.minor_sqr sq hp hq, by omega, Mx.minor_big big p q, ha⟩) ?_)
  · show Ex _ _ _
    refine ex_ret (ev_if (et_test (ev_eq (ev_int (ev_int0 (ev_var rfl) (ev_var rfl)) (ev_c _) (by decide)) (ev_c _) rfl)) (fun h => ?_) (fun h => ?_)) MP.le.rfl
    · refine Ev.of_eq (ev_var rfl) ?_
      have h' := of_decide_eq_true h
      injection h' with h'
      have e : (p + q) % 2 = 0 := by
        rw [Int.fmod_eq_emod_of_nonneg _ (by decide)] at h'
        omega
      show MP.i (Si18.det m (Mx.minor rs p q)) = MP.i (Mx.cof (m + 1) rs p q)
      unfold Mx.cof
      rw [if_pos e]
      rfl
    · refine Ev.of_eq (ev_un (ev_var rfl)) ?_
      have h' := of_decide_eq_false h
      have e : ¬ (p + q) % 2 = 0 := fun z => h' (by
        rw [Int.fmod_eq_emod_of_nonneg _ (by decide)]
        congr 1
        omega)
      show MP.i (-Si18.det m (Mx.minor rs p q)) = MP.i (Mx.cof (m + 1) rs p q)
      unfold Mx.cof
      rw [if_neg e]
      rfl
theorem ok_cofactors (T : Txt K mg) {M : Nat} (G_cofactor : FnOk P w K mg base CX0 (3 * M + 2) T.a_cofactor T.d_cofactor ["rows", "place", "column"] (spCof K M)) : FnOk P w K mg base CX0 (3 * M + 3) T.a_cofactors T.d_cofactors ["rows", "place"] (spCofs K M) := by
  refine T.x_cofactors.F.ok (k := 3 * M + 2) sc_cofactors (spF_len fun _ => rfl) (fun cdv A outer s H vs Q E hr h => ?_)
  refine ⟨_, (pss_one (ps_ret (pe_lc (own := [("column", 2)]) (g := gName 2) (tt := tYes) rfl sc_cofactors.nd (pi_range1 rfl T.b_range (pa_cons (pe_callB (r := rLenQ K) call_len_seq (by rfl) T.b_len PySem.boot_len (pa_cons (pv 0) pa_nil)) pa_nil)) (blkOk_by (own := [("column", 2)]) (N := N_cofactors) (sc := defScope (S "cofactors")) (by decide +kernel)) (fun _ _ _ _ _ => (pg_name (i := 2) sc_cofactors.nd rfl (by first | exact Or.inl rfl | exact Or.inr rfl))) (fun _ _ _ _ _ => pts_nil) (fun _ _ _ _ _ => (pe_call G_cofactor (hr.mono (by omega)) rfl T.x_cofactor.g T.x_cofactor.F.kp T.x_cofactor.b .nil pass0 (pa_cons (pv 0) (pa_cons (pv 1) (pa_cons (pv 2) pa_nil)))))))), ?_⟩
  refine spF_body h fun ⟨m, rs, a, p⟩ ⟨hM, pre, hp⟩ => ?_
  dsimp only at hM pre hp ⊢
  have hl : (rs.map (MP.il K)).length = m := by rw [List.length_map]; exact pre.sq.len
  have hm := pre.hm
  refine ex_ret (ev_lc_map (List.range m) (fun i => .i (i : Nat)) (fun i => .i (Mx.cof m rs p i)) (Ei.of_eq (ei_range1 (ea_cons (ev_len (ea_cons (ev_var rfl) ea_nil)) ea_nil) (by rw [hl]; omega) (by rw [hl]; omega)) ?_) (by simp; exact Nat.le_trans hm (by decide))
    fun i hi => ⟨[2], _, eg_name, by simp, ev_call (m, rs, a, p, i) (ea_cons (ev_var rfl) (ea_cons (ev_var rfl) (ea_cons (ev_var rfl) ea_nil))) ⟨hM, pre, hp, by simpa using hi⟩⟩) ?_
  · rw [hl]
    rfl
  · show MP.le _ (MP.row (Mx.cofs m rs p))
    unfold Mx.cofs
    rw [MP.row, nums_map, List.map_map]
    exact MP.le.rfl
theorem ok_determinant (T : Txt K mg) {M : Nat} (G_cofactors : FnOk P w K mg base CX0 (3 * M + 3) T.a_cofactors T.d_cofactors ["rows", "place"] (spCofs K M)) : FnOk P w K mg base CX0 (3 * (M + 1) + 1) T.a_determinant T.d_determinant ["rows"] (spDet K (M + 1)) := by
  have G_product := ok_product (P := P) (w := w) (base := base) T
  refine T.x_determinant.F.ok (k := 3 * M + 3) sc_determinant (spF_len fun _ => rfl) (fun cdv A outer s H vs Q E hr h => ?_)
  refine ⟨_, (pss_cons (ps_if (pt_cmpR op_eq (pe_callB (r := rLenQ K) call_len_seq (by rfl) T.b_len PySem.boot_len (pa_cons (pv 0) pa_nil)) pe_int (nomark _)) (pss_one (ps_ret pe_int)) pss_nil) (pss_one (ps_ret (pe_call G_product (hr.mono (by omega)) rfl T.x_product.g T.x_product.F.kp T.x_product.b .nil pass0 (pa_cons (pe_ix (r := rIxL K) ix_list (pv 0) pe_int (fun _ _ => rfl)) (pa_cons (pe_call G_cofactors (hr.mono (by omega)) rfl T.x_cofactors.g T.x_cofactors.F.kp T.x_cofactors.b .nil pass0 (pa_cons (pv 0) (pa_cons pe_int pa_nil))) pa_nil)))))), ?_⟩
  refine spF_body h fun ⟨m, rs, a⟩ ⟨hM, pre⟩ => ?_
  dsimp only at hM pre ⊢
  have hl : (rs.map (MP.il K)).length = m := by rw [List.length_map]; exact pre.sq.len
  have hm := pre.hm
  refine ex_seq (ex_if (et_test (ev_eq (ev_len (ea_cons (ev_var rfl) ea_nil)) (ev_c _) rfl)) (fun h => ?_) (fun h => ?_))
  · have h' := of_decide_eq_true h
    injection h' with h'
    have e : m = 0 := by omega
    subst e
    exact ex_ret (ev_c _) MP.le.rfl
  · have h' := of_decide_eq_false h
    have e : m ≠ 0 := fun z => h' (by rw [hl, z]; rfl)
    obtain ⟨m, rfl⟩ : ∃ k, m = k + 1 := ⟨m - 1, by omega⟩
    obtain ⟨r, l, rfl⟩ : ∃ r l, rs = r :: l := by
      cases rs with
      | nil => have := pre.sq.len; simp at this
      | cons r l => exact ⟨r, l, rfl⟩
    refine ex_next ?_
    show Ex _ _ _
    refine ex_ret (Ev.of_eq (ev_call (r, Mx.cofs (m + 1) (r :: l) 0, a, (m + 1) * (a + 3) + 1) (ea_cons (ev_ix (ev_var rfl) (ev_c _) (atI_of (j := 0) rfl rfl)) (ea_cons ((ev_call (m + 1, r :: l, a, 0) (ea_cons (ev_var rfl) (ea_cons (ev_c _) ea_nil)) ⟨by dsimp only; omega, pre, by dsimp only; omega⟩).le MP.le_sq) ea_nil)) ⟨pre.big r List.mem_cons_self, Mx.cofs_big pre.big (by omega) 0, ?_, ?_⟩) ?_) MP.le.rfl
    · have := pre.ha
      have h1 : (m + 1) * (a + 3) ≤ 5 * 10003 := Nat.mul_le_mul hm (by omega)
      dsimp only
      omega
    · have := pre.sq.wide r List.mem_cons_self
      dsimp only
      omega
    · exact congrArg MP.i (Mx.det_cofs pre.sq)
theorem det_none {f : Addr} {fd : FuncData} {k : Nat} : FnOk P w K mg base CX0 k f fd ["rows"] (spDet K 0) := by
  have no : ∀ vs H Q E, ¬ spDet K 0 vs H Q E := fun vs H Q E h => by
    obtain ⟨G, c, ⟨hc, _⟩, _⟩ := h
    omega
  exact ⟨fun vs H Q E h => absurd h (no vs H Q E), fun A outer s H args us vs Q E _ _ _ _ h => absurd h (no vs H Q E)⟩
theorem det_all (T : Txt K mg) : ∀ M : Nat, FnOk P w K mg base CX0 (3 * M + 1) T.a_determinant T.d_determinant ["rows"] (spDet K M)
  | 0 => det_none
  | M + 1 => ok_determinant T (ok_cofactors T (ok_cofactor T (det_all T M)))
end

/-! ## refusal -/
section
variable {P : Program} {w : World} {K : PySem.W.Frag} {mg : Str → Option Value} {base : Heap}
def within (ns : List Int) : Bool := ns.all fun x => decide (x.natAbs ≤ 1000)
def refuse (n : Int) (ls : List (List Int)) : Int := if n < 1 ∨ n > 5 then -2 else if ls.all within = true then 0 else -3
def spRefusal (K : PySem.W.Frag) : Sp := spF (fun (_ : Int × List (List Int)) => True) (fun c => [.i c.1, .ill K c.2]) (fun c => .i (refuse c.1 c.2))
theorem ok_refusal (T : Txt K mg) : FnOk P w K mg base CX0 1 T.a_refusal T.d_refusal ["n", "lists"] (spRefusal K) := by
  refine T.x_refusal.F.ok sc_refusal (spF_len fun _ => rfl) (fun cdv A outer s H vs Q E hr h => ?_)
  refine ⟨_, (pss_cons (ps_if (PW.pt (pw_or (pt_cmpR op_lt (pv 0) pe_int (nomark _)) (pw_or1 (pt_cmpR op_gt (pv 0) (pe_glob (v := .int (5)) rfl T.c_LARGEST_SIZE ⟨_, rfl⟩) (nomark _))))) (pss_one (ps_ret (pe_glob (v := .int (-2)) rfl T.c_WRONG_SIZE ⟨_, rfl⟩))) pss_nil) (pss_cons (ps_for PassesOwn.never rfl (pi_list (pv 1)) (pg_name (i := 2) sc_refusal.nd rfl (by first | exact Or.inl rfl | exact Or.inr rfl)) (pss_one (ps_for PassesOwn.never rfl (pi_list (pv 2)) (pg_name (i := 3) sc_refusal.nd rfl (by first | exact Or.inl rfl | exact Or.inr rfl)) (pss_one (ps_if (pt_cmpR op_gt (pe_callB call_abs (by rfl) T.b_abs (by decide +kernel) (pa_cons (pv 3) pa_nil)) (pe_glob (v := .int (1000)) rfl T.c_LARGEST_NUMBER ⟨_, rfl⟩) (nomark _)) (pss_one (ps_ret (pe_glob (v := .int (-3)) rfl T.c_WRONG_ROWS ⟨_, rfl⟩))) pss_nil))))) (pss_one (ps_ret pe_int)))), ?_⟩
  refine spF_body h fun ⟨n, ls⟩ _ => ?_
  dsimp only
  refine ex_seq (ex_if (et_or (et_test (ev_int0 (ev_var rfl) (ev_c _))) fun _ => et_test (ev_int0 (ev_var rfl) (ev_c _))) (fun h => ?_) (fun h => ?_))
  · rw [Bool.or_eq_true, decide_eq_true_eq, decide_eq_true_eq] at h
    refine ex_ret (ev_c _) ?_
    show MP.le _ (MP.i (refuse n ls))
    unfold refuse
    rw [if_pos h]
    exact MP.le.rfl
  · rw [Bool.or_eq_false_iff, decide_eq_false_iff_not, decide_eq_false_iff_not] at h
    have hn : ¬ (n < 1 ∨ n > 5) := fun z => z.elim h.1 h.2
    refine ex_next ?_
    show Ex _ _ _
    have hE : ∀ xs ∈ ls, within xs = false → refuse n ls = -3 := fun xs hx hw => by
      unfold refuse
      rw [if_neg hn, if_neg]
      intro z
      rw [List.all_eq_true.mp z xs hx] at hw
      cases hw
    refine ex_seq (ex_for_map ls (MP.il K) (fun i C' => (∃ x y, C' = [.im (.i n), .im (.ill K ls), x, y]) ∧ (ls.take i).all within = true) (ei_list (ev_var rfl)) ⟨⟨_, _, rfl⟩, rfl⟩ (fun i xs C' hx hI => ?_) (fun C' hI => ?_))
    · obtain ⟨⟨x, y, rfl⟩, ha⟩ := hI
      refine ⟨[2], _, eg_name, ?_⟩
      refine ex_for_map xs MP.i (fun j C' => (∃ y, C' = [.im (.i n), .im (.ill K ls), .im (.il K xs), y]) ∧ within (xs.take j) = true) (ei_list (ev_var rfl)) ⟨⟨_, rfl⟩, rfl⟩ (fun j z C' hz hJ => ?_) (fun C' hJ => ?_)
      · obtain ⟨⟨y, rfl⟩, hb⟩ := hJ
        refine ⟨[3], _, eg_name, ?_⟩
        refine ex_if (et_test (ev_int0 (ev_abs (ea_cons (ev_var rfl) ea_nil)) (ev_c _))) (fun h => ?_) (fun h => ?_)
        · have h' := of_decide_eq_true h
          refine ex_ret (ev_c _) ?_
          rw [hE xs (List.mem_of_getElem? hx) ?_]
          · exact MP.le.rfl
          · unfold within
            rw [Bool.eq_false_iff]
            intro q
            have := List.all_eq_true.mp q z (List.mem_of_getElem? hz)
            rw [decide_eq_true_eq] at this
            split at h' <;> omega
        · have h' := of_decide_eq_false h
          refine ex_next ⟨⟨_, rfl⟩, ?_⟩
          unfold within at hb ⊢
          rw [List.take_add_one, hz, List.all_append, hb]
          simp only [Option.toList_some, List.all_cons, List.all_nil, Bool.and_true, Bool.true_and, decide_eq_true_eq]
          split at h' <;> omega
      · obtain ⟨⟨y, rfl⟩, hb⟩ := hJ
        rw [List.take_length] at hb
        refine ⟨⟨_, _, rfl⟩, ?_⟩
        rw [List.take_add_one, hx, List.all_append, ha]
        simp [hb]
    · obtain ⟨⟨x, y, rfl⟩, ha⟩ := hI
      rw [List.take_length] at ha
      refine ex_ret (ev_c _) ?_
      show MP.le _ (MP.i (refuse n ls))
      unfold refuse
      rw [if_neg hn, if_pos ha]
      exact MP.le.rfl
end

/-! ## grid_refusal -/
section
variable {P : Program} {w : World} {K : PySem.W.Frag} {mg : Str → Option Value} {base : Heap}
theorem within_big {b : List Int} (h : within b = true) {n : Nat} : Mx.Big 10 (Si18Neutral.rowsOf (n : Int) b) := fun r hr x hx => by
  have := List.all_eq_true.mp h x (Mx.rowsOf_mem hr hx)
  rw [decide_eq_true_eq] at this
  omega
def flat (n : Int) (b : List Int) : Bool := decide (Si18.det n.toNat (Si18Neutral.rowsOf n b) = 0)
def gref (n : Int) (ls : List (List Int)) : Int := if refuse n ls ≠ 0 then refuse n ls else if ls.all (fun b => !flat n b) = true then 0 else -3
theorem refuse_zero {n : Int} {ls : List (List Int)} (h : refuse n ls = 0) : ¬ (n < 1 ∨ n > 5) ∧ ls.all within = true := by
  have hn : ¬ (n < 1 ∨ n > 5) := fun z => by
    unfold refuse at h
    rw [if_pos z] at h
    cases h
  refine ⟨hn, ?_⟩
  unfold refuse at h
  rw [if_neg hn] at h
  by_cases hb : ls.all within = true
  · exact hb
  · rw [if_neg hb] at h
    cases h
def spGrid (K : PySem.W.Frag) : Sp := spF (fun (c : Int × List (List Int)) => 1 ≤ c.1 → c.1 ≤ 5 → ∀ b ∈ c.2, (b.length : Int) = c.1 * c.1) (fun c => [.i c.1, .ill K c.2]) (fun c => .i (gref c.1 c.2))
theorem ok_grid_refusal (T : Txt K mg) : FnOk P w K mg base CX0 20 T.a_grid_refusal T.d_grid_refusal ["n", "grids"] (spGrid K) := by
  have G_refusal := ok_refusal (P := P) (w := w) (base := base) T
  have G_split_rows := ok_split_rows (P := P) (w := w) (base := base) T
  have G_determinant := det_all (P := P) (w := w) (base := base) T 6
  refine T.x_grid_refusal.F.ok (k := 19) sc_grid_refusal (spF_len fun _ => rfl) (fun cdv A outer s H vs Q E hr h => ?_)
  refine ⟨_, (pss_cons (ps_set (i := 2) sc_grid_refusal.nd rfl (by first | exact Or.inl rfl | exact Or.inr rfl) (pe_call G_refusal (hr.mono (by omega)) rfl T.x_refusal.g T.x_refusal.F.kp T.x_refusal.b .nil pass0 (pa_cons (pv 0) (pa_cons (pv 1) pa_nil)))) (pss_cons (ps_if (pt_cmpR op_ne (pv 2) pe_int (nomark _)) (pss_one (ps_ret (pv 2))) pss_nil) (pss_cons (ps_for PassesOwn.never rfl (pi_list (pv 1)) (pg_name (i := 3) sc_grid_refusal.nd rfl (by first | exact Or.inl rfl | exact Or.inr rfl)) (pss_one (ps_if (pt_cmpR op_eq (pe_call G_determinant (hr.mono (by omega)) rfl T.x_determinant.g T.x_determinant.F.kp T.x_determinant.b .nil pass0 (pa_cons (pe_call G_split_rows (hr.mono (by omega)) rfl T.x_split_rows.g T.x_split_rows.F.kp T.x_split_rows.b .nil pass0 (pa_cons (pv 0) (pa_cons (pv 3) pa_nil))) pa_nil)) pe_int (nomark _)) (pss_one (ps_ret (pe_glob (v := .int (-3)) rfl T.c_WRONG_ROWS ⟨_, rfl⟩))) pss_nil))) (pss_one (ps_ret pe_int))))), ?_⟩
  refine spF_body h fun ⟨n, ls⟩ pre => ?_
  dsimp only at pre ⊢
  refine ex_seq (ex_set (ev_call (n, ls) (ea_cons (ev_var rfl) (ea_cons (ev_var rfl) ea_nil)) trivial) ?_)
  show Ex _ _ _
  refine ex_seq (ex_if (et_test (ev_ne (ev_var rfl) (ev_c _) rfl)) (fun h => ?_) (fun h => ?_))
  · refine ex_ret (ev_var rfl) ?_
    show MP.le (MP.i (refuse n ls)) (MP.i (gref n ls))
    unfold gref
    rw [if_pos (fun z => by rw [z] at h; cases h)]
    exact MP.le.rfl
  · refine ex_next ?_
    show Ex _ _ _
    have h' : refuse n ls = 0 := by
      have z := of_decide_eq_true (by simpa using h : decide (V.int (refuse n ls) = V.int 0) = true)
      injection z
    obtain ⟨hn, hw⟩ := refuse_zero h'
    obtain ⟨m, rfl⟩ : ∃ m : Nat, n = (m : Int) := ⟨n.toNat, by omega⟩
    have pre' := pre (by omega) (by omega)
    refine ex_seq (ex_for_map ls (MP.il K) (fun i C' => (∃ y, C' = [.im (.i (m : Int)), .im (.ill K ls), .im (.i (refuse (m : Int) ls)), y]) ∧ (ls.take i).all (fun b => !flat (m : Int) b) = true) (ei_list (ev_var rfl)) ⟨⟨_, rfl⟩, rfl⟩ (fun i b C' hb hI => ?_) (fun C' hI => ?_))
    · obtain ⟨⟨y, rfl⟩, ha⟩ := hI
      have hm := List.mem_of_getElem? hb
      have hl : b.length = m * m := by
        have := pre' b hm
        rw [← Int.natCast_mul] at this
        omega
      have hin : within b = true := List.all_eq_true.mp hw b hm
      refine ⟨[3], _, eg_name, ?_⟩
      refine ex_if (et_test (ev_eq (ev_call (m, Si18Neutral.rowsOf (m : Int) b, 10) (ea_cons ((ev_call (m, b) (ea_cons (ev_var rfl) (ea_cons (ev_var rfl) ea_nil)) ⟨by dsimp only; omega, hl⟩).le (MP.rows_ill _)) ea_nil) ⟨by dsimp only; omega, ⟨Mx.rowsOf_length m b, Mx.rowsOf_wide hl⟩, by omega, within_big hin, by show 10 ≤ 10000; decide⟩) (ev_c _) rfl)) (fun h => ?_) (fun h => ?_)
      · refine ex_ret (ev_c _) ?_
        show MP.le (MP.i (-3)) (MP.i (gref (m : Int) ls))
        unfold gref
        rw [if_neg (by rw [h']; decide), if_neg]
        · exact MP.le.rfl
        · intro z
          have q := List.all_eq_true.mp z b hm
          have h2 := of_decide_eq_true h
          injection h2 with h2
          dsimp only at h2
          unfold flat at q
          rw [Int.toNat_natCast, decide_eq_true h2] at q
          cases q
      · refine ex_next ⟨⟨_, rfl⟩, ?_⟩
        have h2 := of_decide_eq_false h
        rw [List.take_add_one, hb, List.all_append, ha]
        have e : flat (m : Int) b = false := by
          unfold flat
          rw [Int.toNat_natCast, decide_eq_false]
          exact fun z => h2 (congrArg V.int z)
        simp [e]
    · obtain ⟨⟨y, rfl⟩, ha⟩ := hI
      rw [List.take_length] at ha
      refine ex_ret (ev_c _) ?_
      show MP.le (MP.i 0) (MP.i (gref (m : Int) ls))
      unfold gref
      rw [if_neg (by rw [h']; decide), if_pos ha]
      exact MP.le.rfl
theorem gref_zero {n : Int} {ls : List (List Int)} (h : gref n ls = 0) : ¬ (n < 1 ∨ n > 5) ∧ ls.all within = true ∧ ls.all (fun b => !flat n b) = true := by
  unfold gref at h
  by_cases hr : refuse n ls ≠ 0
  · rw [if_pos hr] at h
    exact absurd h hr
  · rw [if_neg hr] at h
    have hr' : refuse n ls = 0 := Classical.not_not.mp hr
    refine ⟨(refuse_zero hr').1, (refuse_zero hr').2, ?_⟩
    by_cases ha : ls.all (fun b => !flat n b) = true
    · exact ha
    · rw [if_neg ha] at h
      cases h
theorem gref_bad {n : Int} {ls : List (List Int)} (h : n < 1 ∨ n > 5) : gref n ls = -2 := by
  have e : refuse n ls = -2 := by unfold refuse; rw [if_pos h]
  unfold gref
  rw [if_pos (by rw [e]; decide), e]
theorem gref_not {n : Int} {ls : List (List Int)} (hn : ¬ (n < 1 ∨ n > 5)) (h : gref n ls ≠ 0) : gref n ls = -3 ∧ ¬ (ls.all within = true ∧ ls.all (fun b => !flat n b) = true) := by
  unfold gref at h ⊢
  by_cases hr : refuse n ls ≠ 0
  · rw [if_pos hr]
    unfold refuse at hr ⊢
    rw [if_neg hn] at hr ⊢
    by_cases hw : ls.all within = true
    · rw [if_pos hw] at hr
      exact absurd rfl hr
    · rw [if_neg hw]
      exact ⟨rfl, fun z => hw z.1⟩
  · rw [if_neg hr] at h ⊢
    by_cases ha : ls.all (fun b => !flat n b) = true
    · rw [if_pos ha] at h
      exact absurd rfl h
    · rw [if_neg ha]
      exact ⟨rfl, fun z => ha z.2⟩
end

/-! ## matrix.py: the ladder, reducing -/
section
variable {P : Program} {w : World} {K : PySem.W.Frag} {mg : Str → Option Value} {base : Heap}
/-! square -/
def spSquare (K : PySem.W.Frag) : Sp := spF (fun (c : List Int × Nat) => Mx.BigR c.2 c.1 ∧ c.2 + c.2 + 2 ≤ 1000000 ∧ c.1.length ≤ 1000) (fun c => [.il K c.1]) (fun c => .i (Si18.square c.1))
theorem ok_square (T : Txt K mg) : FnOk P w K mg base CX0 2 T.a_square T.d_square ["row"] (spSquare K) := by
  have G_product := ok_product (P := P) (w := w) (base := base) T
  refine T.x_square.F.ok (k := 1) sc_square (spF_len fun _ => rfl) (fun cdv A outer s H vs Q E hr h => ?_)
  refine ⟨_, (pss_one (ps_ret (pe_call G_product (hr.mono (by omega)) rfl T.x_product.g T.x_product.F.kp T.x_product.b .nil pass0 (pa_cons (pv 0) (pa_cons (pv 0) pa_nil))))), ?_⟩
  refine spF_body h fun ⟨x, a⟩ ⟨h1, h2, h3⟩ => ?_
  exact ex_ret (ev_call (x, x, a, a) (ea_cons (ev_var rfl) (ea_cons (ev_var rfl) ea_nil)) ⟨h1, h1, h2, h3⟩) MP.le.rfl
/-! plus -/
def spPlus (K : PySem.W.Frag) : Sp := spF (fun (c : List Int × Int × List Int × Nat × Nat) => c.2.1.natAbs < 2 ^ c.2.2.2.1 ∧ Mx.BigR c.2.2.2.2 c.2.2.1 ∧ c.2.2.2.1 + c.2.2.2.2 + 2 ≤ 1000000 ∧ c.1.length ≤ 1000) (fun c => [.il K c.1, .i c.2.1, .il K c.2.2.1]) (fun c => .row (Si18.plus c.1 (Si18.times c.2.1 c.2.2.1)))
theorem plus_zip : ∀ (x y : List Int) (t : Int), Si18.plus x (Si18.times t y) = (List.zip x y).map fun p => p.1 + t * p.2
  | [], _, _ => by simp [Si18.plus]
  | _ :: _, [], _ => by simp [Si18.plus, Si18.times]
  | a :: x, b :: y, t => by
    have := plus_zip x y t
    simp only [Si18.plus, Si18.times, List.map_cons, List.zipWith_cons_cons, List.zip_cons_cons] at this ⊢
    rw [this]
theorem ok_plus (T : Txt K mg) : FnOk P w K mg base CX0 1 T.a_plus T.d_plus ["row", "times", "other"] (spPlus K) := by
  refine T.x_plus.F.ok sc_plus (spF_len fun _ => rfl) (fun cdv A outer s H vs Q E hr h => ?_)
  refine ⟨_, (pss_one (ps_ret (pe_lc (own := [("x", 3), ("y", 4)]) (g := gTup _ 2 (gCons (gName 3) (gCons (gName 4) gNil))) (tt := tYes) rfl sc_plus.nd (pi_zip (by rfl) T.b_zip (pa_cons (pv 0) (pa_cons (pv 2) pa_nil))) (blkOk_by (own := [("x", 3), ("y", 4)]) (N := N_plus) (sc := defScope (S "plus")) (by decide +kernel)) (fun _ _ _ _ _ => (pg_tup rfl (pgs_cons (pg_name (i := 3) sc_plus.nd rfl (by first | exact Or.inl rfl | exact Or.inr rfl)) (pgs_cons (pg_name (i := 4) sc_plus.nd rfl (by first | exact Or.inl rfl | exact Or.inr rfl)) pgs_nil)))) (fun _ _ _ _ _ => pts_nil) (fun _ _ _ _ _ => (pe_op op_add (pv 3) (pe_op op_mulW (pv 1) (pv 4))))))), ?_⟩
  refine spF_body h fun ⟨xs, t, ys, a, b⟩ ⟨h1, h2, h3, h4⟩ => ?_
  dsimp only at h1 h2 h3 h4 ⊢
  refine ex_ret (ev_lc_map (List.zip xs ys) (fun p => MP.tup [.i p.1, .i p.2]) (fun p => MP.i (p.1 + t * p.2)) (Ei.of_eq (ei_zip (ea_cons (ev_var rfl) (ea_cons (ev_var rfl) ea_nil))) (zip_nums xs ys)) ?_
    fun p hp => ⟨[3, 4], _, eg_tup2, by simp, ev_int0 (ev_var rfl) (ev_int (ev_var rfl) (ev_var rfl) ?_)⟩) ?_
  · rw [List.length_zip]
    exact Nat.le_trans (Nat.min_le_left _ _) (Nat.le_trans h4 (by decide))
  · have hy := h2 p.2 (List.of_mem_zip hp).2
    exact wide_mul (a := a + 1) (b := b + 1) (Mx.abs_mono h1 (by omega)) (Mx.abs_mono hy (by omega)) (by omega) (by omega) (by omega)
  · show MP.le _ (MP.row (Si18.plus xs (Si18.times t ys)))
    rw [plus_zip, MP.row, nums_map, List.map_map]
    exact MP.le.rfl
/-! leading -/
def LeadAt (tb : List (List Int)) (k : Nat) (z : Int) : Prop := (k = 0 ∧ z = 1) ∨ (0 < k ∧ ∃ r, tb[k - 1]? = some r ∧ r[k - 1]? = some z)
def spLeading (K : PySem.W.Frag) : Sp := spG (fun (c : List (List Int) × Nat × Int) => LeadAt c.1 c.2.1 c.2.2) (fun c => [.l K (c.1.map (MP.il K)), .f (.i (c.2.1 : Int))]) (fun c => .i c.2.2)
theorem ok_leading (T : Txt K mg) : FnOk P w K mg base CX0 1 T.a_leading T.d_leading ["table", "size"] (spLeading K) := by
  refine T.x_leading.F.ok sc_leading (spG_len fun _ => rfl) (fun cdv A outer s H vs Q E hr h => ?_)
  refine ⟨_, (pss_one (ps_ret (pe_ifExp (pt_cmpR op_eq (pv 1) pe_int (nomark _)) pe_int (pe_ix (r := rIxL K) ix_list (pe_ix (r := rIxL K) ix_list (pv 0) (pe_op op_sub (pv 1) pe_int) (fun _ _ => rfl)) (pe_op op_sub (pv 1) pe_int) (fun _ _ => rfl))))), ?_⟩
  refine spG_body h fun ⟨tb, k, z⟩ hz => ?_
  dsimp only at hz ⊢
  refine ex_ret (ev_if (et_test (ev_eq (ev_var rfl) (ev_c _) rfl)) (fun h => ?_) (fun h => ?_)) MP.le.rfl
  · have h' := of_decide_eq_true h
    injection h' with h'
    have e : k = 0 := by omega
    rcases hz with ⟨_, rfl⟩ | ⟨p, _⟩
    · exact ev_c _
    · omega
  · have h' := of_decide_eq_false h
    have e : k ≠ 0 := fun z => h' (by rw [z]; rfl)
    rcases hz with ⟨q, _⟩ | ⟨p, r, h1, h2⟩
    · exact absurd q e
    · exact ev_ix (ev_ixl (el_sh rfl) (ev_int0 (ev_var rfl) (ev_c _)) (atI_of (j := k - 1) (by omega) (by rw [List.getElem?_map, h1]; rfl))) (ev_int0 (ev_var rfl) (ev_c _)) (atI_of (j := k - 1) (by omega) (nums_get h2))
theorem leadAt_tab {n : Nat} {bs : List (List Int)} {k : Nat} (h : k ≤ bs.length) : LeadAt (Mx.ltab n bs) k (Mx.gd n (Mx.fam bs) k) := by
  cases k with
  | zero => exact .inl ⟨rfl, rfl⟩
  | succ k =>
    refine .inr ⟨by omega, _, Mx.ltab_get (by omega), ?_⟩
    rw [Mx.gd_succ]; exact Mx.lrow_get (by omega)
/-! ladder_row -/
def TabOk (n : Nat) (bs tb : List (List Int)) : Prop := ∀ k, k < bs.length → tb[k]? = some (Mx.lrow n (Mx.fam bs) (k + 1) (Mx.fam bs k))
theorem TabOk.self (n : Nat) (bs : List (List Int)) : TabOk n bs (Mx.ltab n bs) := fun _ hk => Mx.ltab_get hk
theorem TabOk.take (n : Nat) (bs : List (List Int)) (k : Nat) : TabOk n (bs.take k) (Mx.ltab n bs) := fun j hj => by
  rw [List.length_take] at hj
  rw [Mx.ltab_get (by omega), Mx.fam_take (by omega), Mx.lrow_congr (E := Mx.fam (bs.take k)) fun a ha => (Mx.fam_take (by omega)).symm]
theorem TabOk.lead {n : Nat} {bs tb : List (List Int)} (h : TabOk n bs tb) {k : Nat} (hk : k ≤ bs.length) : LeadAt tb k (Mx.gd n (Mx.fam bs) k) := by
  cases k with
  | zero => exact .inl ⟨rfl, rfl⟩
  | succ k =>
    refine .inr ⟨by omega, _, h k (by omega), ?_⟩
    rw [Mx.gd_succ]; exact Mx.lrow_get (by omega)
def spLrow (K : PySem.W.Frag) : Sp := spG (fun (c : Nat × List (List Int) × Nat × List Int × List (List Int)) => Mx.LPre c.1 c.2.1 c.2.2.1 ∧ c.2.2.2.1.length = c.1 ∧ Mx.BigR c.2.2.1 c.2.2.2.1 ∧ TabOk c.1 c.2.1 c.2.2.2.2)
  (fun c => [.l K (c.2.1.map (MP.il K)), .l K (c.2.2.2.2.map (MP.il K)), .f (.il K c.2.2.2.1)]) (fun c => .row (Mx.lfull c.1 c.2.1 c.2.2.2.1))
theorem ok_ladder_row (T : Txt K mg) : FnOk P w K mg base CX0 3 T.a_ladder_row T.d_ladder_row ["rows", "table", "row"] (spLrow K) := by
  have G_product := ok_product (P := P) (w := w) (base := base) T
  have G_square := ok_square (P := P) (w := w) (base := base) T
  have G_leading := ok_leading (P := P) (w := w) (base := base) T
  refine T.x_ladder_row.F.ok (k := 2) sc_ladder_row (spG_len fun _ => rfl) (fun cdv A outer s H vs Q E hr h => ?_)
  refine ⟨_, (pss_cons (ps_set (i := 3) sc_ladder_row.nd rfl (by first | exact Or.inl rfl | exact Or.inr rfl) (pe_lst pa_nil)) (pss_cons (ps_for PassesOwn.never rfl (pi_range1 rfl T.b_range (pa_cons (pe_op op_add (pe_callB (r := rLenQ K) call_len_seq (by rfl) T.b_len PySem.boot_len (pa_cons (pv 0) pa_nil)) pe_int) pa_nil)) (pg_name (i := 4) sc_ladder_row.nd rfl (by first | exact Or.inl rfl | exact Or.inr rfl)) (pss_cons (ps_set (i := 5) sc_ladder_row.nd rfl (by first | exact Or.inl rfl | exact Or.inr rfl) (pe_cmpR op_eq (pv 4) (pe_callB (r := rLenQ K) call_len_seq (by rfl) T.b_len PySem.boot_len (pa_cons (pv 0) pa_nil)) (nomark _))) (pss_cons (ps_set (i := 6) sc_ladder_row.nd rfl (by first | exact Or.inl rfl | exact Or.inr rfl) (pe_ifExp (pt_val (pv 5)) (pv 3) (pe_ix (r := rIxL K) ix_list (pv 1) (pv 4) (fun _ _ => rfl)))) (pss_cons (ps_set (i := 7) sc_ladder_row.nd rfl (by first | exact Or.inl rfl | exact Or.inr rfl) (pe_ifExp (pt_val (pv 5)) (pe_call G_square (hr.mono (by omega)) rfl T.x_square.g T.x_square.F.kp T.x_square.b .nil pass0 (pa_cons (pv 2) pa_nil)) (pe_call G_product (hr.mono (by omega)) rfl T.x_product.g T.x_product.F.kp T.x_product.b .nil pass0 (pa_cons (pv 2) (pa_cons (pe_ix (r := rIxL K) ix_list (pv 0) (pv 4) (fun _ _ => rfl)) pa_nil))))) (pss_cons (ps_for PassesOwn.never rfl (pi_range1 rfl T.b_range (pa_cons (pv 4) pa_nil)) (pg_name (i := 8) sc_ladder_row.nd rfl (by first | exact Or.inl rfl | exact Or.inr rfl)) (pss_cons (ps_set (i := 9) sc_ladder_row.nd rfl (by first | exact Or.inl rfl | exact Or.inr rfl) (pe_op op_sub (pe_op op_mulW (pv 7) (pe_call G_leading (hr.mono (by omega)) rfl T.x_leading.g T.x_leading.F.kp T.x_leading.b .nil pass0 (pa_cons (pv 1) (pa_cons (pe_op op_add (pv 8) pe_int) pa_nil)))) (pe_op op_mulW (pe_ix (r := rIxL K) ix_list (pv 3) (pv 8) (fun _ _ => rfl)) (pe_ix (r := rIxL K) ix_list (pv 6) (pv 8) (fun _ _ => rfl))))) (pss_one (ps_set (i := 7) sc_ladder_row.nd rfl (by first | exact Or.inl rfl | exact Or.inr rfl) (pe_op op_fdivW (pv 9) (pe_call G_leading (hr.mono (by omega)) rfl T.x_leading.g T.x_leading.F.kp T.x_leading.b .nil pass0 (pa_cons (pv 1) (pa_cons (pv 8) pa_nil)))))))) (pss_one (ps_expr (pe_bm PySem.F.plainAttrs_list PySem.F.slot_list_append PySem.F.type_list_append mt_append (pv 3) (pa_cons (pv 7) pa_nil))))))))) (pss_one (ps_ret (pv 3))))), ?_⟩
  refine spG_body h fun ⟨n, bs, a, y, tb⟩ ⟨pre, hy, by_, htb⟩ => ?_
  dsimp only at pre hy by_ htb ⊢
  have hn := pre.hn
  have hm := pre.len
  have ha := pre.ha
  have bigB := pre.bigB
  have bigY := Mx.bigV_of (n := n) by_
  have L0 : (bs.map (MP.il K)).length = bs.length := List.length_map ..
  have full : ∀ i, i ≤ bs.length → (Mx.lfull n bs y).take i = Mx.lrow n (Mx.fam bs) i (Mx.vec y) := fun i hi => by
    unfold Mx.lfull
    rw [List.take_append_of_le_length (by rw [Mx.lrow_length]; exact hi)]
    unfold Mx.lrow
    rw [← List.map_take, List.take_range, Nat.min_eq_left hi]
  refine ex_seq (ex_new ea_nil (Nat.zero_le _) ?_)
  show Ex _ _ _
  refine ex_seq (ex_for_map (List.range (bs.length + 1)) (fun i => .i (i : Nat)) (fun i C' => C' = [.sh K (bs.map (MP.il K)), .sh K (tb.map (MP.il K)), .im (.il K y), .mu (nums ((Mx.lfull n bs y).take i)), .no, .no, .no, .no, .no, .no])
    (Ei.of_eq (ei_range1 (ea_cons (ev_int0 (ev_lenl (el_sh rfl)) (ev_c _)) ea_nil) (by rw [L0]; omega) (by rw [L0]; omega)) (by rw [L0]; rfl)) rfl (fun i x C' hx hI => ?_) (fun C' hI => ?_))
  · subst hI
    have hil : i < bs.length + 1 := by
      have := (List.getElem?_eq_some_iff.mp hx).1
      simpa using this
    rw [List.getElem?_range hil] at hx
    cases hx
    have hi : i ≤ bs.length := by omega
    refine ⟨[4], _, eg_name, ?_⟩
    rw [full i hi]
    generalize hz : (if i = bs.length then Mx.vec y else Mx.fam bs i) = z
    have bigZ : Mx.BigV n a z := by
      rw [← hz]; split
      · exact bigY
      · exact bigB i
    generalize ho : (if i = bs.length then Mx.lrow n (Mx.fam bs) i (Mx.vec y) else Mx.lrow n (Mx.fam bs) (i + 1) (Mx.fam bs i)) = oth
    have oget : ∀ l, l < i → oth[l]? = some (Mx.gg n (Mx.fam bs) l (Mx.fam bs l) z) := fun l hl => by
      rw [← ho, ← hz]
      split
      · exact Mx.lrow_get hl
      · exact Mx.lrow_get (by omega)
    -- own
    refine ex_seq (ex_set (ev_eq (ev_var rfl) (ev_lenl (el_sh rfl)) rfl) ?_)
    show Ex _ _ _
    rw [L0]
    have own : ∀ b, decide (V.int ((i : Nat) : Int) = V.int ((bs.length : Nat) : Int)) = b → (b = true ↔ i = bs.length) := fun b hb => by
      rw [← hb, decide_eq_true_iff]
      constructor
      · intro e; injection e with e; omega
      · intro e; rw [e]
    generalize hb : decide (V.int ((i : Nat) : Int) = V.int ((bs.length : Nat) : Int)) = b
    replace own := own b hb
    have ownN : b = false → i ≠ bs.length := fun h e => by rw [own.2 e] at h; cases h
    -- others
    refine ex_seq (ex_setl (K := K) (Fs := nums oth) (el_if (et_b (ev_var rfl)) (fun h => El.of_eq (el_mu rfl) ?_) (fun h => el_ev (Ev.of_eq (ev_ixl (el_sh rfl) (ev_var rfl) (atI_of (j := i) rfl (by rw [List.getElem?_map, htb i (by have := ownN h; omega)]; rfl))) ?_))) ?_)
    · rw [← ho, if_pos (own.1 h)]
    · rw [← ho, if_neg (ownN h)]
    show Ex _ _ _
    -- number
    refine ex_seq (ex_set (F := .i (Mx.gg n (Mx.fam bs) 0 z (Mx.vec y))) (ev_if (et_b (ev_var rfl)) (fun h => Ev.of_eq (ev_call (y, a) (ea_cons (ev_var rfl) ea_nil) ⟨by_, by dsimp only; omega, by dsimp only; omega⟩) ?_) (fun h => Ev.of_eq (ev_call (y, bs.getD i [], a, a) (ea_cons (ev_var rfl) (ea_cons (ev_ixl (el_sh rfl) (ev_var rfl) (atI_of (j := i) rfl ?_)) ea_nil)) ⟨by_, ?_, by dsimp only; omega, by dsimp only; omega⟩) ?_)) ?_)
    · rw [Mx.gg_zero, ← hz, if_pos (own.1 h)]
      exact congrArg MP.i (Mx.square_dp hy)
    · have hlt : i < bs.length := by have := ownN h; omega
      rw [List.getElem?_map, List.getD_eq_getElem?_getD, List.getElem?_eq_getElem hlt]; rfl
    · have hlt : i < bs.length := by have := ownN h; omega
      rw [List.getD_eq_getElem?_getD, List.getElem?_eq_getElem hlt]
      exact pre.big _ (List.getElem_mem _)
    · have hlt : i < bs.length := by have := ownN h; omega
      rw [Mx.gg_zero, ← hz, if_neg (by omega), Mx.dp_comm]
      refine congrArg MP.i (Mx.dot_dp (by dsimp only; omega) ?_)
      dsimp only
      rw [List.getD_eq_getElem?_getD, List.getElem?_eq_getElem hlt]
      exact Nat.le_of_eq (pre.wide _ (List.getElem_mem _))
    show Ex _ _ _
    -- the inner turns
    refine ex_seq (ex_for_map (List.range i) (fun i => .i (i : Nat)) (fun l C' => C' = [.sh K (bs.map (MP.il K)), .sh K (tb.map (MP.il K)), .im (.il K y), .mu (nums (Mx.lrow n (Mx.fam bs) i (Mx.vec y))), .im (.i (i : Nat)), .im (.b b), .rd K (nums oth), .im (.i (Mx.gg n (Mx.fam bs) l z (Mx.vec y))), .no, .no])
      (ei_range1 (j := ((i : Nat) : Int)) (ea_cons (ev_var rfl) ea_nil) (by omega) (by omega)) rfl (fun l x C' hx hI => ?_) (fun C' hI => ?_))
    · subst hI
      have hl : l < i := by
        have := (List.getElem?_eq_some_iff.mp hx).1
        simpa using this
      rw [List.getElem?_range hl] at hx
      cases hx
      have p1 := pre.pos l (by omega)
      have b0 : (Mx.gd n (Mx.fam bs) l).natAbs < 2 ^ (12 * a + 37) := Mx.gd_big (by omega) (by omega) fun b _ => bigB b
      have b1 : (Mx.gd n (Mx.fam bs) (l + 1)).natAbs < 2 ^ (12 * a + 37) := Mx.gd_big (by omega) (by omega) fun b _ => bigB b
      have b2 : (Mx.gg n (Mx.fam bs) l z (Mx.vec y)).natAbs < 2 ^ (12 * a + 37) := Mx.gg_big (by omega) (by omega) (fun b _ => bigB b) bigY bigZ
      have b3 : (Mx.gg n (Mx.fam bs) l (Mx.fam bs l) (Mx.vec y)).natAbs < 2 ^ (12 * a + 37) := Mx.gg_big (by omega) (by omega) (fun b _ => bigB b) bigY (bigB l)
      have b4 : (Mx.gg n (Mx.fam bs) l (Mx.fam bs l) z).natAbs < 2 ^ (12 * a + 37) := Mx.gg_big (by omega) (by omega) (fun b _ => bigB b) bigZ (bigB l)
      refine ⟨[8], _, eg_name, ?_⟩
      refine ex_seq (ex_set (ev_int0 (ev_int (ev_var rfl) (ev_callG (tb, l + 1, Mx.gd n (Mx.fam bs) (l + 1)) (eb_l (el_sh rfl) (eb_f (Ev.of_eq (ev_int0 (ev_var rfl) (ev_c _)) rfl) eb_nil)) (htb.lead (by dsimp only; omega))) ?_)
        (ev_int (ev_ixl (el_mu rfl) (ev_var rfl) (atI_of (j := l) rfl (nums_get (Mx.lrow_get hl)))) (ev_ixl (el_rd rfl) (ev_var rfl) (atI_of (j := l) rfl (nums_get (oget l hl)))) ?_)) ?_)
      · exact wide_mul b2 b1 (by omega) (by omega) (by omega)
      · exact wide_mul b3 b4 (by omega) (by omega) (by omega)
      show Ex _ _ _
      refine ex_nxdrop [8, 9] (ex_set (F := .i (Mx.gg n (Mx.fam bs) (l + 1) z (Mx.vec y))) (Ev.of_eq (ev_int (ev_var rfl) (ev_callG (tb, l, Mx.gd n (Mx.fam bs) l) (eb_l (el_sh rfl) (eb_f (ev_var rfl) eb_nil)) (htb.lead (by dsimp only; omega))) ?_) ?_) ?_)
      · exact wide_div p1 b0 (by omega) (by omega)
      · refine congrArg MP.i ?_
        exact Mx.step_div z (Mx.vec y) p1
      · rfl
    · rw [List.length_range] at hI
      subst hI
      show Ex _ _ _
      refine ex_forget 6 (ex_nxdrop [4, 5, 7, 8, 9] (ex_append rfl (ev_var rfl) ?_ ?_))
      · rw [nums_length, Mx.lrow_length]
        exact Nat.lt_of_le_of_lt hi (Nat.lt_of_le_of_lt hm (by decide))
      · have e : nums (Mx.lrow n (Mx.fam bs) i (Mx.vec y)) ++ [MP.i (Mx.gg n (Mx.fam bs) i z (Mx.vec y))] = nums ((Mx.lfull n bs y).take (i + 1)) := by
          by_cases q : i = bs.length
          · rw [← hz, if_pos q, List.take_of_length_le (by rw [Mx.lfull_length]; omega), q]
            unfold Mx.lfull nums
            rw [List.map_append]; rfl
          · rw [full (i + 1) (by omega), Mx.lrow_succ, ← hz, if_neg q]
            unfold nums
            rw [List.map_append]; rfl
        rw [← e]; rfl
  · rw [List.length_range] at hI
    subst hI
    refine ex_froze (i := 3) rfl (ex_ret (ev_var rfl) ?_)
    have : (Mx.lfull n bs y).take (bs.length + 1) = Mx.lfull n bs y := List.take_of_length_le (by rw [Mx.lfull_length]; omega)
    rw [this]
    exact MP.le.rfl
/-! ladder -/
theorem ixN_of {n j : Nat} {i : Int} (e : i = (j : Int)) (h : j < n) : ixN n i = some j := by
  subst e
  unfold ixN
  rw [if_pos (by omega), if_pos (by omega)]; simp
theorem rows_il (rs : List (List Int)) : ∀ (G : Hp) (vs : List V), PairG G vs (rs.map MP.row) → PairG G vs (rs.map (MP.il K)) := fun _ _ h => pair_le (fun _ => MP.le_sq) h
def spLadder (K : PySem.W.Frag) : Sp := spG (fun (c : Nat × List (List Int) × Nat) => Mx.LPre c.1 c.2.1 c.2.2) (fun c => [.l K (c.2.1.map (MP.il K))]) (fun c => .rows (Mx.ltab c.1 c.2.1))
theorem ok_ladder (T : Txt K mg) : FnOk P w K mg base CX0 4 T.a_ladder T.d_ladder ["rows"] (spLadder K) := by
  have G_ladder_row := ok_ladder_row (P := P) (w := w) (base := base) T
  refine T.x_ladder.F.ok (k := 3) sc_ladder (spG_len fun _ => rfl) (fun cdv A outer s H vs Q E hr h => ?_)
  refine ⟨_, (pss_cons (ps_set (i := 1) sc_ladder.nd rfl (by first | exact Or.inl rfl | exact Or.inr rfl) (pe_lst pa_nil)) (pss_cons (ps_for PassesOwn.never rfl (pi_range1 rfl T.b_range (pa_cons (pe_callB (r := rLenQ K) call_len_seq (by rfl) T.b_len PySem.boot_len (pa_cons (pv 0) pa_nil)) pa_nil)) (pg_name (i := 2) sc_ladder.nd rfl (by first | exact Or.inl rfl | exact Or.inr rfl)) (pss_one (ps_expr (pe_bm PySem.F.plainAttrs_list PySem.F.slot_list_append PySem.F.type_list_append mt_append (pv 1) (pa_cons (pe_call G_ladder_row (hr.mono (by omega)) rfl T.x_ladder_row.g T.x_ladder_row.F.kp T.x_ladder_row.b .nil pass0 (pa_cons (pe_slice (r := rSlL K) sl_list (pv 0) po_none (po_some (pv 2))) (pa_cons (pv 1) (pa_cons (pe_ix (r := rIxL K) ix_list (pv 0) (pv 2) (fun _ _ => rfl)) pa_nil)))) pa_nil))))) (pss_one (ps_ret (pv 1))))), ?_⟩
  refine spG_body h fun ⟨n, bs, a⟩ pre => ?_
  dsimp only at pre ⊢
  have hm := pre.len
  have L0 : (bs.map (MP.il K)).length = bs.length := List.length_map ..
  refine ex_seq (ex_new ea_nil (Nat.zero_le _) ?_)
  show Ex _ _ _
  refine ex_seq (ex_for_map (List.range bs.length) (fun i => .i (i : Nat)) (fun i C' => C' = [.sh K (bs.map (MP.il K)), .mu ((Mx.ltab n (bs.take i)).map MP.row), .no])
    (Ei.of_eq (ei_range1 (ea_cons (ev_lenl (el_sh rfl)) ea_nil) (by rw [L0]; omega) (by rw [L0]; omega)) (by rw [L0]; rfl)) rfl (fun i x C' hx hI => ?_) (fun C' hI => ?_))
  · subst hI
    have hi : i < bs.length := by
      have := (List.getElem?_eq_some_iff.mp hx).1
      simpa using this
    rw [List.getElem?_range hi] at hx
    cases hx
    refine ⟨[2], _, eg_name, ?_⟩
    have gi : bs[i]? = some bs[i] := List.getElem?_eq_getElem hi
    refine ex_nxdrop [2] (ex_append rfl (ev_callG (n, bs.take i, a, bs[i], Mx.ltab n (bs.take i)) (eb_l (el_ev (Ev.sq (ev_slicel (el_sh rfl) eo_none (eo_some (ev_var rfl))))  |>.of_eq ?_) (eb_l ((el_mu rfl).le (rows_il (K := K) _)) (eb_f (ev_ixl (el_sh rfl) (ev_var rfl) (atI_of (j := i) rfl (by rw [List.getElem?_map, gi]; rfl))) eb_nil))) ⟨pre.take i, pre.wide _ (List.getElem_mem _), pre.big _ (List.getElem_mem _), TabOk.self n _⟩) ?_ ?_)
    · rw [cut_take, List.map_take]
    · rw [List.length_map, Mx.ltab_length, List.length_take]
      exact Nat.lt_of_le_of_lt (Nat.min_le_left _ _) (Nat.lt_of_lt_of_le hi (Nat.le_trans hm (by decide)))
    · have e : (Mx.ltab n (bs.take i)).map MP.row ++ [MP.row (Mx.lfull n (bs.take i) bs[i])] = (Mx.ltab n (bs.take (i + 1))).map MP.row := by
        rw [Mx.take_succ_get gi, Mx.ltab_append, List.map_append]; rfl
      rw [← e]; rfl
  · rw [List.length_range] at hI
    subst hI
    refine ex_froze (i := 1) rfl (ex_ret (ev_var rfl) ?_)
    rw [List.take_of_length_le (Nat.le_refl _)]
    exact MP.le.rfl
/-! nearest -/
def spNearest (K : PySem.W.Frag) : Sp := spF (fun (c : Int × Int × Nat) => 0 < c.2.1 ∧ c.1.natAbs < 2 ^ c.2.2 ∧ c.2.1.natAbs < 2 ^ c.2.2 ∧ 1 ≤ c.2.2 ∧ c.2.2 ≤ 8900) (fun c => [.i c.1, .i c.2.1]) (fun c => .i (Si18.nearest c.1 c.2.1))
theorem ok_nearest (T : Txt K mg) : FnOk P w K mg base CX0 1 T.a_nearest T.d_nearest ["number", "part"] (spNearest K) := by
  refine T.x_nearest.F.ok sc_nearest (spF_len fun _ => rfl) (fun cdv A outer s H vs Q E hr h => ?_)
  refine ⟨_, (pss_one (ps_ret (pe_op op_fdivW (pe_op op_add (pe_op op_mulW pe_int (pv 0)) (pv 1)) (pe_op op_mulW pe_int (pv 1))))), ?_⟩
  refine spF_body h fun ⟨x, y, a⟩ ⟨h0, h1, h2, h3, h4⟩ => ?_
  dsimp only at h0 h1 h2 h3 h4 ⊢
  have d : (2 * y).natAbs < 2 ^ (2 + a) := wide_lt (i := 2) (a := 2) (by decide) h2
  exact ex_ret (ev_int (ev_int0 (ev_int (ev_c _) (ev_var rfl) (wide_mul (a := 2) (b := a) (by decide) h1 (by omega) (by omega) (by omega))) (ev_var rfl)) (ev_int (ev_c _) (ev_var rfl) (wide_mul (a := 2) (b := a) (by decide) h2 (by omega) (by omega) (by omega))) (wide_div (by omega) d (by omega) (by omega))) MP.le.rfl
structure RPre (n k : Nat) (A : Int) (bs : List (List Int)) : Prop where
  hn : n ≤ 5
  hA : 0 < A
  hA' : A ≤ 5000000
  inv : Mx.Inv n A k bs
/-! lessened -/
/-- rows of which the first k are those of bs, and the next is y -/
structure LsPre (n m k : Nat) (A : Int) (bs rs : List (List Int)) (y : List Int) : Prop where
  r : RPre n m A bs
  hk : k ≤ n
  tk : rs.take k = bs.take k
  gk : rs[k]? = some y
  kl : y.length = n
  yb : Mx.dp n (Mx.vec y) (Mx.vec y) < 2 ^ 24
theorem LsPre.self {n k : Nat} {A : Int} {bs : List (List Int)} (r : RPre n k A bs) (hk : k < n) : LsPre n k k A bs bs (bs.getD k []) where
  r := r
  hk := Nat.le_of_lt hk
  tk := rfl
  gk := by
    have := r.inv.sh.len
    rw [List.getD_eq_getElem?_getD, List.getElem?_eq_getElem (by omega)]; rfl
  kl := r.inv.sh.at hk
  yb := by
    have a := r.inv.sq k hk
    have b := r.hA'
    exact Int.lt_of_le_of_lt a (by show 2 * A < 16777216; omega)
def spLessened (K : PySem.W.Frag) : Sp := spG (fun (c : Nat × Int × Nat × Nat × List (List Int) × List (List Int) × List Int) => LsPre c.1 c.2.2.1 c.2.2.2.1 c.2.1 c.2.2.2.2.1 c.2.2.2.2.2.1 c.2.2.2.2.2.2) (fun c => [.l K (c.2.2.2.2.2.1.map MP.row), .f (.i (c.2.2.2.1 : Nat))]) (fun c => .row (Si18.rest c.2.2.2.2.1 c.2.2.2.1 c.2.2.2.2.2.2))
theorem ok_lessened (T : Txt K mg) : FnOk P w K mg base CX0 5 T.a_lessened T.d_lessened ["rows", "place"] (spLessened K) := by
  have G_ladder := ok_ladder (P := P) (w := w) (base := base) T
  have G_ladder_row := ok_ladder_row (P := P) (w := w) (base := base) T
  have G_plus := ok_plus (P := P) (w := w) (base := base) T
  have G_nearest := ok_nearest (P := P) (w := w) (base := base) T
  refine T.x_lessened.F.ok (k := 4) sc_lessened (spG_len fun _ => rfl) (fun cdv A outer s H vs Q E hr h => ?_)
  refine ⟨_, (pss_cons (ps_set (i := 2) sc_lessened.nd rfl (by first | exact Or.inl rfl | exact Or.inr rfl) (pe_slice (r := rSlL K) sl_list (pv 0) po_none (po_some (pv 1)))) (pss_cons (ps_set (i := 3) sc_lessened.nd rfl (by first | exact Or.inl rfl | exact Or.inr rfl) (pe_call G_ladder (hr.mono (by omega)) rfl T.x_ladder.g T.x_ladder.F.kp T.x_ladder.b .nil pass0 (pa_cons (pv 2) pa_nil))) (pss_cons (ps_set (i := 4) sc_lessened.nd rfl (by first | exact Or.inl rfl | exact Or.inr rfl) (pe_ix (r := rIxL K) ix_list (pv 0) (pv 1) (fun _ _ => rfl))) (pss_cons (ps_for PassesOwn.never rfl (pi_range3 rfl T.b_range (pa_cons (pe_op op_sub (pv 1) pe_int) (pa_cons (pe_un un_neg pe_int) (pa_cons (pe_un un_neg pe_int) pa_nil)))) (pg_name (i := 5) sc_lessened.nd rfl (by first | exact Or.inl rfl | exact Or.inr rfl)) (pss_cons (ps_set (i := 6) sc_lessened.nd rfl (by first | exact Or.inl rfl | exact Or.inr rfl) (pe_call G_ladder_row (hr.mono (by omega)) rfl T.x_ladder_row.g T.x_ladder_row.F.kp T.x_ladder_row.b .nil pass0 (pa_cons (pv 2) (pa_cons (pv 3) (pa_cons (pv 4) pa_nil))))) (pss_one (ps_set (i := 4) sc_lessened.nd rfl (by first | exact Or.inl rfl | exact Or.inr rfl) (pe_call G_plus (hr.mono (by omega)) rfl T.x_plus.g T.x_plus.F.kp T.x_plus.b .nil pass0 (pa_cons (pv 4) (pa_cons (pe_un un_neg (pe_call G_nearest (hr.mono (by omega)) rfl T.x_nearest.g T.x_nearest.F.kp T.x_nearest.b .nil pass0 (pa_cons (pe_ix (r := rIxL K) ix_list (pv 6) (pv 5) (fun _ _ => rfl)) (pa_cons (pe_ix (r := rIxL K) ix_list (pe_ix (r := rIxL K) ix_list (pv 3) (pv 5) (fun _ _ => rfl)) (pv 5) (fun _ _ => rfl)) pa_nil)))) (pa_cons (pe_ix (r := rIxL K) ix_list (pv 0) (pv 5) (fun _ _ => rfl)) pa_nil)))))))) (pss_one (ps_ret (pv 4))))))), ?_⟩
  refine spG_body h fun ⟨n, A, m, k, bs, rs, y0⟩ ⟨⟨hn, hA, hA', inv⟩, hk, tk, gk, kl, yb0⟩ => ?_
  dsimp only at hn hA hA' inv hk tk gk kl yb0 ⊢
  have bl := inv.sh.len
  have lp : Mx.LPre n (bs.take k) 700 := (inv.lpre hn hA' (by decide) (Nat.le_refl _)).take k
  have tl : (bs.take k).length = k := by rw [List.length_take]; omega
  refine ex_seq (ex_set (F := .ill K (bs.take k)) (Ev.of_eq (Ev.sq (K := K) (ev_slicel ((el_sh rfl).le (rows_il (K := K) _)) eo_none (eo_some (ev_var rfl)))) ?_) ?_)
  · rw [cut_take, ← List.map_take, tk]
  show Ex _ _ _
  refine ex_seq (ex_set (ev_callG (n, bs.take k, 700) (eb_l (el_ev (ev_var rfl)) eb_nil) lp) ?_)
  show Ex _ _ _
  refine ex_seq (ex_set (F := .row y0) (ev_ixl (el_sh rfl) (ev_var rfl) (atI_of (j := k) rfl (by rw [List.getElem?_map, gk]; rfl))) ?_)
  show Ex _ _ _
  refine ex_seq (ex_for_map (List.range k) (fun t => .i ((k : Int) - 1 - (t : Nat))) (fun t C' => ∃ y, C' = [.sh K (rs.map MP.row), .im (.i (k : Nat)), .im (.ill K (bs.take k)), .im (.rows (Mx.ltab n (bs.take k))), .im (.row y), .no, .no] ∧
      Si18.rest bs (k - t) y = Si18.rest bs k y0 ∧ y.length = n ∧ Mx.dp n (Mx.vec y) (Mx.vec y) < 2 ^ (24 + 258 * t))
    (Ei.of_eq (ei_down (j := -1) (ea_cons (ev_int0 (ev_var rfl) (ev_c _)) (ea_cons (ev_un (ev_c _)) (ea_cons (ev_un (ev_c _)) ea_nil))) (by omega)) ?_) ⟨_, rfl, rfl, kl, ?_⟩ (fun t x C' hx hI => ?_) (fun C' hI => ?_))
  · rw [show ((k : Int) - 1 - -1).toNat = k by omega]
  · exact yb0
  · obtain ⟨y, rfl, hy, yl, yb⟩ := hI
    have ht : t < k := by
      have := (List.getElem?_eq_some_iff.mp hx).1
      simpa using this
    rw [List.getElem?_range ht] at hx
    cases hx
    generalize hj : k - 1 - t = j
    have ej : (k : Int) - 1 - (t : Nat) = (j : Nat) := by omega
    have e1 : k - t = j + 1 := by omega
    have jk : j < k := by omega
    refine ⟨[5], _, eg_name, ?_⟩
    rw [ej]
    rw [e1] at hy
    have s700 : 24 + 258 * t ≤ 2 * 700 := by omega
    have yb700 : Mx.BigR 700 y := Mx.big_of_sq yl (Int.lt_of_lt_of_le yb (Mx.pow2_le s700))
    have hkj : k - (t + 1) = j := by omega
    have ll : (bs.getD j []).length = n := inv.sh.at (by omega)
    have jn : j < n := by omega
    have jbs : j < bs.length := by omega
    have gj : rs[j]? = some (bs.getD j []) := by
      have this : (rs.take k)[j]? = (bs.take k)[j]? := congrArg (fun l : List (List Int) => l[j]?) tk
      rw [List.getElem?_take_of_lt jk, List.getElem?_take_of_lt jk] at this
      rw [this, List.getD_eq_getElem?_getD, List.getElem?_eq_getElem jbs]; rfl
    have yn : y.length ≤ n := by omega
    have y5 : y.length ≤ 1000 := by omega
    have es : 24 + 258 * (t + 1) = 24 + 258 * t + 258 := by omega
    have s24 : 24 ≤ 24 + 258 * t := by omega
    have jt : j < (bs.take k).length := by omega
    have ft : ∀ a, a < k → Mx.fam (bs.take k) a = Mx.fam bs a := fun a ha => Mx.fam_take ha
    have ggt : Mx.gg n (Mx.fam (bs.take k)) j (Mx.fam (bs.take k) j) (Mx.vec y) = Mx.gg n (Mx.fam bs) j (Mx.fam bs j) (Mx.vec y) := Mx.gg_congr (fun a ha i _ => by rw [ft a (by omega)]) (fun _ _ => rfl) fun i _ => by rw [ft j jk]
    have gdt : Mx.gd n (Mx.fam (bs.take k)) (j + 1) = Mx.gd n (Mx.fam bs) (j + 1) := Mx.gd_congr fun a ha i _ => by rw [ft a (by omega)]
    have pj := inv.pos (j + 1) (by omega)
    have wide := inv.sh.wide
    have b1 : (Mx.gg n (Mx.fam bs) j (Mx.fam bs j) (Mx.vec y)).natAbs < 2 ^ 8437 := by
      have := Mx.gg_big (n := n) (a := 700) (j := j) (B := Mx.fam bs) (x := Mx.vec y) (y := Mx.fam bs j) (by omega) (by omega) (fun b _ => (inv.lpre hn hA' (by decide) (Nat.le_refl 700)).bigB b) (Mx.bigV_of yb700) ((inv.lpre hn hA' (by decide) (Nat.le_refl 700)).bigB j)
      exact this
    have b2 : (Mx.gd n (Mx.fam bs) (j + 1)).natAbs < 2 ^ 8437 := by
      have := Mx.gd_big (n := n) (a := 700) (j := j + 1) (B := Mx.fam bs) (by omega) (by omega) (fun b _ => (inv.lpre hn hA' (by decide) (Nat.le_refl 700)).bigB b)
      exact this
    -- numbers
    refine ex_seq (ex_set (ev_callG (n, bs.take k, 700, y, Mx.ltab n (bs.take k)) (eb_l (el_ev (ev_var rfl)) (eb_l ((el_ev (Ev.sq (ev_var rfl))).le (rows_il (K := K) _)) (eb_f (Ev.sq (ev_var rfl)) eb_nil))) ⟨lp, yl, yb700, TabOk.self n _⟩) ?_)
    show Ex _ _ _
    have g1 : (Mx.lfull n (bs.take k) y)[j]? = some (Mx.gg n (Mx.fam bs) j (Mx.fam bs j) (Mx.vec y)) := by
      unfold Mx.lfull
      rw [List.getElem?_append_left (by rw [Mx.lrow_length]; omega), Mx.lrow_get (by omega), ggt]
    have g2 : (Mx.lrow n (Mx.fam (bs.take k)) (j + 1) (Mx.fam (bs.take k) j))[j]? = some (Mx.gd n (Mx.fam bs) (j + 1)) := by
      rw [Mx.lrow_get (by omega), ← Mx.gd_succ, gdt]
    have qb : (-(Si18.nearest (Mx.gg n (Mx.fam bs) j (Mx.fam bs j) (Mx.vec y)) (Mx.gd n (Mx.fam bs) (j + 1)))).natAbs < 2 ^ (8437 + 3) := by
      rw [Int.natAbs_neg]
      exact Mx.nearest_big pj b1
    have rbig : Mx.BigR 12 (bs.getD j []) := by
      rw [List.getD_eq_getElem?_getD, List.getElem?_eq_getElem (by omega)]
      exact inv.big hA' _ (List.getElem_mem _)
    refine ex_nxdrop [5, 6] (ex_set (ev_call (y, -(Si18.nearest (Mx.gg n (Mx.fam bs) j (Mx.fam bs j) (Mx.vec y)) (Mx.gd n (Mx.fam bs) (j + 1))), bs.getD j [], 8437 + 3, 12)
      (ea_cons (Ev.sq (ev_var rfl)) (ea_cons (ev_un (ev_call (Mx.gg n (Mx.fam bs) j (Mx.fam bs j) (Mx.vec y), Mx.gd n (Mx.fam bs) (j + 1), 8437)
          (ea_cons (ev_ix (Ev.sq (ev_var rfl)) (ev_var rfl) (atI_of (j := j) rfl (nums_get g1))) (ea_cons (ev_ix (Ev.sq (ev_ix (Ev.sq (ev_var rfl)) (ev_var rfl) (atI_of (j := j) rfl (by rw [List.getElem?_map, Mx.ltab_get (by omega)]; rfl)))) (ev_var rfl) (atI_of (j := j) rfl (nums_get g2))) ea_nil)) ⟨pj, b1, b2, show 1 ≤ 8437 by decide, show 8437 ≤ 8900 by decide⟩))
        (ea_cons (Ev.sq (ev_ixl (el_sh rfl) (ev_var rfl) (atI_of (j := j) rfl (by rw [List.getElem?_map, gj]; rfl)))) ea_nil))) ⟨qb, rbig, show 8437 + 3 + 12 + 2 ≤ 1000000 by decide, y5⟩) ?_)
    refine ⟨_, rfl, ?_, ?_, ?_⟩
    · have e : Si18.rest bs (j + 1) y = Si18.rest bs j (Si18.plus y (Si18.times (-(Si18.nearest (Si18.lead bs y j) (Si18.vol bs (j + 1)))) (Si18.row bs j))) := rfl
      rw [e, Mx.lead_gg wide yn, Mx.vol_gd wide] at hy
      rw [hkj]
      exact hy
    · rw [Mx.plus_length (by rw [Mx.times_length, ll, yl]), yl]
    · have lb := Mx.less_big hn hA hA' inv (l := j) (s := 24 + 258 * t) (y := Mx.vec y) jn s24 yb
      rw [es]
      refine Int.lt_of_le_of_lt (Int.le_of_eq ?_) lb
      refine Mx.dp_congr (fun i _ => ?_) fun i _ => ?_ <;>
      · rw [Mx.vec_plus (by rw [Mx.times_length, ll, yl]), Mx.vec_times]
        show Mx.vec y i + -_ * Mx.fam bs j i = _
        rw [Int.neg_mul, ← Int.sub_eq_add_neg]
  · obtain ⟨y, rfl, hy, yl, yb⟩ := hI
    rw [List.length_range, Nat.sub_self] at hy
    refine ex_ret (ev_var rfl) ?_
    have e : y = Si18.rest bs k y0 := hy
    rw [e]; exact MP.le.rfl
/-! in_order -/
def spInOrder (K : PySem.W.Frag) : Sp := spF (fun (c : Nat × Int × Nat × Nat × Nat × List (List Int)) => RPre c.1 c.2.2.1 c.2.1 c.2.2.2.2.2 ∧ c.2.2.2.1 < c.2.2.2.2.1 ∧ c.2.2.2.2.1 ≤ c.1 ∧ 0 < c.2.2.2.1) (fun c => [.rows (Mx.ltab c.1 (c.2.2.2.2.2.take c.2.2.2.2.1)), .i (c.2.2.2.1 : Nat)]) (fun c => .b (Si18.holds c.2.2.2.2.2 c.2.2.2.1))
theorem ok_in_order (T : Txt K mg) : FnOk P w K mg base CX0 2 T.a_in_order T.d_in_order ["table", "place"] (spInOrder K) := by
  have G_leading := ok_leading (P := P) (w := w) (base := base) T
  refine T.x_in_order.F.ok (k := 1) sc_in_order (spF_len fun _ => rfl) (fun cdv A outer s H vs Q E hr h => ?_)
  refine ⟨_, (pss_cons (ps_set (i := 2) sc_in_order.nd rfl (by first | exact Or.inl rfl | exact Or.inr rfl) (pe_ix (r := rIxL K) ix_list (pe_ix (r := rIxL K) ix_list (pv 0) (pv 1) (fun _ _ => rfl)) (pe_op op_sub (pv 1) pe_int) (fun _ _ => rfl))) (pss_cons (ps_set (i := 3) sc_in_order.nd rfl (by first | exact Or.inl rfl | exact Or.inr rfl) (pe_op op_mulW (pe_call G_leading (hr.mono (by omega)) rfl T.x_leading.g T.x_leading.F.kp T.x_leading.b .nil pass0 (pa_cons (pv 0) (pa_cons (pe_op op_add (pv 1) pe_int) pa_nil))) (pe_call G_leading (hr.mono (by omega)) rfl T.x_leading.g T.x_leading.F.kp T.x_leading.b .nil pass0 (pa_cons (pv 0) (pa_cons (pe_op op_sub (pv 1) pe_int) pa_nil))))) (pss_one (ps_ret (pe_cmpR op_le (pe_op op_mulW pe_int (pe_op op_powW (pe_call G_leading (hr.mono (by omega)) rfl T.x_leading.g T.x_leading.F.kp T.x_leading.b .nil pass0 (pa_cons (pv 0) (pa_cons (pv 1) pa_nil))) pe_int)) (pe_op op_mulW pe_int (pe_op op_add (pv 3) (pe_op op_powW (pv 2) pe_int))) (nomark _)))))), ?_⟩
  refine spF_body h fun ⟨n, A, m, k, l, bs⟩ ⟨⟨hn, hA, hA', inv⟩, hk, hl, h0⟩ => ?_
  dsimp only at hn hA hA' inv hk hl h0 ⊢
  have bl := inv.sh.len
  have tl : (bs.take l).length = l := by rw [List.length_take]; omega
  have ft : ∀ a, a < l → Mx.fam (bs.take l) a = Mx.fam bs a := fun a ha => Mx.fam_take ha
  have gdt : ∀ j, j ≤ k + 1 → Mx.gd n (Mx.fam (bs.take l)) j = Mx.gd n (Mx.fam bs) j := fun j hj => Mx.gd_congr fun a ha i _ => by rw [ft a (by omega)]
  have ggt : Mx.gg n (Mx.fam (bs.take l)) (k - 1) (Mx.fam (bs.take l) (k - 1)) (Mx.fam (bs.take l) k) = Mx.gg n (Mx.fam bs) (k - 1) (Mx.fam bs (k - 1)) (Mx.fam bs k) := Mx.gg_congr (fun a ha i _ => by rw [ft a (by omega)]) (fun i _ => by rw [ft k (by omega)]) fun i _ => by rw [ft (k - 1) (by omega)]
  have LP := inv.lpre hn hA' (a := 12) (Nat.le_refl _) (by decide)
  have bd : ∀ j, j ≤ k + 1 → (Mx.gd n (Mx.fam bs) j).natAbs < 2 ^ 181 := fun j hj => Mx.gd_big (a := 12) (by omega) (by omega) fun b _ => LP.bigB b
  have bg : (Mx.gg n (Mx.fam bs) (k - 1) (Mx.fam bs (k - 1)) (Mx.fam bs k)).natAbs < 2 ^ 181 := Mx.gg_big (a := 12) (by omega) (by omega) (fun b _ => LP.bigB b) (LP.bigB k) (LP.bigB (k - 1))
  have lead : ∀ j, j ≤ k + 1 → LeadAt (Mx.ltab n (bs.take l)) j (Mx.gd n (Mx.fam bs) j) := fun j hj => by
    rw [← gdt j hj]; exact leadAt_tab (by omega)
  have g1 : (Mx.ltab n (bs.take l))[k]? = some (Mx.lrow n (Mx.fam (bs.take l)) (k + 1) (Mx.fam (bs.take l) k)) := Mx.ltab_get (by omega)
  have g2 : (Mx.lrow n (Mx.fam (bs.take l)) (k + 1) (Mx.fam (bs.take l) k))[k - 1]? = some (Mx.gg n (Mx.fam bs) (k - 1) (Mx.fam bs (k - 1)) (Mx.fam bs k)) := by
    rw [Mx.lrow_get (by omega), ggt]
  have tab : ∀ C : List En, C[0]? = some (.im (.rows (Mx.ltab n (bs.take l)))) → El K (tVar 0) C ((Mx.ltab n (bs.take l)).map (MP.il K)) := fun C h => (el_ev (Ev.sq (ev_var h))).le (rows_il (K := K) _)
  generalize hg : Mx.gg n (Mx.fam bs) (k - 1) (Mx.fam bs (k - 1)) (Mx.fam bs k) = L at *
  refine ex_seq (ex_set (F := .i L) (ev_ix (Ev.sq (ev_ix (Ev.sq (ev_var rfl)) (ev_var rfl) (atI_of (j := k) rfl (by rw [List.getElem?_map, g1]; rfl)))) (ev_int0 (ev_var rfl) (ev_c _)) (atI_of (j := k - 1) (by omega) (nums_get g2))) ?_)
  show Ex _ _ _
  refine ex_seq (ex_set (ev_int (ev_callG (Mx.ltab n (bs.take l), k + 1, Mx.gd n (Mx.fam bs) (k + 1)) (eb_l (tab _ rfl) (eb_f (Ev.of_eq (ev_int0 (ev_var rfl) (ev_c _)) rfl) eb_nil)) (lead (k + 1) (Nat.le_refl _)))
    (ev_callG (Mx.ltab n (bs.take l), k - 1, Mx.gd n (Mx.fam bs) (k - 1)) (eb_l (tab _ rfl) (eb_f (Ev.of_eq (ev_int0 (ev_var rfl) (ev_c _)) (by rw [show ((k - 1 : Nat) : Int) = (k : Int) - 1 by omega])) eb_nil)) (lead (k - 1) (by omega))) ?_) ?_)
  · exact wide_mul (bd (k + 1) (Nat.le_refl _)) (bd (k - 1) (by omega)) (by decide) (by decide) (by decide)
  show Ex _ _ _
  have bp : (Mx.gd n (Mx.fam bs) (k + 1) * Mx.gd n (Mx.fam bs) (k - 1)).natAbs < 2 ^ 362 := wide_lt (bd (k + 1) (Nat.le_refl _)) (bd (k - 1) (by omega))
  have bq : ∀ x : Int, x.natAbs < 2 ^ 181 → (x ^ (2 : Int).toNat).natAbs < 2 ^ 362 := fun x hx => by
    have e : x ^ (2 : Int).toNat = x * x := by show x ^ 2 = _; rw [Int.pow_succ, Int.pow_succ]; simp
    rw [e]; exact wide_lt hx hx
  refine ex_ret (Ev.of_eq (ev_int0 (ev_int (ev_c _) (ev_int (ev_callG (Mx.ltab n (bs.take l), k, Mx.gd n (Mx.fam bs) k) (eb_l (tab _ rfl) (eb_f (ev_var rfl) eb_nil)) (lead k (by omega))) (ev_c _) ?_) ?_) (ev_int (ev_c _) (ev_int0 (ev_var rfl) (ev_int (ev_var rfl) (ev_c _) ?_)) ?_)) ?_) MP.le.rfl
  · exact wide_pow2 (bd k (by omega)) (by decide) (by decide)
  · exact wide_mul (i := 3) (a := 2) (b := 362) (by decide) (bq _ (bd k (by omega))) (by decide) (by decide) (by decide)
  · exact wide_pow2 bg (by decide) (by decide)
  · refine wide_mul (i := 4) (a := 3) (b := 363) (by decide) ?_ (by decide) (by decide) (by decide)
    have := bq L bg
    have e : (2 : Nat) ^ 363 = 2 ^ 362 + 2 ^ 362 := by rw [show 363 = 362 + 1 by rfl, Nat.pow_succ]; omega
    rw [e]
    exact Nat.lt_of_le_of_lt (Int.natAbs_add_le _ _) (Nat.add_lt_add bp this)
  · show MP.b (decide _) = MP.b _
    congr 1
    rw [Bool.eq_iff_iff, decide_eq_true_iff, Mx.holds_iff inv.sh.wide, hg]
    exact Iff.rfl
/-! reduced -/
def spReduced (K : PySem.W.Frag) : Sp := spG (fun (c : Nat × Int × List (List Int)) => 1 ≤ c.1 ∧ RPre c.1 1 c.2.1 c.2.2) (fun c => [.l K (c.2.2.map MP.row)]) (fun c => .rows (Si18.reducedOf c.1 c.2.2))
theorem ok_reduced (T : Txt K mg) : FnOk P w K mg base CX0 6 T.a_reduced T.d_reduced ["rows"] (spReduced K) := by
  have G_ladder := ok_ladder (P := P) (w := w) (base := base) T
  have G_lessened := ok_lessened (P := P) (w := w) (base := base) T
  have G_in_order := ok_in_order (P := P) (w := w) (base := base) T
  refine T.x_reduced.F.ok (k := 5) sc_reduced (spG_len fun _ => rfl) (fun cdv A outer s H vs Q E hr h => ?_)
  refine ⟨_, (pss_cons (ps_set (i := 1) sc_reduced.nd rfl (by first | exact Or.inl rfl | exact Or.inr rfl) (pe_callTy call_list_of (by rfl) T.b_list (by decide +kernel) (pa_cons (pv 0) pa_nil))) (pss_cons (ps_set (i := 2) sc_reduced.nd rfl (by first | exact Or.inl rfl | exact Or.inr rfl) pe_int) (pss_cons (ps_while PassesOwn.never (pt_cmpR op_lt (pv 2) (pe_callB (r := rLenQ K) call_len_seq (by rfl) T.b_len PySem.boot_len (pa_cons (pv 1) pa_nil)) (nomark _)) (pss_cons (ps_asg (pe_call G_lessened (hr.mono (by omega)) rfl T.x_lessened.g T.x_lessened.F.kp T.x_lessened.b .nil pass0 (pa_cons (pv 1) (pa_cons (pv 2) pa_nil))) (pg_sub (pv 1) (pv 2) set_list)) (pss_one (ps_if (pt_val (pe_call G_in_order (hr.mono (by omega)) rfl T.x_in_order.g T.x_in_order.F.kp T.x_in_order.b .nil pass0 (pa_cons (pe_call G_ladder (hr.mono (by omega)) rfl T.x_ladder.g T.x_ladder.F.kp T.x_ladder.b .nil pass0 (pa_cons (pe_slice (r := rSlL K) sl_list (pv 1) po_none (po_some (pe_op op_add (pv 2) pe_int))) pa_nil)) (pa_cons (pv 2) pa_nil)))) (pss_one (ps_aug (i := 2) sc_reduced.nd rfl (by first | exact Or.inl rfl | exact Or.inr rfl) pe_int ip_add)) (pss_cons (ps_set (i := 3) sc_reduced.nd rfl (by first | exact Or.inl rfl | exact Or.inr rfl) (pe_ix (r := rIxL K) ix_list (pv 1) (pe_op op_sub (pv 2) pe_int) (fun _ _ => rfl))) (pss_cons (ps_asg (pe_ix (r := rIxL K) ix_list (pv 1) (pv 2) (fun _ _ => rfl)) (pg_sub (pv 1) (pe_op op_sub (pv 2) pe_int) set_list)) (pss_cons (ps_asg (pv 3) (pg_sub (pv 1) (pv 2) set_list)) (pss_one (ps_set (i := 2) sc_reduced.nd rfl (by first | exact Or.inl rfl | exact Or.inr rfl) (pe_callB (call_max2 rfl) (by rfl) T.b_max (by decide +kernel) (pa_cons (pe_op op_sub (pv 2) pe_int) (pa_cons pe_int pa_nil)))))))))))) (pss_one (ps_ret (pv 1)))))), ?_⟩
  refine spG_body h fun ⟨n, A, bs⟩ ⟨h1, hn, hA, hA', inv⟩ => ?_
  dsimp only at h1 hn hA hA' inv ⊢
  obtain ⟨run, _, _⟩ := Mx.reduced_ok h1 hn hA hA' inv
  refine ex_seq (ex_list (el_sh rfl) ?_)
  show Ex _ _ _
  refine ex_seq (ex_set (ev_c _) ?_)
  show Ex _ _ _
  refine ex_seq (ex_while (fun m C' => ∃ (k : Nat) (b : List (List Int)), C' = [.sh K (bs.map MP.row), .mu (b.map MP.row), .im (.i (k : Nat)), .no] ∧ Mx.Inv n A k b ∧ 1 ≤ k ∧ k ≤ n ∧ Si18.run n m k b = some (Si18.reducedOf n bs)) 20000 ⟨1, bs, rfl, inv, Nat.le_refl 1, h1, run⟩ fun m C' hI => ?_)
  obtain ⟨k, b, rfl, iv, k1, kn, hr⟩ := hI
  obtain ⟨f, rfl⟩ := Mx.run_pos hr
  have bl := iv.sh.len
  have ml : (b.map MP.row).length = n := by rw [List.length_map, bl]
  refine ⟨_, et_test (ev_int0 (ev_var rfl) (ev_lenl (el_mu rfl))), fun ht => ?_, fun hf => ?_⟩
  · rw [decide_eq_true_iff, ml] at ht
    have kl : k < n := by omega
    have kb : k < b.length := by omega
    obtain ⟨t1, t2⟩ := Mx.run_turn kl hr
    obtain ⟨i1, i2, l⟩ := Mx.inv_less hn hA iv kl
    have es := Mx.shrunk_rest kb
    refine ex_seq (ex_store (i := 1) (j := k) rfl (ev_callG (n, A, k, k, b, b, b.getD k []) (eb_l (el_mu rfl) (eb_f (ev_var rfl) eb_nil)) (LsPre.self ⟨hn, hA, hA', iv⟩ kl)) (ev_var rfl) ?_ ?_)
    · rw [ml]; exact ixN_of rfl kl
    show Ex _ _ _
    have em : (b.map MP.row).set k (MP.row (Si18.rest b k (b.getD k []))) = (Si18.shrunk b k).map MP.row := by rw [es, List.map_set]
    show Ex _ [.sh K (bs.map MP.row), .mu ((b.map MP.row).set k (MP.row (Si18.rest b k (b.getD k [])))), .im (.i (k : Nat)), .no] _
    rw [em]
    generalize Si18.shrunk b k = c at *
    have cl := i1.sh.len
    have gc : ∀ a, a < n → (c.map MP.row)[a]? = some (MP.row (c.getD a [])) := fun a ha => by
      rw [List.getElem?_map, List.getD_eq_getElem?_getD, List.getElem?_eq_getElem (by omega)]; rfl
    refine ex_if (et_b (ev_call (n, A, k, k, k + 1, c) (ea_cons (ev_callG (n, c.take (k + 1), 12) (eb_l (el_ev (Ev.sq (K := K) (Ev.of_eq (E := .lst ((c.take (k + 1)).map (MP.il K))) (ev_slicel ((el_mu rfl).le (rows_il (K := K) _)) eo_none (eo_some (Ev.of_eq (E := .i ((k + 1 : Nat) : Int)) (ev_int0 (ev_var rfl) (ev_c _)) ?_))) ?_))) eb_nil) ?_) (ea_cons (ev_var rfl) ea_nil)) ⟨⟨hn, hA, hA', i1⟩, Nat.lt_succ_self k, kl, k1⟩)) (fun ho => ?_) (fun ho => ?_)
    · rfl
    · rw [cut_take, List.map_take]
    · exact (i1.lpre hn hA' (Nat.le_refl _) (by decide)).take (k + 1)
    · refine ex_aug (i := 2) rfl (ev_c _) ⟨f, Nat.lt_succ_self f, k + 1, c, rfl, Mx.inv_up i1 i2 fun _ => ho, by omega, by omega, t1 ho⟩
    · obtain ⟨p, rfl⟩ : ∃ p, k = p + 1 := ⟨k - 1, by omega⟩
      obtain ⟨j1, _⟩ := Mx.inv_swap hA i1 kl (by rw [ho]; decide)
      refine ex_seq (ex_set (ev_ixl (el_mu rfl) (ev_int0 (ev_var rfl) (ev_c _)) (atI_of (j := p) (by omega) (gc p (by omega)))) ?_)
      show Ex _ _ _
      refine ex_seq (ex_store (i := 1) (j := p) (k := ((p + 1 : Nat) : Int) - 1) rfl (ev_ixl (el_mu rfl) (ev_var rfl) (atI_of (j := p + 1) rfl (gc (p + 1) kl))) (ev_int0 (ev_var rfl) (ev_c _)) ?_ ?_)
      · rw [List.length_map, cl]; exact ixN_of (by omega) (by omega)
      show Ex _ _ _
      refine ex_seq (ex_store (i := 1) (j := p + 1) rfl (ev_var rfl) (ev_var rfl) ?_ ?_)
      · rw [List.length_set, List.length_map, cl]; exact ixN_of rfl kl
      show Ex _ _ _
      refine ex_nxdrop [3] (ex_set (ev_max2 (ea_cons (ev_int0 (ev_var rfl) (ev_c _)) (ea_cons (ev_c _) ea_nil))) ⟨f, Nat.lt_succ_self f, max 1 p, Si18.swapped c (p + 1), ?_, j1, by omega, by omega, t2 ho⟩)
      have e : ((c.map MP.row).set p (MP.row (c.getD (p + 1) []))).set (p + 1) (MP.row (c.getD p [])) = (Si18.swapped c (p + 1)).map MP.row := by
        show _ = List.map MP.row ((c.set (p + 1) (c.getD p [])).set p (c.getD (p + 1) []))
        rw [List.map_set, List.map_set, List.set_comm _ _ (by omega)]
      have e2 : max (((p + 1 : Nat) : Int) - 1) 1 = ((max 1 p : Nat) : Int) := by omega
      rw [← e, ← e2]; rfl
  · rw [decide_eq_false_iff_not, ml] at hf
    have := Mx.run_done (by omega) hr
    refine ex_froze (i := 1) rfl (ex_ret (ev_var rfl) ?_)
    rw [this]; exact MP.le.rfl
end

/-! ## matrix.py: the points that are gathered -/
section
variable {P : Program} {w : World} {K : PySem.W.Frag} {mg : Str → Option Value} {base : Heap}
/-! root -/
def spRoot (K : PySem.W.Frag) : Sp := spF (fun (c : Int × Nat) => 0 ≤ c.1 ∧ c.1.natAbs < 2 ^ c.2 ∧ 1 ≤ c.2 ∧ c.2 ≤ 8000) (fun c => [.i c.1]) (fun c => .i (Mx.isq c.1))
theorem root_next {g z : Int} (hg : 0 < g) (hz : 0 ≤ z) (h : z < g * g) (h2 : z < (g + 1) * (g + 1)) : 0 ≤ (g + z / g) / 2 ∧ (g + z / g) / 2 < g ∧ z < ((g + z / g) / 2 + 1) * ((g + z / g) / 2 + 1) := by
  have q0 : 0 ≤ z / g := Int.ediv_nonneg hz (by omega)
  have q1 : z / g < g := Int.ediv_lt_of_lt_mul hg h
  have e1 := Int.mul_ediv_add_emod z g
  have e2 := Int.emod_lt_of_pos z hg
  generalize z / g = q at *
  generalize z % g = m at *
  refine ⟨by omega, by omega, ?_⟩
  generalize hr : (g + q) / 2 = r
  have r1 : g + q + 1 ≤ 2 * (r + 1) := by omega
  have s := Int.mul_le_mul r1 r1 (by omega) (by omega)
  have d := Mx.sq_nonneg (g - (q + 1))
  have k1 : (g + q + 1) * (g + q + 1) = (g - (q + 1)) * (g - (q + 1)) + 4 * (g * q + g) := by grind
  have k2 : 2 * (r + 1) * (2 * (r + 1)) = 4 * ((r + 1) * (r + 1)) := by grind
  omega
theorem ok_root (T : Txt K mg) : FnOk P w K mg base CX0 1 T.a_root T.d_root ["number"] (spRoot K) := by
  refine T.x_root.F.ok sc_root (spF_len fun _ => rfl) (fun cdv A outer s H vs Q E hr h => ?_)
  refine ⟨_, (pss_cons (ps_set (i := 1) sc_root.nd rfl (by first | exact Or.inl rfl | exact Or.inr rfl) pe_int) (pss_cons (ps_while PassesOwn.never (pt_cmpR op_lt (pe_op op_mulW (pv 1) (pv 1)) (pv 0) (nomark _)) (pss_one (ps_aug (i := 1) sc_root.nd rfl (by first | exact Or.inl rfl | exact Or.inr rfl) pe_int iop_mul))) (pss_cons (ps_while PassesOwn.never (pt_cmpR op_gt (pe_op op_mulW (pv 1) (pv 1)) (pv 0) (nomark _)) (pss_one (ps_set (i := 1) sc_root.nd rfl (by first | exact Or.inl rfl | exact Or.inr rfl) (pe_op op_fdivW (pe_op op_add (pv 1) (pe_op op_fdivW (pv 0) (pv 1))) pe_int)))) (pss_one (ps_ret (pv 1)))))), ?_⟩
  refine spF_body h fun ⟨z, a⟩ ⟨hz, hb, a1, a8⟩ => ?_
  dsimp only at hz hb a1 a8 ⊢
  have pw : ∀ x : Int, 0 ≤ x → x ≤ z → x.natAbs < 2 ^ (a + 2) := fun x h0 h1 => Mx.abs_mono (show x.natAbs < 2 ^ a by omega) (by omega)
  refine ex_seq (ex_set (ev_c _) ?_)
  show Ex _ _ _
  refine ex_seq (ex_while (fun m C' => ∃ g : Int, C' = [.im (.i z), .im (.i g)] ∧ 1 ≤ g ∧ (g = 1 ∨ g < 2 * z) ∧ m = (2 * z + 2 - g).toNat) _ ⟨1, rfl, by decide, .inl rfl, rfl⟩ fun m C' hI => ?_)
  have two : (2 : Nat) ^ (a + 2) = 4 * 2 ^ a := by rw [Nat.pow_add]; omega
  have pa := Nat.two_pow_pos a
  obtain ⟨g, rfl, g1, g2, rfl⟩ := hI
  have gb : g.natAbs < 2 ^ (a + 2) := by omega
  refine ⟨_, et_test (ev_int0 (ev_int (ev_var rfl) (ev_var rfl) (wide_mul gb gb (by omega) (by omega) (by omega))) (ev_var rfl)), fun ht => ?_, fun hf => ?_⟩
  · rw [decide_eq_true_iff] at ht
    have gz : g < z := by
      have := Int.mul_le_mul_of_nonneg_left g1 (show 0 ≤ g by omega)
      omega
    exact ex_augR (i := 1) rfl (ev_c (.int 2)) (.inr ⟨by decide, by decide⟩) ⟨_, by omega, g * 2, rfl, by omega, .inr (by omega), rfl⟩
  · rw [decide_eq_false_iff_not] at hf
    show Ex _ _ _
    have sz : z < (g + 1) * (g + 1) := by
      have : (g + 1) * (g + 1) = g * g + 2 * g + 1 := by grind
      omega
    refine ex_seq (ex_while (fun m C' => ∃ g : Int, C' = [.im (.i z), .im (.i g)] ∧ 0 ≤ g ∧ (g = 1 ∨ g ≤ 2 * z) ∧ z < (g + 1) * (g + 1) ∧ m = g.toNat) _ ⟨g, rfl, by omega, by omega, sz, rfl⟩ fun m C' hI => ?_)
    clear gb g1 g2 hf sz
    obtain ⟨g, rfl, g0, g2, sz, rfl⟩ := hI
    have gb : g.natAbs < 2 ^ (a + 2) := by omega
    refine ⟨_, et_test (ev_int0 (ev_int (ev_var rfl) (ev_var rfl) (wide_mul gb gb (by omega) (by omega) (by omega))) (ev_var rfl)), fun ht => ?_, fun hf => ?_⟩
    · rw [decide_eq_true_iff] at ht
      have gp : 0 < g := by
        rcases Int.lt_or_le 0 g with q | q
        · exact q
        · have : g = 0 := by omega
          rw [this] at ht; omega
      obtain ⟨n1, n2, n3⟩ := root_next gp hz ht sz
      refine ex_set (ev_int (ev_int0 (ev_var rfl) (ev_int (ev_var rfl) (ev_var rfl) (wide_div gp gb (by omega) (by omega)))) (ev_c (.int 2)) (wide_div (b := 2) (by decide) (by decide) (by decide) (by decide))) ⟨_, by omega, (g + z / g) / 2, rfl, n1, ?_, n3, rfl⟩
      rcases g2 with g2 | g2
      · subst g2; omega
      · exact .inr (by omega)
    · rw [decide_eq_false_iff_not] at hf
      refine ex_ret (ev_var rfl) ?_
      rw [Mx.isq_uniq g0 (by omega) sz]
      exact MP.le.rfl
/-! moved_along -/
structure MPre (n : Nat) (A : Int) (bs : List (List Int)) (k p d : Nat) (x : List Int) (bound : Int) : Prop where
  rr : Mx.RR n A bs
  fits : ∀ pts : List (List Int), Mx.Lv n bs bound p pts → pts.Nodup → Mx.Sep bs p pts → pts.length ≤ 16777216
  pk : p < k
  kn : k ≤ n
  hd : d ≤ 4
  b0 : 0 ≤ bound
  b2 : bound ≤ 2 * A
  lq : Mx.Lq n bs bound (p + 1) d x
def spMoved (K : PySem.W.Frag) : Sp := spF (fun (c : Nat × Int × List (List Int) × Nat × Nat × Nat × List Int × Int) => MPre c.1 c.2.1 c.2.2.1 c.2.2.2.1 c.2.2.2.2.1 c.2.2.2.2.2.1 c.2.2.2.2.2.2.1 c.2.2.2.2.2.2.2)
  (fun c => [.ill K (c.2.2.1.take c.2.2.2.1), .rows (Mx.ltab c.1 c.2.2.1), .i (c.2.2.2.2.1 : Nat), .il K c.2.2.2.2.2.2.1, .i c.2.2.2.2.2.2.2]) (fun c => .rows (Mx.mv c.1 c.2.2.1 c.2.2.2.2.1 c.2.2.2.2.2.2.2 c.2.2.2.2.2.2.1))
theorem line24 : sizeLine = 16777216 := by decide
theorem ok_moved_along (T : Txt K mg) : FnOk P w K mg base CX0 4 T.a_moved_along T.d_moved_along ["rows", "table", "place", "point", "bound"] (spMoved K) := by
  have G_ladder_row := ok_ladder_row (P := P) (w := w) (base := base) T
  have G_leading := ok_leading (P := P) (w := w) (base := base) T
  have G_root := ok_root (P := P) (w := w) (base := base) T
  have G_plus := ok_plus (P := P) (w := w) (base := base) T
  refine T.x_moved_along.F.ok (k := 3) sc_moved_along (spF_len fun _ => rfl) (fun cdv A outer s H vs Q E hr h => ?_)
  refine ⟨_, (pss_cons (ps_set (i := 5) sc_moved_along.nd rfl (by first | exact Or.inl rfl | exact Or.inr rfl) (pe_call G_ladder_row (hr.mono (by omega)) rfl T.x_ladder_row.g T.x_ladder_row.F.kp T.x_ladder_row.b .nil pass0 (pa_cons (pe_slice (r := rSlL K) sl_list (pv 0) po_none (po_some (pe_op op_add (pv 2) pe_int))) (pa_cons (pv 1) (pa_cons (pv 3) pa_nil))))) (pss_cons (ps_set (i := 6) sc_moved_along.nd rfl (by first | exact Or.inl rfl | exact Or.inr rfl) (pe_call G_leading (hr.mono (by omega)) rfl T.x_leading.g T.x_leading.F.kp T.x_leading.b .nil pass0 (pa_cons (pv 1) (pa_cons (pe_op op_add (pv 2) pe_int) pa_nil)))) (pss_cons (ps_set (i := 7) sc_moved_along.nd rfl (by first | exact Or.inl rfl | exact Or.inr rfl) (pe_call G_root (hr.mono (by omega)) rfl T.x_root.g T.x_root.F.kp T.x_root.b .nil pass0 (pa_cons (pe_op op_mulW (pe_call G_leading (hr.mono (by omega)) rfl T.x_leading.g T.x_leading.F.kp T.x_leading.b .nil pass0 (pa_cons (pv 1) (pa_cons (pv 2) pa_nil))) (pe_op op_sub (pe_op op_mulW (pv 4) (pv 6)) (pe_ix (r := rIxL K) ix_list (pv 5) (pe_op op_add (pv 2) pe_int) (fun _ _ => rfl)))) pa_nil))) (pss_cons (ps_set (i := 8) sc_moved_along.nd rfl (by first | exact Or.inl rfl | exact Or.inr rfl) (pe_un un_neg (pe_op op_fdivW (pe_op op_add (pv 7) (pe_ix (r := rIxL K) ix_list (pv 5) (pv 2) (fun _ _ => rfl))) (pv 6)))) (pss_cons (ps_set (i := 9) sc_moved_along.nd rfl (by first | exact Or.inl rfl | exact Or.inr rfl) (pe_op op_fdivW (pe_op op_sub (pv 7) (pe_ix (r := rIxL K) ix_list (pv 5) (pv 2) (fun _ _ => rfl))) (pv 6))) (pss_one (ps_ret (pe_lc (own := [("times", 10)]) (g := gName 10) (tt := tYes) rfl sc_moved_along.nd (pi_range2 rfl T.b_range (pa_cons (pv 8) (pa_cons (pe_op op_add (pv 9) pe_int) pa_nil))) (blkOk_by (own := [("times", 10)]) (N := N_moved_along) (sc := defScope (S "moved_along")) (by decide +kernel)) (fun _ _ _ _ _ => (pg_name (i := 10) sc_moved_along.nd rfl (by first | exact Or.inl rfl | exact Or.inr rfl))) (fun _ _ _ _ _ => pts_nil) (fun _ _ _ _ _ => (pe_call G_plus (hr.mono (by omega)) rfl T.x_plus.g T.x_plus.F.kp T.x_plus.b .nil pass0 (pa_cons (pv 3) (pa_cons (pv 10) (pa_cons (pe_ix (r := rIxL K) ix_list (pv 0) (pv 2) (fun _ _ => rfl)) pa_nil))))))))))))), ?_⟩
  refine spF_body h fun ⟨n, A, bs, k, p, d, x, bound⟩ ⟨rr, fits, pk, kn, hd, b0, b2, lq⟩ => ?_
  dsimp only at rr fits pk kn hd b0 b2 lq ⊢
  have pb := rr.pb
  have hn := rr.hn
  have hA' := rr.hA'
  have bl := rr.inv.sh.len
  have xl := lq.len
  have xb := lq.big (by omega)
  have LP : Mx.LPre n bs 700 := rr.inv.lpre hn hA' (by decide) (Nat.le_refl _)
  have lp := LP.take (p + 1)
  have tl : (bs.take (p + 1)).length = p + 1 := by rw [List.length_take]; omega
  obtain ⟨m1, m2, m3, m4, R0⟩ := Mx.lq_ends rr (by omega) b2 lq
  obtain ⟨s0, s62⟩ := Mx.Sd_bound hd
  have ft : ∀ a, a < p + 1 → Mx.fam (bs.take (p + 1)) a = Mx.fam bs a := fun a ha => Mx.fam_take ha
  have ggt : Mx.gg n (Mx.fam (bs.take (p + 1))) p (Mx.fam (bs.take (p + 1)) p) (Mx.vec x) = Mx.gg n (Mx.fam bs) p (Mx.fam bs p) (Mx.vec x) := Mx.gg_congr (fun a ha i _ => by rw [ft a (by omega)]) (fun _ _ => rfl) fun i _ => by rw [ft p (by omega)]
  have gnt : Mx.gg n (Mx.fam (bs.take (p + 1))) (p + 1) (Mx.vec x) (Mx.vec x) = Mx.gg n (Mx.fam bs) (p + 1) (Mx.vec x) (Mx.vec x) := Mx.gg_congr (fun a ha i _ => by rw [ft a ha]) (fun _ _ => rfl) fun _ _ => rfl
  have bD : (Mx.gd n (Mx.fam bs) p).natAbs < 2 ^ (12 * 12 + 37) := Mx.gd_big (by omega) (by omega) fun b _ => (rr.inv.lpre hn hA' (Nat.le_refl 12) (by decide)).bigB b
  have bE : (Mx.gd n (Mx.fam bs) (p + 1)).natAbs < 2 ^ (12 * 12 + 37) := Mx.gd_big (by omega) (by omega) fun b _ => (rr.inv.lpre hn hA' (Nat.le_refl 12) (by decide)).bigB b
  have p0 := rr.inv.pos p (by omega)
  have p1 := rr.inv.pos (p + 1) (by omega)
  have N0 := Mx.gg_nonneg (y := Mx.vec x) p1
  have lv := lq.lv
  have bB : bound.natAbs < 2 ^ 24 := by
    have : (2 : Nat) ^ 24 = 16777216 := rfl
    omega
  have g1 : (Mx.lfull n (bs.take (p + 1)) x)[p]? = some (Mx.gg n (Mx.fam bs) p (Mx.fam bs p) (Mx.vec x)) := by
    unfold Mx.lfull
    rw [List.getElem?_append_left (by rw [Mx.lrow_length]; omega), Mx.lrow_get (by omega), ggt]
  have g2 : (Mx.lfull n (bs.take (p + 1)) x)[p + 1]? = some (Mx.gg n (Mx.fam bs) (p + 1) (Mx.vec x) (Mx.vec x)) := by
    unfold Mx.lfull
    rw [List.getElem?_append_right (by rw [Mx.lrow_length]; omega), Mx.lrow_length, tl, Nat.sub_self, gnt]; rfl
  have lenm : (Mx.mv n bs p bound x).length ≤ 16777216 := by
    have e : [x].flatMap (Mx.mv n bs p bound) = Mx.mv n bs p bound x := by simp
    rw [← e]
    have lv1 : Mx.Lv n bs bound (p + 1) [x] := fun y hy => by rw [List.mem_singleton.1 hy]; exact ⟨xl, lv⟩
    obtain ⟨q1, q2⟩ := Mx.sep_step pb (show p < n by omega) lv1 (by simp) (Mx.sep_one bs (p + 1) x)
    exact fits _ (Mx.lv_step pb (by omega) lv1) q1 q2
  have lead : ∀ j, j ≤ p + 1 → LeadAt (Mx.ltab n bs) j (Mx.gd n (Mx.fam bs) j) := fun j hj => (TabOk.self n bs).lead (by omega)
  have tab : ∀ C : List En, C[1]? = some (.im (.rows (Mx.ltab n bs))) → El K (tVar 1) C ((Mx.ltab n bs).map (MP.il K)) := fun C h => (el_ev (Ev.sq (ev_var h))).le (rows_il (K := K) _)
  unfold Mx.mv at lenm ⊢
  rw [List.length_map, List.length_range] at lenm
  unfold Mx.least Mx.most at *
  generalize hL : Mx.gg n (Mx.fam bs) p (Mx.fam bs p) (Mx.vec x) = L at *
  generalize hN : Mx.gg n (Mx.fam bs) (p + 1) (Mx.vec x) (Mx.vec x) = N at *
  generalize hDD : Mx.gd n (Mx.fam bs) p = D at *
  generalize hEE : Mx.gd n (Mx.fam bs) (p + 1) = F at *
  have bBE : (bound * F).natAbs < 2 ^ (24 + (12 * 12 + 37)) := wide_lt bB bE
  have bX : (bound * F - N).natAbs < 2 ^ (24 + (12 * 12 + 37)) := by omega
  have bR : (D * (bound * F - N)).natAbs < 2 ^ ((12 * 12 + 37) + (24 + (12 * 12 + 37))) := wide_lt bD bX
  -- numbers
  refine ex_seq (ex_set (ev_callG (n, bs.take (p + 1), 700, x, Mx.ltab n bs) (eb_l (El.of_eq (el_ev (Ev.sq (K := K) (ev_slicel (el_ev (ev_var rfl)) eo_none (eo_some (Ev.of_eq (E := .i ((p + 1 : Nat) : Int)) (ev_int0 (ev_var rfl) (ev_c _)) rfl))))) ?_) (eb_l (tab _ rfl) (eb_f (ev_var rfl) eb_nil))) ⟨lp, xl, xb, TabOk.take n bs (p + 1)⟩) ?_)
  · rw [cut_take, ← List.map_take, List.take_take, Nat.min_eq_left (by omega)]
  show Ex _ _ _
  -- size
  refine ex_seq (ex_set (F := .i F) (ev_callG (Mx.ltab n bs, p + 1, F) (eb_l (tab _ rfl) (eb_f (Ev.of_eq (ev_int0 (ev_var rfl) (ev_c _)) rfl) eb_nil)) (hEE ▸ lead (p + 1) (Nat.le_refl _))) ?_)
  show Ex _ _ _
  -- room
  refine ex_seq (ex_set (F := .i (Mx.isq (D * (bound * F - N)))) (ev_call (D * (bound * F - N), (12 * 12 + 37) + (24 + (12 * 12 + 37))) (ea_cons (ev_int (ev_callG (Mx.ltab n bs, p, D) (eb_l (tab _ rfl) (eb_f (ev_var rfl) eb_nil)) (hDD ▸ lead p (by omega)))
    (ev_int0 (ev_int (ev_var rfl) (ev_var rfl) (wide_mul bB bE (by decide) (by decide) (by decide))) (ev_ix (Ev.sq (ev_var rfl)) (ev_int0 (ev_var rfl) (ev_c _)) (atI_of (j := p + 1) (by omega) (nums_get g2)))) (wide_mul bD bX (by decide) (by decide) (by decide))) ea_nil) ⟨R0, bR, show 1 ≤ (12 * 12 + 37) + (24 + (12 * 12 + 37)) by decide, show (12 * 12 + 37) + (24 + (12 * 12 + 37)) ≤ 8000 by decide⟩) ?_)
  show Ex _ _ _
  generalize Mx.isq (D * (bound * F - N)) = r at *
  have num : ∀ C : List En, C[5]? = some (.im (.row (Mx.lfull n (bs.take (p + 1)) x))) → C[2]? = some (.im (.i (p : Nat))) → Ev (tOp (rIxL K) (tVar 5) (tVar 2)) C (.i L) := fun C h1 h2 => ev_ix (Ev.sq (ev_var h1)) (ev_var h2) (atI_of (j := p) rfl (nums_get g1))
  -- least, most
  refine ex_seq (ex_set (F := .i (-((r + L) / F))) (ev_un (ev_int (ev_int0 (ev_var rfl) (num _ rfl rfl)) (ev_var rfl) (wide_div p1 bE (by decide) (by decide)))) ?_)
  show Ex _ _ _
  refine ex_seq (ex_set (F := .i ((r - L) / F)) (ev_int (ev_int0 (ev_var rfl) (num _ rfl rfl)) (ev_var rfl) (wide_div p1 bE (by decide) (by decide))) ?_)
  show Ex _ _ _
  have rl : (bs.getD p []).length = n := rr.inv.sh.at (by omega)
  have rbig : Mx.BigR 12 (bs.getD p []) := by
    rw [List.getD_eq_getElem?_getD, List.getElem?_eq_getElem (by omega)]
    exact rr.inv.big hA' _ (List.getElem_mem _)
  have gp : (bs.take k)[p]? = some (bs.getD p []) := by
    rw [List.getElem?_take_of_lt pk, List.getD_eq_getElem?_getD, List.getElem?_eq_getElem (by omega)]; rfl
  have x1000 : x.length ≤ 1000 := by omega
  refine ex_ret (ev_lc_map (List.range ((r - L) / F + 1 - -((r + L) / F)).toNat) (fun i => MP.i (-((r + L) / F) + (i : Nat))) (fun i => MP.row (Mx.addRow bs p x (-((r + L) / F) + (i : Nat))))
    (ei_range2 (ea_cons (ev_var rfl) (ea_cons (ev_int0 (ev_var rfl) (ev_c _)) ea_nil)) ⟨by omega, by omega, by omega, by omega⟩) (by rw [List.length_range, line24]; exact lenm)
    fun i hi => ⟨[10], _, eg_name, by simp, ev_call (x, -((r + L) / F) + (i : Nat), bs.getD p [], 63, 12) (ea_cons (ev_var rfl) (ea_cons (ev_var rfl) (ea_cons (ev_ix (ev_var rfl) (ev_var rfl) (atI_of (j := p) rfl (by rw [List.getElem?_map, gp]; rfl))) ea_nil))) ⟨?_, rbig, show 63 + 12 + 2 ≤ 1000000 by decide, x1000⟩⟩) ?_
  · have hi := List.mem_range.1 hi
    show (-((r + L) / F) + (i : Nat)).natAbs < 2 ^ 63
    omega
  · show MP.le _ (MP.rows _)
    rw [MP.rows, List.map_map]
    exact MP.le.rfl
/-! points_about -/
structure BPre (n : Nat) (A : Int) (bs : List (List Int)) (k : Nat) (x : List Int) (bound : Int) : Prop where
  rr : Mx.RR n A bs
  fits : ∀ p, p < k → ∀ pts : List (List Int), Mx.Lv n bs bound p pts → pts.Nodup → Mx.Sep bs p pts → pts.length ≤ 16777216
  kn : k ≤ n
  b0 : 0 ≤ bound
  b2 : bound ≤ 2 * A
  lq : Mx.Lq n bs bound k 0 x
def spAbout (K : PySem.W.Frag) : Sp := spF (fun (c : Nat × Int × List (List Int) × Nat × List Int × Int) => BPre c.1 c.2.1 c.2.2.1 c.2.2.2.1 c.2.2.2.2.1 c.2.2.2.2.2)
  (fun c => [.ill K (c.2.2.1.take c.2.2.2.1), .rows (Mx.ltab c.1 c.2.2.1), .row c.2.2.2.2.1, .i c.2.2.2.2.2]) (fun c => .rows (Mx.pa c.1 c.2.2.1 c.2.2.2.2.2 c.2.2.2.1 [c.2.2.2.2.1]))
theorem ok_points_about (T : Txt K mg) : FnOk P w K mg base CX0 5 T.a_points_about T.d_points_about ["rows", "table", "start", "bound"] (spAbout K) := by
  have G_moved_along := ok_moved_along (P := P) (w := w) (base := base) T
  refine T.x_points_about.F.ok (k := 4) sc_points_about (spF_len fun _ => rfl) (fun cdv A outer s H vs Q E hr h => ?_)
  refine ⟨_, (pss_cons (ps_set (i := 4) sc_points_about.nd rfl (by first | exact Or.inl rfl | exact Or.inr rfl) (pe_lst (pa_cons (pv 2) pa_nil))) (pss_cons (ps_for PassesOwn.never rfl (pi_range3 rfl T.b_range (pa_cons (pe_op op_sub (pe_callB (r := rLenQ K) call_len_seq (by rfl) T.b_len PySem.boot_len (pa_cons (pv 0) pa_nil)) pe_int) (pa_cons (pe_un un_neg pe_int) (pa_cons (pe_un un_neg pe_int) pa_nil)))) (pg_name (i := 5) sc_points_about.nd rfl (by first | exact Or.inl rfl | exact Or.inr rfl)) (pss_cons (ps_set (i := 6) sc_points_about.nd rfl (by first | exact Or.inl rfl | exact Or.inr rfl) (pe_lst pa_nil)) (pss_cons (ps_for PassesOwn.never rfl (pi_list (pv 4)) (pg_name (i := 7) sc_points_about.nd rfl (by first | exact Or.inl rfl | exact Or.inr rfl)) (pss_one (ps_expr (pe_bm PySem.F.plainAttrs_list PySem.F.slot_list_extend PySem.F.type_list_extend mt_extend (pv 6) (pa_cons (pe_call G_moved_along (hr.mono (by omega)) rfl T.x_moved_along.g T.x_moved_along.F.kp T.x_moved_along.b .nil pass0 (pa_cons (pv 0) (pa_cons (pv 1) (pa_cons (pv 5) (pa_cons (pv 7) (pa_cons (pv 3) pa_nil)))))) pa_nil))))) (pss_one (ps_set (i := 4) sc_points_about.nd rfl (by first | exact Or.inl rfl | exact Or.inr rfl) (pv 6)))))) (pss_one (ps_ret (pv 4))))), ?_⟩
  refine spF_body h fun ⟨n, A, bs, k, x, bound⟩ ⟨rr, fits, kn, b0, b2, lq⟩ => ?_
  dsimp only at rr fits kn b0 b2 lq ⊢
  have pb := rr.pb
  have hn := rr.hn
  have bl := rr.inv.sh.len
  have tl : ((bs.take k).map (MP.il K)).length = k := by rw [List.length_map, List.length_take]; omega
  refine ex_seq (ex_set (F := .rows [x]) (ev_lst (ea_cons (ev_var rfl) ea_nil) (by show 1 ≤ sizeLine; decide)) ?_)
  show Ex _ _ _
  refine ex_seq (ex_for_map (List.range k) (fun t => .i ((k : Int) - 1 - (t : Nat))) (fun t C' => ∃ pts : List (List Int), C' = [.im (.ill K (bs.take k)), .im (.rows (Mx.ltab n bs)), .im (.row x), .im (.i bound), .im (.rows pts), .no, .no, .no] ∧
      Mx.pa n bs bound (k - t) pts = Mx.pa n bs bound k [x] ∧ (∀ y, y ∈ pts → Mx.Lq n bs bound (k - t) t y) ∧ pts.Nodup ∧ Mx.Sep bs (k - t) pts)
    (Ei.of_eq (ei_down (j := -1) (ea_cons (ev_int0 (ev_len (ea_cons (ev_var rfl) ea_nil)) (ev_c _)) (ea_cons (ev_un (ev_c _)) (ea_cons (ev_un (ev_c _)) ea_nil))) (by rw [tl]; omega)) ?_) ⟨[x], rfl, rfl, ?_, by simp, Mx.sep_one _ _ _⟩ (fun t z C' hz hI => ?_) (fun C' hI => ?_))
  · rw [tl, show ((k : Int) - 1 - -1).toNat = k by omega]
  · intro y hy
    rw [List.mem_singleton.1 hy]; exact lq
  · obtain ⟨pts, rfl, hp, hq, nd, sp⟩ := hI
    have ht : t < k := by
      have := (List.getElem?_eq_some_iff.mp hz).1
      simpa using this
    rw [List.getElem?_range ht] at hz
    cases hz
    generalize hj : k - 1 - t = j
    have ej : (k : Int) - 1 - (t : Nat) = (j : Nat) := by omega
    have e1 : k - t = j + 1 := by omega
    have e2 : k - (t + 1) = j := by omega
    have jk : j < k := by omega
    rw [e1] at hp hq sp
    refine ⟨[5], _, eg_name, ?_⟩
    rw [ej]
    have lv : Mx.Lv n bs bound (j + 1) pts := fun y hy => ⟨(hq y hy).len, (hq y hy).lv⟩
    obtain ⟨nd', sp'⟩ := Mx.sep_step pb (show j < n by omega) lv nd sp
    have lv' := Mx.lv_step pb (show j < n by omega) lv
    have len := fits j jk _ lv' nd' sp'
    refine ex_seq (ex_new ea_nil (Nat.zero_le _) ?_)
    show Ex _ _ _
    refine ex_seq (ex_for_map pts MP.row (fun i C' => C' = [.im (.ill K (bs.take k)), .im (.rows (Mx.ltab n bs)), .im (.row x), .im (.i bound), .im (.rows pts), .im (.i (j : Nat)), .mu (((pts.take i).flatMap (Mx.mv n bs j bound)).map MP.row), .no])
      (ei_list (Ev.sq (K := K) (ev_var rfl))) rfl (fun i y C' hy hI => ?_) (fun C' hI => ?_))
    · subst hI
      have ym : y ∈ pts := List.mem_of_getElem? hy
      refine ⟨[7], _, eg_name, ?_⟩
      have e : ((pts.take i).flatMap (Mx.mv n bs j bound)).map MP.row ++ (Mx.mv n bs j bound y).map MP.row = ((pts.take (i + 1)).flatMap (Mx.mv n bs j bound)).map MP.row := by
        rw [Mx.take_succ_get hy, List.flatMap_append, ← List.map_append]
        simp
      refine ex_nxdrop [7] (ex_extend rfl (ev_call (n, A, bs, k, j, t, y, bound) (ea_cons (ev_var rfl) (ea_cons (ev_var rfl) (ea_cons (ev_var rfl) (ea_cons (Ev.sq (ev_var rfl)) (ea_cons (ev_var rfl) ea_nil))))) ⟨rr, fits j jk, jk, kn, by dsimp only; omega, b0, b2, hq y ym⟩) ?_ ?_)
      · rw [← List.length_append, e, List.length_map, line24]
        refine Nat.le_trans ?_ len
        have : (pts.take (i + 1)).flatMap (Mx.mv n bs j bound) ++ (pts.drop (i + 1)).flatMap (Mx.mv n bs j bound) = pts.flatMap (Mx.mv n bs j bound) := by
          rw [← List.flatMap_append, List.take_append_drop]
        rw [← this, List.length_append]; omega
      · rw [← e]; rfl
    · rw [List.take_length] at hI
      subst hI
      refine ex_froze (i := 6) rfl ?_
      show Ex _ _ _
      refine ex_nxdrop [5, 6, 7] (ex_set (ev_var rfl) ⟨pts.flatMap (Mx.mv n bs j bound), rfl, ?_, ?_, nd', ?_⟩)
      · rw [e2]; exact hp
      · intro y hy
        rw [e2]
        obtain ⟨z, hz, hy⟩ := List.mem_flatMap.1 hy
        exact Mx.lq_step rr (by omega) (by omega) b2 (hq z hz) hy
      · rw [e2]; exact sp'
  · obtain ⟨pts, rfl, hp, _, _, _⟩ := hI
    rw [List.length_range, Nat.sub_self] at hp
    refine ex_ret (ev_var rfl) ?_
    have e : pts = Mx.pa n bs bound k [x] := hp
    rw [e]; exact MP.le.rfl
/-! short_points -/
structure SPre (n : Nat) (A : Int) (bs : List (List Int)) (R : Nat) : Prop where
  h1 : 1 ≤ n
  hn : n ≤ 5
  hA : 0 < A
  hA' : A ≤ 5000000
  hP : A ^ (n - 1) ≤ 2 ^ 60
  inv : Mx.Inv n A 1 bs
  c : Mx.Cnt n A R
def spShort (K : PySem.W.Frag) : Sp := spF (fun (c : Nat × Int × List (List Int) × Nat) => SPre c.1 c.2.1 c.2.2.1 c.2.2.2) (fun c => [.rows c.2.2.1]) (fun c => .rows (Mx.all_ c.1 (Si18.reducedOf c.1 c.2.2.1) c.1))
theorem ok_short_points (T : Txt K mg) : FnOk P w K mg base CX0 7 T.a_short_points T.d_short_points ["rows"] (spShort K) := by
  have G_reduced := ok_reduced (P := P) (w := w) (base := base) T
  have G_ladder := ok_ladder (P := P) (w := w) (base := base) T
  have G_square := ok_square (P := P) (w := w) (base := base) T
  have G_leading := ok_leading (P := P) (w := w) (base := base) T
  have G_points_about := ok_points_about (P := P) (w := w) (base := base) T
  refine T.x_short_points.F.ok (k := 6) sc_short_points (spF_len fun _ => rfl) (fun cdv A outer s H vs Q E hr h => ?_)
  refine ⟨_, (pss_cons (ps_set (i := 1) sc_short_points.nd rfl (by first | exact Or.inl rfl | exact Or.inr rfl) (pe_call G_reduced (hr.mono (by omega)) rfl T.x_reduced.g T.x_reduced.F.kp T.x_reduced.b .nil pass0 (pa_cons (pv 0) pa_nil))) (pss_cons (ps_set (i := 2) sc_short_points.nd rfl (by first | exact Or.inl rfl | exact Or.inr rfl) (pe_call G_ladder (hr.mono (by omega)) rfl T.x_ladder.g T.x_ladder.F.kp T.x_ladder.b .nil pass0 (pa_cons (pv 1) pa_nil))) (pss_cons (ps_set (i := 3) sc_short_points.nd rfl (by first | exact Or.inl rfl | exact Or.inr rfl) (pe_lst pa_nil)) (pss_cons (ps_set (i := 4) sc_short_points.nd rfl (by first | exact Or.inl rfl | exact Or.inr rfl) pe_int) (pss_cons (ps_for PassesOwn.never rfl (pi_range1 rfl T.b_range (pa_cons (pe_callB (r := rLenQ K) call_len_seq (by rfl) T.b_len PySem.boot_len (pa_cons (pv 1) pa_nil)) pa_nil)) (pg_name (i := 5) sc_short_points.nd rfl (by first | exact Or.inl rfl | exact Or.inr rfl)) (pss_cons (ps_set (i := 4) sc_short_points.nd rfl (by first | exact Or.inl rfl | exact Or.inr rfl) (pe_callB (call_max2 rfl) (by rfl) T.b_max (by decide +kernel) (pa_cons (pv 4) (pa_cons (pe_call G_square (hr.mono (by omega)) rfl T.x_square.g T.x_square.F.kp T.x_square.b .nil pass0 (pa_cons (pe_ix (r := rIxL K) ix_list (pv 1) (pv 5) (fun _ _ => rfl)) pa_nil)) pa_nil)))) (pss_cons (ps_set (i := 6) sc_short_points.nd rfl (by first | exact Or.inl rfl | exact Or.inr rfl) pe_int) (pss_one (ps_while PassesOwn.never (pt_cmpR op_le (pe_op op_mulW (pe_op op_mulW (pv 6) (pv 6)) (pe_call G_leading (hr.mono (by omega)) rfl T.x_leading.g T.x_leading.F.kp T.x_leading.b .nil pass0 (pa_cons (pv 2) (pa_cons (pe_op op_add (pv 5) pe_int) pa_nil)))) (pe_op op_mulW (pv 4) (pe_call G_leading (hr.mono (by omega)) rfl T.x_leading.g T.x_leading.F.kp T.x_leading.b .nil pass0 (pa_cons (pv 2) (pa_cons (pv 5) pa_nil)))) (nomark _)) (pss_cons (ps_setLc (i := 7) (own := [("x", 8)]) (g := gName 8) (tt := tYes) rfl sc_short_points.nd rfl rfl (sw_true rfl rfl rfl (by decide +kernel)) (pi_list (pe_ix (r := rIxL K) ix_list (pv 1) (pv 5) (fun _ _ => rfl))) (blkOk_by (own := [("x", 8)]) (N := N_short_points) (sc := defScope (S "short_points")) (by decide +kernel)) (fun _ _ _ _ _ => (pg_name (i := 8) sc_short_points.nd rfl (by first | exact Or.inl rfl | exact Or.inr rfl))) (fun _ _ _ _ _ => pts_nil) (fun _ _ _ _ _ => (pe_op op_mulW (pv 6) (pv 8)))) (pss_cons (ps_expr (pe_bm PySem.F.plainAttrs_list PySem.F.slot_list_extend PySem.F.type_list_extend mt_extend (pv 3) (pa_cons (pe_call G_points_about (hr.mono (by omega)) rfl T.x_points_about.g T.x_points_about.F.kp T.x_points_about.b .nil pass0 (pa_cons (pe_slice (r := rSlL K) sl_list (pv 1) po_none (po_some (pv 5))) (pa_cons (pv 2) (pa_cons (pv 7) (pa_cons (pv 4) pa_nil))))) pa_nil))) (pss_one (ps_aug (i := 6) sc_short_points.nd rfl (by first | exact Or.inl rfl | exact Or.inr rfl) pe_int ip_add))))))))) (pss_one (ps_ret (pv 3)))))))), ?_⟩
  refine spF_body h fun ⟨n, A, b, R⟩ ⟨h1, hn, hA, hA', hP, inv0, cnt⟩ => ?_
  dsimp only at h1 hn hA hA' hP inv0 cnt ⊢
  obtain ⟨_, inv, _⟩ := Mx.reduced_ok h1 hn hA hA' inv0
  refine ex_seq (ex_set (ev_callG (n, A, b) (eb_l (el_ev (Ev.sq (ev_var rfl))) eb_nil) ⟨h1, hn, hA, hA', inv0⟩) ?_)
  show Ex _ _ _
  dsimp only
  generalize Si18.reducedOf n b = bs at *
  have rr : Mx.RR n A bs := ⟨hn, hA, hA', hP, inv⟩
  have pb := rr.pb
  have bl := inv.sh.len
  have ml : (bs.map MP.row).length = n := by rw [List.length_map, bl]
  have LP : Mx.LPre n bs 12 := inv.lpre hn hA' (Nat.le_refl _) (by decide)
  refine ex_seq (ex_set (ev_callG (n, bs, 12) (eb_l ((el_ev (Ev.sq (ev_var rfl))).le (rows_il (K := K) _)) eb_nil) LP) ?_)
  show Ex _ _ _
  refine ex_seq (ex_new ea_nil (Nat.zero_le _) ?_)
  show Ex _ _ _
  refine ex_seq (ex_set (ev_c _) ?_)
  show Ex _ _ _
  have tab : ∀ C : List En, C[2]? = some (.im (.rows (Mx.ltab n bs))) → El K (tVar 2) C ((Mx.ltab n bs).map (MP.il K)) := fun C h => (el_ev (Ev.sq (ev_var h))).le (rows_il (K := K) _)
  refine ex_seq (ex_for_map (List.range n) (fun i => .i (i : Nat)) (fun i C' => C' = [.im (.rows b), .im (.rows bs), .im (.rows (Mx.ltab n bs)), .mu ((Mx.all_ n bs i).map MP.row), .im (.i (Mx.bnd bs i)), .no, .no, .no, .no])
    (Ei.of_eq (ei_range1 (ea_cons (ev_len (ea_cons (Ev.sq (ev_var rfl)) ea_nil)) ea_nil) (by rw [ml]; omega) (by rw [ml]; omega)) (by rw [ml]; rfl)) rfl (fun i x C' hx hI => ?_) (fun C' hI => ?_))
  · subst hI
    have hi : i < n := by
      have := (List.getElem?_eq_some_iff.mp hx).1
      simpa using this
    rw [List.getElem?_range hi] at hx
    cases hx
    refine ⟨[5], _, eg_name, ?_⟩
    have gi : (bs.map MP.row)[i]? = some (MP.row (bs.getD i [])) := by
      rw [List.getElem?_map, List.getD_eq_getElem?_getD, List.getElem?_eq_getElem (by omega)]; rfl
    have rl : (bs.getD i []).length = n := inv.sh.at hi
    have rbig : Mx.BigR 12 (bs.getD i []) := by
      rw [List.getD_eq_getElem?_getD, List.getElem?_eq_getElem (by omega)]
      exact inv.big hA' _ (List.getElem_mem _)
    have row : ∀ C : List En, C[1]? = some (.im (.rows bs)) → C[5]? = some (.im (.i (i : Nat))) → Ev (tOp (rIxL K) (tVar 1) (tVar 5)) C (.row (bs.getD i [])) := fun C h1 h2 => ev_ix (Ev.sq (ev_var h1)) (ev_var h2) (atI_of (j := i) rfl gi)
    refine ex_seq (ex_set (F := .i (Mx.bnd bs (i + 1))) (ev_max2 (ea_cons (ev_var rfl) (ea_cons (ev_call (bs.getD i [], 12) (ea_cons (Ev.sq (row _ rfl rfl)) ea_nil) ⟨rbig, by dsimp only; omega, by dsimp only; omega⟩) ea_nil))) ?_)
    show Ex _ _ _
    refine ex_seq (ex_set (ev_c _) ?_)
    show Ex _ _ _
    have bD : (Mx.gd n (Mx.fam bs) i).natAbs < 2 ^ 181 := Mx.gd_big (a := 12) (by omega) (by omega) fun b _ => LP.bigB b
    have bE : (Mx.gd n (Mx.fam bs) (i + 1)).natAbs < 2 ^ 181 := Mx.gd_big (a := 12) (by omega) (by omega) fun b _ => LP.bigB b
    have bn0 := Mx.bnd_nonneg bs (i + 1)
    have bn2 := rr.bnd_le (k := i + 1) (by omega)
    have bB : (Mx.bnd bs (i + 1)).natAbs < 2 ^ 24 := by
      have : (2 : Nat) ^ 24 = 16777216 := rfl
      omega
    have lead : ∀ j, j ≤ i + 1 → LeadAt (Mx.ltab n bs) j (Mx.gd n (Mx.fam bs) j) := fun j hj => (TabOk.self n bs).lead (by omega)
    refine ex_nxdrop [5, 6] (ex_while (fun m C' => ∃ t : Nat, C' = [.im (.rows b), .im (.rows bs), .im (.rows (Mx.ltab n bs)), .mu ((Mx.all_ n bs i ++ Mx.at_ n bs i t).map MP.row), .im (.i (Mx.bnd bs (i + 1))), .im (.i (i : Nat)), .im (.i ((t : Int) + 1)), .no, .no] ∧ t ≤ Mx.tmax n bs i ∧ m = Mx.tmax n bs i - t) _ ⟨0, ?_, Nat.zero_le _, rfl⟩ fun m C' hI => ?_)
    · have : Mx.all_ n bs i ++ Mx.at_ n bs i 0 = Mx.all_ n bs i := by
        show Mx.all_ n bs i ++ [] = _
        rw [List.append_nil]
      rw [this]; rfl
    · obtain ⟨t, rfl, ht, rfl⟩ := hI
      have t57 : ((t : Int) + 1).natAbs < 2 ^ 58 := by
        cases t with
        | zero => decide
        | succ t =>
          have := (Mx.lq_start rr hi (t := t) (by omega)).2
          omega
      refine ⟨_, et_test (ev_int0 (ev_int (ev_int (ev_var rfl) (ev_var rfl) (wide_mul t57 t57 (by decide) (by decide) (by decide))) (ev_callG (Mx.ltab n bs, i + 1, Mx.gd n (Mx.fam bs) (i + 1)) (eb_l (tab _ rfl) (eb_f (Ev.of_eq (ev_int0 (ev_var rfl) (ev_c _)) rfl) eb_nil)) (lead (i + 1) (Nat.le_refl _))) (wide_mul (wide_lt t57 t57) bE (by decide) (by decide) (by decide)))
        (ev_int (ev_var rfl) (ev_callG (Mx.ltab n bs, i, Mx.gd n (Mx.fam bs) i) (eb_l (tab _ rfl) (eb_f (ev_var rfl) eb_nil)) (lead i (by omega))) (wide_mul bB bD (by decide) (by decide) (by decide)))), fun hc => ?_, fun hc => ?_⟩
      · rw [decide_eq_true_iff] at hc
        have ht' : t < Mx.tmax n bs i := by
          refine (Mx.tmax_iff (t := t + 1) pb hi).2 ?_
          have e : ((t + 1 : Nat) : Int) = (t : Int) + 1 := by omega
          rw [e]; exact hc
        obtain ⟨lq, t2⟩ := Mx.lq_start rr hi ht'
        have es : Mx.all_ n bs i ++ Mx.at_ n bs i t ++ Mx.chunk n bs i t = Mx.all_ n bs i ++ Mx.at_ n bs i (t + 1) := by
          rw [List.append_assoc]
          congr 1
          unfold Mx.at_
          rw [List.range_succ, List.flatMap_append]; simp
        have len := rr.part_len cnt (k := i) (t := t + 1) (by omega) (fun _ => ht') (fun z => absurd hi z)
        refine ex_seq (ex_set (F := .row (Mx.tmul ((t : Int) + 1) (bs.getD i []))) (Ev.of_eq (ev_lc_map (bs.getD i []) MP.i (fun x => MP.i (((t : Int) + 1) * x)) (ei_list (Ev.sq (K := K) (row _ rfl rfl))) (by rw [rl]; exact Nat.le_trans hn (by decide)) fun x hx => ⟨[8], _, eg_name, by simp, ev_int (ev_var rfl) (ev_var rfl) ?_⟩) ?_) ?_)
        · exact wide_mul t57 (rbig x hx) (by decide) (by decide) (by decide)
        · unfold Mx.tmul
          rw [MP.row, nums_map, List.map_map]; rfl
        show Ex _ _ _
        refine ex_seq (ex_extend (i := 3) rfl (ev_call (n, A, bs, i, Mx.tmul ((t : Int) + 1) (bs.getD i []), Mx.bnd bs (i + 1)) (ea_cons (Ev.of_eq (E := .ill K (bs.take i)) (Ev.sq (K := K) (ev_slicel ((el_ev (Ev.sq (K := K) (ev_var rfl))).le (rows_il (K := K) _)) eo_none (eo_some (ev_var rfl)))) ?_) (ea_cons (ev_var rfl) (ea_cons (ev_var rfl) (ea_cons (ev_var rfl) ea_nil)))) ⟨rr, fun p hp pts l d s => rr.fits cnt (by dsimp only at hp; omega) bn2 l d s, Nat.le_of_lt hi, bn0, bn2, lq⟩) ?_ ?_)
        · rw [cut_take, ← List.map_take]
        · show (List.map MP.row _).length + (List.map MP.row (Mx.chunk n bs i t)).length ≤ sizeLine
          rw [List.length_map, List.length_map, ← List.length_append, es, line24]
          exact len
        show Ex _ _ _
        refine ex_nxdrop [7, 8] (ex_aug (i := 6) rfl (ev_c _) ⟨_, by omega, t + 1, ?_, ht', rfl⟩)
        have em : (Mx.all_ n bs i ++ Mx.at_ n bs i t).map MP.row ++ (Mx.chunk n bs i t).map MP.row = (Mx.all_ n bs i ++ Mx.at_ n bs i (t + 1)).map MP.row := by rw [← List.map_append, es]
        rw [← em]; rfl
      · rw [decide_eq_false_iff_not] at hc
        have e : t = Mx.tmax n bs i := by
          rcases Nat.lt_or_ge t (Mx.tmax n bs i) with q | q
          · have := (Mx.tmax_iff (t := t + 1) pb hi).1 q
            have e : ((t + 1 : Nat) : Int) = (t : Int) + 1 := by omega
            rw [e] at this
            exact absurd this hc
          · omega
        have e2 : Mx.all_ n bs i ++ Mx.at_ n bs i t = Mx.all_ n bs (i + 1) := by
          rw [e]
          unfold Mx.all_
          rw [List.range_succ, List.flatMap_append]; simp
        rw [← e2]; rfl
  · rw [List.length_range] at hI
    subst hI
    exact ex_froze (i := 3) rfl (ex_ret (ev_var rfl) MP.le.rfl)
end

/-! ## first_shortest -/
def lamScope (s : Stmt) : Scope := match defBody s with
  | [.Return (some (.Call _ _ [⟨_, .Lambda _ _ sc _, _⟩] _)) _] => sc
  | _ => defScope s
def qLam : Str := (envOfC "first_shortest" (defScope (S "first_shortest")) 0 0 (.ref 0)).qual ++ "<lambda>"
theorem sc_lam : FnScope ["point"] ["point"] (lamScope (S "first_shortest")) := ⟨by rfl, by rfl, by rfl, by decide +kernel, by rfl, by decide +kernel, by decide +kernel⟩
section
variable {P : Program} {w : World} {K : PySem.W.Frag} {mg : Str → Option Value} {base : Heap}
theorem ok_first_shortest (T : Txt K mg) {c Pt : Addr} (hcode : T.d_first_shortest.code = .ref c) (TB : LamX.TabB base mg c Pt) : FnOk P w K mg base CX0 7 T.a_first_shortest T.d_first_shortest ["points"] (spFirst Pt qLam) := by
  have G_square := ok_square (P := P) (w := w) (base := base) T
  refine fun_code (k := 6) T.x_first_shortest.F hcode sc_first_shortest spFirst_len (fun A outer s H vs Q E hr h => ?_)
  refine ⟨_, (pss_one (ps_ret (pe_minLam (k := 2) (nm := "point") TB rfl (Room.in1 (hr.mono (by omega))) rfl hr.units sc_lam
    (fun A' outer' s' H' E' f' c'' hr' => pe_op op_cat (pe_lst (pa_cons (pe_call G_square (hr'.mono (by omega)) rfl T.x_square.g T.x_square.F.kp T.x_square.b .nil pass0 (pa_cons (pv 0) pa_nil)) pa_nil)) (pv 0)) rfl rfl (fun _ _ _ _ _ => rfl) rfl T.b_min (by decide +kernel) (pa_cons (pv 0) pa_nil)))), ?_⟩
  exact first_body (K := K) h (fun v => rfl) fun G H' x pt sm px hl hb => key_new (K := K) sm px hl (ev_call (pt, 12) (ea_cons (Ev.sq (ev_var rfl)) ea_nil) ⟨hb, show 12 + 12 + 2 ≤ 1000000 by decide, hl⟩)
end

/-! ## upright, short -/
section
variable {P : Program} {w : World} {K : PySem.W.Frag} {mg : Str → Option Value} {base : Heap}
def spUp (K : PySem.W.Frag) : Sp := spF (fun (c : List Int) => c.length ≤ 1000) (fun c => [.row c]) (fun c => .row (Mx.upr c))
theorem ok_upright (T : Txt K mg) : FnOk P w K mg base CX0 1 T.a_upright T.d_upright ["point"] (spUp K) := by
  refine T.x_upright.F.ok sc_upright (spF_len fun _ => rfl) (fun cdv A outer s H vs Q E hr h => ?_)
  refine ⟨_, (pss_one (ps_ret (pe_ifExp (pt_cmpR (op_gtL hr.units) (pv 0) (pe_lc (own := [("x", 1)]) (g := gName 1) (tt := tYes) rfl sc_upright.nd (pi_list (pv 0)) (blkOk_by (own := [("x", 1)]) (N := N_upright) (sc := defScope (S "upright")) (by decide +kernel)) (fun _ _ _ _ _ => (pg_name (i := 1) sc_upright.nd rfl (by first | exact Or.inl rfl | exact Or.inr rfl))) (fun _ _ _ _ _ => pts_nil) (fun _ _ _ _ _ => pe_int)) (nomark _)) (pv 0) (pe_lc (own := [("x", 1)]) (g := gName 1) (tt := tYes) rfl sc_upright.nd (pi_list (pv 0)) (blkOk_by (own := [("x", 1)]) (N := N_upright) (sc := defScope (S "upright")) (by decide +kernel)) (fun _ _ _ _ _ => (pg_name (i := 1) sc_upright.nd rfl (by first | exact Or.inl rfl | exact Or.inr rfl))) (fun _ _ _ _ _ => pts_nil) (fun _ _ _ _ _ => (pe_un un_neg (pv 1))))))), ?_⟩
  refine spF_body h fun x hx => ?_
  dsimp only at hx ⊢
  have hl : x.length ≤ sizeLine := Nat.le_trans hx (by decide)
  have zeros : Ev _ _ _ := Ev.of_eq (E := .row (x.map fun _ => (0 : Int))) (ev_lc_map (C := envOf [MP.row x] N_upright.length) (wi := iList K (tVar 0)) (g := gName 1) (te := tC (.int 0)) (vs := [1]) x MP.i (fun _ => MP.i 0) (ei_list (Ev.sq (ev_var rfl))) hl fun a _ => ⟨[1], _, eg_name, by simp, ev_c _⟩) (by rw [MP.row, nums_map, List.map_map]; rfl)
  refine ex_ret (ev_if (et_test (ev_gtL (Ev.sq (ev_var rfl)) (Ev.sq zeros))) (fun h => Ev.of_eq (ev_var rfl) ?_) (fun h => Ev.of_eq (ev_lc_map x MP.i (fun a => MP.i (-a)) (ei_list (Ev.sq (K := K) (ev_var rfl))) hl fun a _ => ⟨[1], _, eg_name, by simp, ev_un (ev_var rfl)⟩) ?_)) MP.le.rfl
  · have h' := of_decide_eq_true h
    show MP.row x = MP.row (Mx.upr x)
    unfold Mx.upr
    rw [if_pos h']
  · have h' := of_decide_eq_false h
    show _ = MP.row (Mx.upr x)
    unfold Mx.upr
    rw [if_neg h', MP.row, nums_map]
    unfold Mx.neg
    rw [List.map_map]; rfl
def spMain (Pt : Addr) (K : PySem.W.Frag) : Sp := spT Pt qLam (fun (c : Int × List Int) => PySi18.short_asked c.1 c.2 = true) (fun c => [.i c.1, .il K c.2]) (fun c => .row (PySi18.short c.1 c.2))
theorem ok_short (T : Txt K mg) {c Pt : Addr} (hcode : T.d_first_shortest.code = .ref c) (TB : LamX.TabB base mg c Pt) : FnOk P w K mg base CX0 22 T.a_short T.d_short ["n", "b"] (spMain Pt K) := by
  have G_first_shortest := ok_first_shortest (P := P) (w := w) (base := base) T hcode TB
  have G_grid_refusal := ok_grid_refusal (P := P) (w := w) (base := base) T
  have G_split_rows := ok_split_rows (P := P) (w := w) (base := base) T
  have G_short_points := ok_short_points (P := P) (w := w) (base := base) T
  have G_upright := ok_upright (P := P) (w := w) (base := base) T
  have G_square := ok_square (P := P) (w := w) (base := base) T
  refine T.x_short.F.ok (k := 21) sc_short (spT_len fun _ => rfl) (fun cdv A outer s H vs Q E hr h => ?_)
  refine ⟨_, (pss_cons (ps_set (i := 2) sc_short.nd rfl (by first | exact Or.inl rfl | exact Or.inr rfl) (pe_call G_grid_refusal (hr.mono (by omega)) rfl T.x_grid_refusal.g T.x_grid_refusal.F.kp T.x_grid_refusal.b .nil pass0 (pa_cons (pv 0) (pa_cons (pe_lst (pa_cons (pv 1) pa_nil)) pa_nil)))) (pss_cons (ps_if (pt_cmpR op_ne (pv 2) pe_int (nomark _)) (pss_one (ps_ret (pe_lst (pa_cons (pv 2) pa_nil)))) pss_nil) (pss_cons (ps_setLc (i := 3) (own := [("point", 4)]) (g := gName 4) (tt := tYes) rfl sc_short.nd rfl rfl (sw_true rfl rfl rfl (by decide +kernel)) (pi_list (pe_call G_short_points (hr.mono (by omega)) rfl T.x_short_points.g T.x_short_points.F.kp T.x_short_points.b .nil pass0 (pa_cons (pe_call G_split_rows (hr.mono (by omega)) rfl T.x_split_rows.g T.x_split_rows.F.kp T.x_split_rows.b .nil pass0 (pa_cons (pv 0) (pa_cons (pv 1) pa_nil))) pa_nil))) (blkOk_by (own := [("point", 4)]) (N := N_short) (sc := defScope (S "short")) (by decide +kernel)) (fun _ _ _ _ _ => (pg_name (i := 4) sc_short.nd rfl (by first | exact Or.inl rfl | exact Or.inr rfl))) (fun _ _ _ _ _ => pts_nil) (fun _ _ _ _ _ => (pe_call G_upright (hr.mono (by omega)) rfl T.x_upright.g T.x_upright.F.kp T.x_upright.b .nil pass0 (pa_cons (pv 4) pa_nil)))) (pss_cons (ps_set (i := 4) sc_short.nd rfl (by first | exact Or.inl rfl | exact Or.inr rfl) (pe_call G_first_shortest (hr.mono (by omega)) rfl T.x_first_shortest.g T.x_first_shortest.F.kp T.x_first_shortest.b .nil pass0 (pa_cons (pv 3) pa_nil))) (pss_one (ps_ret (pe_op op_cat (pe_lst (pa_cons (pe_call G_square (hr.mono (by omega)) rfl T.x_square.g T.x_square.F.kp T.x_square.b .nil pass0 (pa_cons (pv 4) pa_nil)) pa_nil)) (pv 4)))))))), ?_⟩
  refine spT_body h fun ⟨n, b⟩ ask => ?_
  dsimp only at ask ⊢
  have lens : 1 ≤ n → n ≤ 5 → ∀ l ∈ [b], (l.length : Int) = n * n := fun h1 h5 l hl => by
    obtain ⟨m, rfl⟩ : ∃ m : Nat, n = (m : Int) := ⟨n.toNat, by omega⟩
    have := Mx.short_len ask (by omega) (by omega)
    rw [← Int.natCast_mul]
    rw [List.mem_singleton] at hl
    rw [hl]; exact congrArg _ this
  refine ext_seq (ex_set (F := .i (gref n [b])) (ev_call (n, [b]) (ea_cons (ev_var rfl) (ea_cons (Ev.sq (ev_lst (ea_cons (ev_var rfl) ea_nil) (by show 1 ≤ sizeLine; decide))) ea_nil)) lens) ⟨rfl, ?_⟩)
  show ExT _ _ _ [.im (.i n), .im (.il K b), .im (.i (gref n [b])), .no, .no] _
  refine ext_seq (ex_if (et_test (ev_ne (ev_var rfl) (ev_c _) rfl)) (fun h => ?_) (fun h => ?_))
  · refine ex_ret (ev_lst (ea_cons (ev_var rfl) ea_nil) (by show 1 ≤ sizeLine; decide)) ?_
    show MP.le (MP.row [gref n [b]]) (MP.row (PySi18.short n b))
    have h' : gref n [b] ≠ 0 := fun z => by
      rw [z] at h
      cases h
    have e : [gref n [b]] = PySi18.short n b := by
      by_cases hn : n < 1 ∨ n > 5
      · rw [Mx.short_bad hn, gref_bad hn]
      · obtain ⟨e1, e2⟩ := gref_not hn h'
        obtain ⟨m, rfl⟩ : ∃ m : Nat, n = (m : Int) := ⟨n.toNat, by omega⟩
        have hl := Mx.short_len ask (by omega) (by omega)
        rw [e1, Mx.short_good hl (by omega) (by omega), if_neg]
        intro z
        refine e2 ?_
        simp only [List.all_cons, List.all_nil, Bool.and_true]
        unfold flat within
        rw [Int.toNat_natCast]
        simpa using z
    rw [e]
    exact MP.le.rfl
  · refine ex_next ⟨rfl, ?_⟩
    have h' : gref n [b] = 0 := by
      have z := of_decide_eq_true (by simpa using h : decide (V.int (gref n [b]) = V.int 0) = true)
      injection z
    obtain ⟨hn, hw, hf⟩ := gref_zero h'
    obtain ⟨m, rfl⟩ : ∃ m : Nat, n = (m : Int) := ⟨n.toNat, by omega⟩
    have lb := Mx.short_len ask (by omega) (by omega)
    simp only [List.all_cons, List.all_nil, Bool.and_true] at hw hf
    have db : Si18.det m (Si18Neutral.rowsOf (m : Int) b) ≠ 0 := fun z => by
      have := hf
      unfold flat at this
      rw [Int.toNat_natCast, decide_eq_true z] at this
      cases this
    have h1 : 1 ≤ m := by omega
    have h5 : m ≤ 5 := by omega
    have cond : ((b.all fun x => decide (x.natAbs ≤ 1000)) && Si18.det m (Si18Neutral.rowsOf (m : Int) b) != 0) = true := by
      rw [Bool.and_eq_true]
      exact ⟨hw, by simpa using db⟩
    have given : Si18.given (m : Int) (Si18Neutral.rowsOf (m : Int) b) = true := by rw [Mx.given_eq lb]; exact cond
    have nar := Mx.short_light ask h1 h5 given
    have inv := Mx.start_narrow h1 h5 lb nar db
    obtain ⟨A0, A5, cnt⟩ := Mx.best_ok h1 h5
    have good := Mx.short_good lb h1 h5
    rw [if_pos cond] at good
    rw [good]
    obtain ⟨_, inv2, _⟩ := Mx.reduced_ok h1 h5 A0 A5 inv
    obtain ⟨ne, fin⟩ := Mx.short_least h1 h5 A0 A5 inv rfl
    generalize hrs : Si18Neutral.rowsOf (m : Int) b = rs at *
    have rr : Mx.RR m (Mx.bestA m) (Si18.reducedOf m rs) := ⟨h5, A0, A5, Mx.best_pow h1 h5, inv2⟩
    have alen : (Mx.all_ m (Si18.reducedOf m rs) m).length ≤ sizeLine := by
      have := rr.part_len cnt (k := m) (t := 0) (Nat.le_refl m) (fun z => absurd z (by omega)) (fun _ => rfl)
      rw [List.length_append] at this
      rw [line24]; omega
    have am : ∀ x, x ∈ Mx.all_ m (Si18.reducedOf m rs) m → x.length = m ∧ Mx.BigR 12 x := fun x hx => by
      obtain ⟨a1, a2⟩ := Mx.part_mem rr.pb (A := 2 * Mx.bestA m) (by omega) inv2.sq (Nat.le_refl m) (k := m) (t := 0) (fun z => absurd z (by omega)) (fun _ => rfl) (List.mem_append_left _ hx)
      exact ⟨a1, Mx.big_of_sq a1 (Int.lt_of_le_of_lt a2 (by show 2 * Mx.bestA m < 16777216; omega))⟩
    generalize hp : Mx.all_ m (Si18.reducedOf m rs) m = pts at *
    have ub : ∀ x, x ∈ pts.map Mx.upr → Mx.BigR 12 x ∧ x.length = m := fun x hx => by
      obtain ⟨y, hy, rfl⟩ := List.mem_map.1 hx
      obtain ⟨a1, a2⟩ := am y hy
      refine ⟨?_, by rw [Mx.upr_length, a1]⟩
      unfold Mx.upr
      split
      · exact a2
      · intro z hz
        obtain ⟨u, hu, rfl⟩ := List.mem_map.1 hz
        rw [Int.natAbs_neg]; exact a2 u hu
    refine ext_seq (ex_set (F := .rows (pts.map Mx.upr)) (Ev.of_eq (ev_lc_map pts MP.row (fun x => MP.row (Mx.upr x)) (ei_list (Ev.sq (K := K) (Ev.of_eq (ev_call (m, Mx.bestA m, rs, Mx.bestR m) (ea_cons (Ev.of_eq (ev_call (m, b) (ea_cons (ev_var rfl) (ea_cons (ev_var rfl) ea_nil)) ⟨by dsimp only; omega, lb⟩) (congrArg MP.rows hrs)) ea_nil) ⟨h1, h5, A0, A5, Mx.best_pow h1 h5, inv, cnt⟩) (congrArg MP.rows hp)))) alen
      fun x hx => ⟨[4], _, eg_name, by simp, ev_call x (ea_cons (ev_var rfl) ea_nil) (by have := (am x hx).1; omega)⟩) ?_) ⟨rfl, ?_⟩)
    · rw [MP.rows, List.map_map]; rfl
    show ExT _ _ _ [.im (.i (m : Int)), .im (.il K b), .im (.i (gref (m : Int) [b])), .im (.rows (pts.map Mx.upr)), .no] _
    refine ext_first (pts := pts.map Mx.upr) (ea_cons (ev_var rfl) ea_nil) ⟨fun z => ne (by rw [List.map_eq_nil_iff] at z ⊢; exact z), fun x hx => ⟨by rw [(ub x hx).2]; omega, (ub x hx).1⟩⟩ rfl ?_ (fun x hx hl => ext_of ?_)
    · intro F hF
      simp only [List.mem_cons, List.not_mem_nil, or_false, En.im.injEq, reduceCtorEq] at hF
      rcases hF with rfl | rfl | rfl | rfl
      · exact plain_v _
      · exact plain_il _
      · exact plain_v _
      · exact plain_rows _
    · obtain ⟨u1, u2⟩ := ub x hx
      have e := fin (keyOf x) (by
        obtain ⟨y, hy, rfl⟩ := List.mem_map.1 hx
        exact List.mem_map.2 ⟨y, hy, rfl⟩) fun r hr => by
          obtain ⟨y, hy, rfl⟩ := List.mem_map.1 hr
          exact hl _ (List.mem_map.2 ⟨y, hy, rfl⟩)
      rw [← e]
      exact ex_ret (Ev.of_eq (ev_cat (ev_lst (ea_cons (ev_call (x, 12) (ea_cons (Ev.sq (ev_var rfl)) ea_nil) ⟨u1, show 12 + 12 + 2 ≤ 1000000 by decide, by dsimp only; omega⟩) ea_nil) (by show 1 ≤ sizeLine; decide)) (ev_var rfl) (by rw [nums_length, u2]; show 1 + m ≤ sizeLine; rw [line24]; omega)) rfl) MP.le.rfl
end
/-! ### The end -/
theorem all_mk {P : Program} {w : World} {K : PySem.W.Frag} {h : Heap} {mg : Str → Option Value} {c Pt fa f1 f2 f3 f4 f5 f6 f7 f8 f9 f10 f11 f12 f13 f14 f15 f16 f17 f18 f19 f20 f21 f22 f23 f24 : Addr} (X : K.In h) (G : h.Ns mainGlobals mg) (hfa : mg "short" = some (.ref fa))
    {od1 od2 od3 od4 od5 od6 od7 od8 od9 od10 od11 od12 od13 od14 od15 od16 od17 od18 od19 od20 od21 od22 od23 od24 an1 an2 an3 an4 an5 an6 an7 an8 an9 an10 an11 an12 an13 an14 an15 an16 an17 an18 an19 an20 an21 an22 an23 an24 : Option Addr} {sl1 sl2 sl3 sl4 sl5 sl6 sl7 sl8 sl9 sl10 sl11 sl12 sl13 sl14 sl15 sl16 sl17 sl18 sl19 sl20 sl21 sl22 sl23 sl24 : Array (Option Value)} {oc1 kV1 dc1 pm1 cd1 ct1 oc2 kV2 dc2 pm2 cd2 ct2 oc3 kV3 dc3 pm3 cd3 ct3 oc4 kV4 dc4 pm4 cd4 ct4 oc5 kV5 dc5 pm5 cd5 ct5 oc6 kV6 dc6 pm6 cd6 ct6 oc7 kV7 dc7 pm7 cd7 ct7 oc8 kV8 dc8 pm8 cd8 ct8 oc9 kV9 dc9 pm9 cd9 ct9 oc10 kV10 dc10 pm10 cd10 ct10 oc11 kV11 dc11 pm11 cd11 ct11 oc12 kV12 dc12 pm12 cd12 ct12 oc13 kV13 dc13 pm13 cd13 ct13 oc14 kV14 dc14 pm14 cd14 ct14 oc15 kV15 dc15 pm15 cd15 ct15 oc16 kV16 dc16 pm16 cd16 ct16 oc17 kV17 dc17 pm17 cd17 ct17 oc18 kV18 dc18 pm18 cd18 ct18 oc19 kV19 dc19 pm19 cd19 ct19 oc20 kV20 dc20 pm20 cd20 ct20 oc21 kV21 dc21 pm21 cd21 ct21 oc22 kV22 dc22 pm22 cd22 ct22 oc23 kV23 dc23 pm23 cd23 ct23 oc24 kV24 dc24 pm24 cd24 ct24 : Value} {t_LARGEST_SIZE t_LARGEST_NUMBER t_WRONG_SIZE t_WRONG_ROWS : Tok}
    (a1 : PySem.W.nsIn K mainGlobals "split_rows" = some (some (.ref f1))) (l1 : K.lookup f1 = some ⟨oc1, od1, .func (PySem.W.fnOf "split_rows" "split_rows" (defArgs (S "split_rows")) (defBody (S "split_rows")) (defScope (S "split_rows")) .none kV1 dc1 pm1 an1 cd1 ct1), sl1⟩) (c1 : PySem.W.codeIn K cd1 "split_rows" = true) (k1 : PySem.W.keepIn K (.ref f1) = true)
    (a2 : PySem.W.nsIn K mainGlobals "product" = some (some (.ref f2))) (l2 : K.lookup f2 = some ⟨oc2, od2, .func (PySem.W.fnOf "product" "product" (defArgs (S "product")) (defBody (S "product")) (defScope (S "product")) .none kV2 dc2 pm2 an2 cd2 ct2), sl2⟩) (c2 : PySem.W.codeIn K cd2 "product" = true) (k2 : PySem.W.keepIn K (.ref f2) = true)
    (a3 : PySem.W.nsIn K mainGlobals "square" = some (some (.ref f3))) (l3 : K.lookup f3 = some ⟨oc3, od3, .func (PySem.W.fnOf "square" "square" (defArgs (S "square")) (defBody (S "square")) (defScope (S "square")) .none kV3 dc3 pm3 an3 cd3 ct3), sl3⟩) (c3 : PySem.W.codeIn K cd3 "square" = true) (k3 : PySem.W.keepIn K (.ref f3) = true)
    (a4 : PySem.W.nsIn K mainGlobals "plus" = some (some (.ref f4))) (l4 : K.lookup f4 = some ⟨oc4, od4, .func (PySem.W.fnOf "plus" "plus" (defArgs (S "plus")) (defBody (S "plus")) (defScope (S "plus")) .none kV4 dc4 pm4 an4 cd4 ct4), sl4⟩) (c4 : PySem.W.codeIn K cd4 "plus" = true) (k4 : PySem.W.keepIn K (.ref f4) = true)
    (a5 : PySem.W.nsIn K mainGlobals "without" = some (some (.ref f5))) (l5 : K.lookup f5 = some ⟨oc5, od5, .func (PySem.W.fnOf "without" "without" (defArgs (S "without")) (defBody (S "without")) (defScope (S "without")) .none kV5 dc5 pm5 an5 cd5 ct5), sl5⟩) (c5 : PySem.W.codeIn K cd5 "without" = true) (k5 : PySem.W.keepIn K (.ref f5) = true)
    (a6 : PySem.W.nsIn K mainGlobals "cofactor" = some (some (.ref f6))) (l6 : K.lookup f6 = some ⟨oc6, od6, .func (PySem.W.fnOf "cofactor" "cofactor" (defArgs (S "cofactor")) (defBody (S "cofactor")) (defScope (S "cofactor")) .none kV6 dc6 pm6 an6 cd6 ct6), sl6⟩) (c6 : PySem.W.codeIn K cd6 "cofactor" = true) (k6 : PySem.W.keepIn K (.ref f6) = true)
    (a7 : PySem.W.nsIn K mainGlobals "cofactors" = some (some (.ref f7))) (l7 : K.lookup f7 = some ⟨oc7, od7, .func (PySem.W.fnOf "cofactors" "cofactors" (defArgs (S "cofactors")) (defBody (S "cofactors")) (defScope (S "cofactors")) .none kV7 dc7 pm7 an7 cd7 ct7), sl7⟩) (c7 : PySem.W.codeIn K cd7 "cofactors" = true) (k7 : PySem.W.keepIn K (.ref f7) = true)
    (a8 : PySem.W.nsIn K mainGlobals "determinant" = some (some (.ref f8))) (l8 : K.lookup f8 = some ⟨oc8, od8, .func (PySem.W.fnOf "determinant" "determinant" (defArgs (S "determinant")) (defBody (S "determinant")) (defScope (S "determinant")) .none kV8 dc8 pm8 an8 cd8 ct8), sl8⟩) (c8 : PySem.W.codeIn K cd8 "determinant" = true) (k8 : PySem.W.keepIn K (.ref f8) = true)
    (a9 : PySem.W.nsIn K mainGlobals "ladder_row" = some (some (.ref f9))) (l9 : K.lookup f9 = some ⟨oc9, od9, .func (PySem.W.fnOf "ladder_row" "ladder_row" (defArgs (S "ladder_row")) (defBody (S "ladder_row")) (defScope (S "ladder_row")) .none kV9 dc9 pm9 an9 cd9 ct9), sl9⟩) (c9 : PySem.W.codeIn K cd9 "ladder_row" = true) (k9 : PySem.W.keepIn K (.ref f9) = true)
    (a10 : PySem.W.nsIn K mainGlobals "ladder" = some (some (.ref f10))) (l10 : K.lookup f10 = some ⟨oc10, od10, .func (PySem.W.fnOf "ladder" "ladder" (defArgs (S "ladder")) (defBody (S "ladder")) (defScope (S "ladder")) .none kV10 dc10 pm10 an10 cd10 ct10), sl10⟩) (c10 : PySem.W.codeIn K cd10 "ladder" = true) (k10 : PySem.W.keepIn K (.ref f10) = true)
    (a11 : PySem.W.nsIn K mainGlobals "leading" = some (some (.ref f11))) (l11 : K.lookup f11 = some ⟨oc11, od11, .func (PySem.W.fnOf "leading" "leading" (defArgs (S "leading")) (defBody (S "leading")) (defScope (S "leading")) .none kV11 dc11 pm11 an11 cd11 ct11), sl11⟩) (c11 : PySem.W.codeIn K cd11 "leading" = true) (k11 : PySem.W.keepIn K (.ref f11) = true)
    (a12 : PySem.W.nsIn K mainGlobals "nearest" = some (some (.ref f12))) (l12 : K.lookup f12 = some ⟨oc12, od12, .func (PySem.W.fnOf "nearest" "nearest" (defArgs (S "nearest")) (defBody (S "nearest")) (defScope (S "nearest")) .none kV12 dc12 pm12 an12 cd12 ct12), sl12⟩) (c12 : PySem.W.codeIn K cd12 "nearest" = true) (k12 : PySem.W.keepIn K (.ref f12) = true)
    (a13 : PySem.W.nsIn K mainGlobals "lessened" = some (some (.ref f13))) (l13 : K.lookup f13 = some ⟨oc13, od13, .func (PySem.W.fnOf "lessened" "lessened" (defArgs (S "lessened")) (defBody (S "lessened")) (defScope (S "lessened")) .none kV13 dc13 pm13 an13 cd13 ct13), sl13⟩) (c13 : PySem.W.codeIn K cd13 "lessened" = true) (k13 : PySem.W.keepIn K (.ref f13) = true)
    (a14 : PySem.W.nsIn K mainGlobals "in_order" = some (some (.ref f14))) (l14 : K.lookup f14 = some ⟨oc14, od14, .func (PySem.W.fnOf "in_order" "in_order" (defArgs (S "in_order")) (defBody (S "in_order")) (defScope (S "in_order")) .none kV14 dc14 pm14 an14 cd14 ct14), sl14⟩) (c14 : PySem.W.codeIn K cd14 "in_order" = true) (k14 : PySem.W.keepIn K (.ref f14) = true)
    (a15 : PySem.W.nsIn K mainGlobals "reduced" = some (some (.ref f15))) (l15 : K.lookup f15 = some ⟨oc15, od15, .func (PySem.W.fnOf "reduced" "reduced" (defArgs (S "reduced")) (defBody (S "reduced")) (defScope (S "reduced")) .none kV15 dc15 pm15 an15 cd15 ct15), sl15⟩) (c15 : PySem.W.codeIn K cd15 "reduced" = true) (k15 : PySem.W.keepIn K (.ref f15) = true)
    (a16 : PySem.W.nsIn K mainGlobals "root" = some (some (.ref f16))) (l16 : K.lookup f16 = some ⟨oc16, od16, .func (PySem.W.fnOf "root" "root" (defArgs (S "root")) (defBody (S "root")) (defScope (S "root")) .none kV16 dc16 pm16 an16 cd16 ct16), sl16⟩) (c16 : PySem.W.codeIn K cd16 "root" = true) (k16 : PySem.W.keepIn K (.ref f16) = true)
    (a17 : PySem.W.nsIn K mainGlobals "moved_along" = some (some (.ref f17))) (l17 : K.lookup f17 = some ⟨oc17, od17, .func (PySem.W.fnOf "moved_along" "moved_along" (defArgs (S "moved_along")) (defBody (S "moved_along")) (defScope (S "moved_along")) .none kV17 dc17 pm17 an17 cd17 ct17), sl17⟩) (c17 : PySem.W.codeIn K cd17 "moved_along" = true) (k17 : PySem.W.keepIn K (.ref f17) = true)
    (a18 : PySem.W.nsIn K mainGlobals "points_about" = some (some (.ref f18))) (l18 : K.lookup f18 = some ⟨oc18, od18, .func (PySem.W.fnOf "points_about" "points_about" (defArgs (S "points_about")) (defBody (S "points_about")) (defScope (S "points_about")) .none kV18 dc18 pm18 an18 cd18 ct18), sl18⟩) (c18 : PySem.W.codeIn K cd18 "points_about" = true) (k18 : PySem.W.keepIn K (.ref f18) = true)
    (a19 : PySem.W.nsIn K mainGlobals "short_points" = some (some (.ref f19))) (l19 : K.lookup f19 = some ⟨oc19, od19, .func (PySem.W.fnOf "short_points" "short_points" (defArgs (S "short_points")) (defBody (S "short_points")) (defScope (S "short_points")) .none kV19 dc19 pm19 an19 cd19 ct19), sl19⟩) (c19 : PySem.W.codeIn K cd19 "short_points" = true) (k19 : PySem.W.keepIn K (.ref f19) = true)
    (a20 : PySem.W.nsIn K mainGlobals "upright" = some (some (.ref f20))) (l20 : K.lookup f20 = some ⟨oc20, od20, .func (PySem.W.fnOf "upright" "upright" (defArgs (S "upright")) (defBody (S "upright")) (defScope (S "upright")) .none kV20 dc20 pm20 an20 cd20 ct20), sl20⟩) (c20 : PySem.W.codeIn K cd20 "upright" = true) (k20 : PySem.W.keepIn K (.ref f20) = true)
    (a21 : PySem.W.nsIn K mainGlobals "first_shortest" = some (some (.ref f21))) (l21 : K.lookup f21 = some ⟨oc21, od21, .func (PySem.W.fnOf "first_shortest" "first_shortest" (defArgs (S "first_shortest")) (defBody (S "first_shortest")) (defScope (S "first_shortest")) .none kV21 dc21 pm21 an21 cd21 ct21), sl21⟩) (c21 : PySem.W.codeIn K cd21 "first_shortest" = true) (k21 : PySem.W.keepIn K (.ref f21) = true)
    (a22 : PySem.W.nsIn K mainGlobals "refusal" = some (some (.ref f22))) (l22 : K.lookup f22 = some ⟨oc22, od22, .func (PySem.W.fnOf "refusal" "refusal" (defArgs (S "refusal")) (defBody (S "refusal")) (defScope (S "refusal")) .none kV22 dc22 pm22 an22 cd22 ct22), sl22⟩) (c22 : PySem.W.codeIn K cd22 "refusal" = true) (k22 : PySem.W.keepIn K (.ref f22) = true)
    (a23 : PySem.W.nsIn K mainGlobals "grid_refusal" = some (some (.ref f23))) (l23 : K.lookup f23 = some ⟨oc23, od23, .func (PySem.W.fnOf "grid_refusal" "grid_refusal" (defArgs (S "grid_refusal")) (defBody (S "grid_refusal")) (defScope (S "grid_refusal")) .none kV23 dc23 pm23 an23 cd23 ct23), sl23⟩) (c23 : PySem.W.codeIn K cd23 "grid_refusal" = true) (k23 : PySem.W.keepIn K (.ref f23) = true)
    (a24 : PySem.W.nsIn K mainGlobals "short" = some (some (.ref f24))) (l24 : K.lookup f24 = some ⟨oc24, od24, .func (PySem.W.fnOf "short" "short" (defArgs (S "short")) (defBody (S "short")) (defScope (S "short")) .none kV24 dc24 pm24 an24 cd24 ct24), sl24⟩) (c24 : PySem.W.codeIn K cd24 "short" = true) (k24 : PySem.W.keepIn K (.ref f24) = true)
    (z_abs : PySem.W.nsIn K mainGlobals "abs" = some none)
    (z_len : PySem.W.nsIn K mainGlobals "len" = some none)
    (z_list : PySem.W.nsIn K mainGlobals "list" = some none)
    (z_max : PySem.W.nsIn K mainGlobals "max" = some none)
    (z_min : PySem.W.nsIn K mainGlobals "min" = some none)
    (z_range : PySem.W.nsIn K mainGlobals "range" = some none)
    (z_sum : PySem.W.nsIn K mainGlobals "sum" = some none)
    (z_zip : PySem.W.nsIn K mainGlobals "zip" = some none)
    (y_LARGEST_SIZE : PySem.W.nsIn K mainGlobals "LARGEST_SIZE" = some (some (.int (5) t_LARGEST_SIZE)))
    (y_LARGEST_NUMBER : PySem.W.nsIn K mainGlobals "LARGEST_NUMBER" = some (some (.int (1000) t_LARGEST_NUMBER)))
    (y_WRONG_SIZE : PySem.W.nsIn K mainGlobals "WRONG_SIZE" = some (some (.int (-2) t_WRONG_SIZE)))
    (y_WRONG_ROWS : PySem.W.nsIn K mainGlobals "WRONG_ROWS" = some (some (.int (-3) t_WRONG_ROWS)))
    (e_code : cd21 = .ref c) :
    ∃ fd : FuncData, (∀ (s : Shared) (us : List Value), us.length = (["n", "b"] : List Str).length → BindsTo s fd ⟨us, []⟩ ((["n", "b"] : List Str).zip us)) ∧ ∀ base : Heap, K.In base → base.Ns mainGlobals mg → LamX.TabB base mg c Pt → FnOk P w K mg base CX0 22 fa fd ["n", "b"] (spMain Pt K) := by
  have e : f24 = fa := by
    have z := (PySem.W.mg_of X G a24).symm.trans hfa
    injection z with z
    injection z
  subst e
  have F1 := fun_mk (st := S "split_rows") l1 c1 k1
  have b1 := F1.binds (ps := ["n", "numbers"]) fun _ _ _ _ _ _ us hl => match us, hl with | [_, _], _ => by rfl
  have F2 := fun_mk (st := S "product") l2 c2 k2
  have b2 := F2.binds (ps := ["row", "other"]) fun _ _ _ _ _ _ us hl => match us, hl with | [_, _], _ => by rfl
  have F3 := fun_mk (st := S "square") l3 c3 k3
  have b3 := F3.binds (ps := ["row"]) fun _ _ _ _ _ _ us hl => match us, hl with | [_], _ => by rfl
  have F4 := fun_mk (st := S "plus") l4 c4 k4
  have b4 := F4.binds (ps := ["row", "times", "other"]) fun _ _ _ _ _ _ us hl => match us, hl with | [_, _, _], _ => by rfl
  have F5 := fun_mk (st := S "without") l5 c5 k5
  have b5 := F5.binds (ps := ["rows", "place", "column"]) fun _ _ _ _ _ _ us hl => match us, hl with | [_, _, _], _ => by rfl
  have F6 := fun_mk (st := S "cofactor") l6 c6 k6
  have b6 := F6.binds (ps := ["rows", "place", "column"]) fun _ _ _ _ _ _ us hl => match us, hl with | [_, _, _], _ => by rfl
  have F7 := fun_mk (st := S "cofactors") l7 c7 k7
  have b7 := F7.binds (ps := ["rows", "place"]) fun _ _ _ _ _ _ us hl => match us, hl with | [_, _], _ => by rfl
  have F8 := fun_mk (st := S "determinant") l8 c8 k8
  have b8 := F8.binds (ps := ["rows"]) fun _ _ _ _ _ _ us hl => match us, hl with | [_], _ => by rfl
  have F9 := fun_mk (st := S "ladder_row") l9 c9 k9
  have b9 := F9.binds (ps := ["rows", "table", "row"]) fun _ _ _ _ _ _ us hl => match us, hl with | [_, _, _], _ => by rfl
  have F10 := fun_mk (st := S "ladder") l10 c10 k10
  have b10 := F10.binds (ps := ["rows"]) fun _ _ _ _ _ _ us hl => match us, hl with | [_], _ => by rfl
  have F11 := fun_mk (st := S "leading") l11 c11 k11
  have b11 := F11.binds (ps := ["table", "size"]) fun _ _ _ _ _ _ us hl => match us, hl with | [_, _], _ => by rfl
  have F12 := fun_mk (st := S "nearest") l12 c12 k12
  have b12 := F12.binds (ps := ["number", "part"]) fun _ _ _ _ _ _ us hl => match us, hl with | [_, _], _ => by rfl
  have F13 := fun_mk (st := S "lessened") l13 c13 k13
  have b13 := F13.binds (ps := ["rows", "place"]) fun _ _ _ _ _ _ us hl => match us, hl with | [_, _], _ => by rfl
  have F14 := fun_mk (st := S "in_order") l14 c14 k14
  have b14 := F14.binds (ps := ["table", "place"]) fun _ _ _ _ _ _ us hl => match us, hl with | [_, _], _ => by rfl
  have F15 := fun_mk (st := S "reduced") l15 c15 k15
  have b15 := F15.binds (ps := ["rows"]) fun _ _ _ _ _ _ us hl => match us, hl with | [_], _ => by rfl
  have F16 := fun_mk (st := S "root") l16 c16 k16
  have b16 := F16.binds (ps := ["number"]) fun _ _ _ _ _ _ us hl => match us, hl with | [_], _ => by rfl
  have F17 := fun_mk (st := S "moved_along") l17 c17 k17
  have b17 := F17.binds (ps := ["rows", "table", "place", "point", "bound"]) fun _ _ _ _ _ _ us hl => match us, hl with | [_, _, _, _, _], _ => by rfl
  have F18 := fun_mk (st := S "points_about") l18 c18 k18
  have b18 := F18.binds (ps := ["rows", "table", "start", "bound"]) fun _ _ _ _ _ _ us hl => match us, hl with | [_, _, _, _], _ => by rfl
  have F19 := fun_mk (st := S "short_points") l19 c19 k19
  have b19 := F19.binds (ps := ["rows"]) fun _ _ _ _ _ _ us hl => match us, hl with | [_], _ => by rfl
  have F20 := fun_mk (st := S "upright") l20 c20 k20
  have b20 := F20.binds (ps := ["point"]) fun _ _ _ _ _ _ us hl => match us, hl with | [_], _ => by rfl
  have F21 := fun_mk (st := S "first_shortest") l21 c21 k21
  have b21 := F21.binds (ps := ["points"]) fun _ _ _ _ _ _ us hl => match us, hl with | [_], _ => by rfl
  have F22 := fun_mk (st := S "refusal") l22 c22 k22
  have b22 := F22.binds (ps := ["n", "lists"]) fun _ _ _ _ _ _ us hl => match us, hl with | [_, _], _ => by rfl
  have F23 := fun_mk (st := S "grid_refusal") l23 c23 k23
  have b23 := F23.binds (ps := ["n", "grids"]) fun _ _ _ _ _ _ us hl => match us, hl with | [_, _], _ => by rfl
  have F24 := fun_mk (st := S "short") l24 c24 k24
  have b24 := F24.binds (ps := ["n", "b"]) fun _ _ _ _ _ _ us hl => match us, hl with | [_, _], _ => by rfl
  subst e_code
  have T : Σ' T : Txt K mg, T.a_short = f24 ∧ T.d_first_shortest.code = .ref c ∧ T.d_short = (PySem.W.fnOf "short" "short" (defArgs (S "short")) (defBody (S "short")) (defScope (S "short")) .none kV24 dc24 pm24 an24 cd24 ct24) := ⟨⟨_, _, ⟨F1, PySem.W.mg_of X G a1, b1⟩, _, _, ⟨F2, PySem.W.mg_of X G a2, b2⟩, _, _, ⟨F3, PySem.W.mg_of X G a3, b3⟩, _, _, ⟨F4, PySem.W.mg_of X G a4, b4⟩, _, _, ⟨F5, PySem.W.mg_of X G a5, b5⟩, _, _, ⟨F6, PySem.W.mg_of X G a6, b6⟩, _, _, ⟨F7, PySem.W.mg_of X G a7, b7⟩, _, _, ⟨F8, PySem.W.mg_of X G a8, b8⟩, _, _, ⟨F9, PySem.W.mg_of X G a9, b9⟩, _, _, ⟨F10, PySem.W.mg_of X G a10, b10⟩, _, _, ⟨F11, PySem.W.mg_of X G a11, b11⟩, _, _, ⟨F12, PySem.W.mg_of X G a12, b12⟩, _, _, ⟨F13, PySem.W.mg_of X G a13, b13⟩, _, _, ⟨F14, PySem.W.mg_of X G a14, b14⟩, _, _, ⟨F15, PySem.W.mg_of X G a15, b15⟩, _, _, ⟨F16, PySem.W.mg_of X G a16, b16⟩, _, _, ⟨F17, PySem.W.mg_of X G a17, b17⟩, _, _, ⟨F18, PySem.W.mg_of X G a18, b18⟩, _, _, ⟨F19, PySem.W.mg_of X G a19, b19⟩, _, _, ⟨F20, PySem.W.mg_of X G a20, b20⟩, _, _, ⟨F21, PySem.W.mg_of X G a21, b21⟩, _, _, ⟨F22, PySem.W.mg_of X G a22, b22⟩, _, _, ⟨F23, PySem.W.mg_of X G a23, b23⟩, _, _, ⟨F24, PySem.W.mg_of X G a24, b24⟩, PySem.W.mg_none_of X G z_abs, PySem.W.mg_none_of X G z_len, PySem.W.mg_none_of X G z_list, PySem.W.mg_none_of X G z_max, PySem.W.mg_none_of X G z_min, PySem.W.mg_none_of X G z_range, PySem.W.mg_none_of X G z_sum, PySem.W.mg_none_of X G z_zip, _, PySem.W.mg_of X G y_LARGEST_SIZE, _, PySem.W.mg_of X G y_LARGEST_NUMBER, _, PySem.W.mg_of X G y_WRONG_SIZE, _, PySem.W.mg_of X G y_WRONG_ROWS⟩, rfl, rfl, rfl⟩
  obtain ⟨T, e1, ec, e2⟩ := T
  refine ⟨T.d_short, fun s us hu => match us, hu with | [_, _], _ => by rw [e2]; exact .of_eq rfl, fun base _ _ TB => ?_⟩
  rw [← e1]
  exact ok_short T ec TB
theorem row_dw {K : PySem.W.Frag} {H : Hp} {v : V} {ns : List Int} (h : (MP.row ns).p H v) : Dw K H v (.list (ns.map PySem.W.WData.int)) := by
  obtain ⟨a, vs, rfl, q, r⟩ := h
  rw [pair_nums r] at q
  exact .lst (SqL.of q) (dw_ints ns)
end Py
open PySem PySem.W PyProof.Rows
set_option maxRecDepth 100000 in
set_option maxHeartbeats 8000000 in
theorem PySem.Challenge.cw_gridsteps_s03_short_holds : PySem.Challenge.rw_gridsteps_s03_short.Holds := by
  w_on; k_headS; (case hw => exact ⟨[.int 0, .list []], by decide +kernel, by decide +kernel⟩)
  k_fillS
  refine Py.walk_specT (r := PySem.Challenge.rw_gridsteps_s03_short) (k := 22) (ps := ["n", "b"]) (sp := Py.spMain 140) (x := "first_shortest") (c := 144) (Pt := 140) (by decide +kernel) rfl rfl ⟨rfl, by decide, by decide⟩ (fun w h Y => PySem.W.kIn_of Y) rfl (fun _ => rfl) (fun _ => rfl) ?F ?S
  case F =>
    intro w mg fa h Y KX G hmg
    refine' Py.all_mk KX G hmg ?a1 ?l1 ?c1 ?k1 ?a2 ?l2 ?c2 ?k2 ?a3 ?l3 ?c3 ?k3 ?a4 ?l4 ?c4 ?k4 ?a5 ?l5 ?c5 ?k5 ?a6 ?l6 ?c6 ?k6 ?a7 ?l7 ?c7 ?k7 ?a8 ?l8 ?c8 ?k8 ?a9 ?l9 ?c9 ?k9 ?a10 ?l10 ?c10 ?k10 ?a11 ?l11 ?c11 ?k11 ?a12 ?l12 ?c12 ?k12 ?a13 ?l13 ?c13 ?k13 ?a14 ?l14 ?c14 ?k14 ?a15 ?l15 ?c15 ?k15 ?a16 ?l16 ?c16 ?k16 ?a17 ?l17 ?c17 ?k17 ?a18 ?l18 ?c18 ?k18 ?a19 ?l19 ?c19 ?k19 ?a20 ?l20 ?c20 ?k20 ?a21 ?l21 ?c21 ?k21 ?a22 ?l22 ?c22 ?k22 ?a23 ?l23 ?c23 ?k23 ?a24 ?l24 ?c24 ?k24 ?z_abs ?z_len ?z_list ?z_max ?z_min ?z_range ?z_sum ?z_zip ?y_LARGEST_SIZE ?y_LARGEST_NUMBER ?y_WRONG_SIZE ?y_WRONG_ROWS ?e_code
    (case a1 => k_is)
    (case l1 => k_is)
    (case c1 => k_is)
    (case k1 => k_is)
    (case a2 => k_is)
    (case l2 => k_is)
    (case c2 => k_is)
    (case k2 => k_is)
    (case a3 => k_is)
    (case l3 => k_is)
    (case c3 => k_is)
    (case k3 => k_is)
    (case a4 => k_is)
    (case l4 => k_is)
    (case c4 => k_is)
    (case k4 => k_is)
    (case a5 => k_is)
    (case l5 => k_is)
    (case c5 => k_is)
    (case k5 => k_is)
    (case a6 => k_is)
    (case l6 => k_is)
    (case c6 => k_is)
    (case k6 => k_is)
    (case a7 => k_is)
    (case l7 => k_is)
    (case c7 => k_is)
    (case k7 => k_is)
    (case a8 => k_is)
    (case l8 => k_is)
    (case c8 => k_is)
    (case k8 => k_is)
    (case a9 => k_is)
    (case l9 => k_is)
    (case c9 => k_is)
    (case k9 => k_is)
    (case a10 => k_is)
    (case l10 => k_is)
    (case c10 => k_is)
    (case k10 => k_is)
    (case a11 => k_is)
    (case l11 => k_is)
    (case c11 => k_is)
    (case k11 => k_is)
    (case a12 => k_is)
    (case l12 => k_is)
    (case c12 => k_is)
    (case k12 => k_is)
    (case a13 => k_is)
    (case l13 => k_is)
    (case c13 => k_is)
    (case k13 => k_is)
    (case a14 => k_is)
    (case l14 => k_is)
    (case c14 => k_is)
    (case k14 => k_is)
    (case a15 => k_is)
    (case l15 => k_is)
    (case c15 => k_is)
    (case k15 => k_is)
    (case a16 => k_is)
    (case l16 => k_is)
    (case c16 => k_is)
    (case k16 => k_is)
    (case a17 => k_is)
    (case l17 => k_is)
    (case c17 => k_is)
    (case k17 => k_is)
    (case a18 => k_is)
    (case l18 => k_is)
    (case c18 => k_is)
    (case k18 => k_is)
    (case a19 => k_is)
    (case l19 => k_is)
    (case c19 => k_is)
    (case k19 => k_is)
    (case a20 => k_is)
    (case l20 => k_is)
    (case c20 => k_is)
    (case k20 => k_is)
    (case a21 => k_is)
    (case l21 => k_is)
    (case c21 => k_is)
    (case k21 => k_is)
    (case a22 => k_is)
    (case l22 => k_is)
    (case c22 => k_is)
    (case k22 => k_is)
    (case a23 => k_is)
    (case l23 => k_is)
    (case c23 => k_is)
    (case k23 => k_is)
    (case a24 => k_is)
    (case l24 => k_is)
    (case c24 => k_is)
    (case k24 => k_is)
    (case z_abs => k_is)
    (case z_len => k_is)
    (case z_list => k_is)
    (case z_max => k_is)
    (case z_min => k_is)
    (case z_range => k_is)
    (case z_sum => k_is)
    (case z_zip => k_is)
    (case y_LARGEST_SIZE => k_is)
    (case y_LARGEST_NUMBER => k_is)
    (case y_WRONG_SIZE => k_is)
    (case y_WRONG_ROWS => k_is)
    (case e_code => rfl)
  case S =>
    intro K H0 H xs a sm tab hwi hask hx
    obtain ⟨n, b, u⟩ := a
    cases hx with
    | cons h1 h2 =>
      cases h2 with
      | cons h2 h3 =>
        cases h3
        cases h1
        cases h2 with
        | lst hs ha =>
          have e := L2.ints_dw b _ ha
          subst e
          exact ⟨H0, (n, b), hask, sm, .cons rfl (.cons ⟨_, _, rfl, hs, Py.nums_pair b⟩ .nil), LamX.TabS.nil tab, fun G' H' v s p => Py.row_dw ((Py.MP.row _).m s p)⟩
#print axioms PySem.Challenge.cw_gridsteps_s03_short_holds

