import PyProof.Rows.All
import Wide.All
import OpenK.AllK
import Wide.FinOn
import Open.SpecLaws
import KE.OsGo
import HandS.ForSpec
import HandS.ForMost
import HandS.Zip
import HandS.Wide
import HandS.Flow
import PySem.Challenge.RW_gridsteps_s02_same
set_option Elab.async false
set_option linter.all false
set_option maxRecDepth 100000
set_option maxHeartbeats 2000000
/-! # Words over the readings: an abstract environment in the place of slots and heaps -/
namespace Py
open PySem PySem.Spec PyProof.Rows L2

/-! ### Facts of a value that further objects don't change -/
structure MP where
  p : Hp → V → Prop
  m : ∀ {G G' : Hp} {v : V}, Same G G' → p G v → p G' v

abbrev PairG (G : Hp) (vs : List V) (Fs : List MP) : Prop := Paired (fun (x : V) (F : MP) => F.p G x) vs Fs
theorem PairG.mono {G G' : Hp} (s : Same G G') : ∀ {vs : List V} {Fs : List MP}, PairG G vs Fs → PairG G' vs Fs
  | _, _, .nil => .nil
  | _, _, .cons (b := F) h t => .cons (F.m s h) (PairG.mono s t)
theorem PairG.get {G : Hp} : ∀ {vs : List V} {Fs : List MP} {i : Nat} {F : MP}, PairG G vs Fs → Fs[i]? = some F → ∃ v, vs[i]? = some v ∧ F.p G v
  | _, _, i, F, .nil, h => by simp at h
  | _, _, 0, F, .cons (a := v) h t, e => by simp at e; subst e; exact ⟨v, rfl, h⟩
  | _, _, i + 1, F, .cons h t, e => by
    have e' := e
    simp only [List.getElem?_cons_succ] at e'
    obtain ⟨v, a, b⟩ := PairG.get t e'
    exact ⟨v, by simpa using a, b⟩
theorem PairG.append {G : Hp} : ∀ {vs ws : List V} {Fs Es : List MP}, PairG G vs Fs → PairG G ws Es → PairG G (vs ++ ws) (Fs ++ Es)
  | _, _, _, _, .nil, h => h
  | _, _, _, _, .cons a t, h => .cons a (PairG.append t h)
theorem PairG.take {G : Hp} : ∀ {vs : List V} {Fs : List MP} (n : Nat), PairG G vs Fs → PairG G (vs.take n) (Fs.take n)
  | _, _, 0, _ => .nil
  | _, _, _ + 1, .nil => .nil
  | _, _, n + 1, .cons a t => .cons a (PairG.take n t)
theorem PairG.drop {G : Hp} : ∀ {vs : List V} {Fs : List MP} (n : Nat), PairG G vs Fs → PairG G (vs.drop n) (Fs.drop n)
  | _, _, 0, h => h
  | _, _, _ + 1, .nil => .nil
  | _, _, n + 1, .cons _ t => PairG.drop n t
theorem PairG.set {G : Hp} {v : V} {F : MP} (h : F.p G v) : ∀ {vs : List V} {Fs : List MP} (n : Nat), PairG G vs Fs → PairG G (vs.set n v) (Fs.set n F)
  | _, _, _, .nil => .nil
  | _, _, 0, .cons _ t => .cons h t
  | _, _, n + 1, .cons a t => .cons a (PairG.set h n t)

/-- the very value -/
def MP.v (x : V) : MP := ⟨fun _ v => v = x, fun _ h => h⟩
abbrev MP.i (n : Int) : MP := MP.v (.int n)
abbrev MP.b (c : Bool) : MP := MP.v (.bl c)
/-- a list that may be read -/
def MP.sq (K : PySem.W.Frag) (Fs : List MP) : MP := ⟨fun G v => ∃ a vs, v = .ref a ∧ SqL K G a vs ∧ PairG G vs Fs,
  fun s h => let ⟨a, vs, e, q, r⟩ := h; ⟨a, vs, e, s.seq q, r.mono s⟩⟩
/-- a list that was made here -/
def MP.lst (Fs : List MP) : MP := ⟨fun G v => ∃ a vs, v = .ref a ∧ G a = some (.lst vs) ∧ PairG G vs Fs,
  fun s h => let ⟨a, vs, e, q, r⟩ := h; ⟨a, vs, e, s _ _ q, r.mono s⟩⟩
def MP.tup (Fs : List MP) : MP := ⟨fun G v => ∃ a vs, v = .ref a ∧ G a = some (.tup vs) ∧ PairG G vs Fs,
  fun s h => let ⟨a, vs, e, q, r⟩ := h; ⟨a, vs, e, s _ _ q, r.mono s⟩⟩
def MP.ex {A : Type} (F : A → MP) (P : A → Prop) : MP := ⟨fun G v => ∃ x, P x ∧ (F x).p G v, fun s h => let ⟨x, q, r⟩ := h; ⟨x, q, (F x).m s r⟩⟩
def MP.le (F E : MP) : Prop := ∀ G v, F.p G v → E.p G v
theorem MP.le.rfl {F : MP} : F.le F := fun _ _ h => h
theorem MP.le_sq {K : PySem.W.Frag} {Fs : List MP} : (MP.lst Fs).le (MP.sq K Fs) := fun _ _ h => let ⟨a, vs, e, q, r⟩ := h; ⟨a, vs, e, SqL.of q, r⟩

/-! ### Heaps: H as it stands, G the part that no longer changes -/
structure Ext (G H G' H' : Hp) : Prop where
  h : Same H H'
  g : Same G G'
  gh : Same G' H'
  nw : ∀ b, G b = none → H b ≠ none → G' b = none
theorem Ext.refl {G H : Hp} (s : Same G H) : Ext G H G H := ⟨Same.refl H, Same.refl G, s, fun _ h _ => h⟩
theorem Same.some_ne {H H' : Hp} (s : Same H H') {b : Addr} (h : H b ≠ none) : H' b ≠ none := by
  cases q : H b with
  | none => exact absurd q h
  | some o => rw [s b o q]; intro e; cases e
theorem Ext.trans {G H G1 H1 G2 H2 : Hp} (a : Ext G H G1 H1) (b : Ext G1 H1 G2 H2) : Ext G H G2 H2 :=
  ⟨a.h.trans b.h, a.g.trans b.g, b.gh, fun c h1 h2 => b.nw c (a.nw c h1 h2) (Same.some_ne a.h h2)⟩
theorem same_new {H : Hp} {p : Addr} {o : HO} (h : H p = none) : Same H (upd H p o) := fun b x e => by
  rw [upd_ne (ne_of_none e h)]
  exact e
theorem same_both {G H : Hp} {p : Addr} {o : HO} (s : Same G H) : Same (upd G p o) (upd H p o) := fun b x e => by
  by_cases hb : b = p
  · subst hb; rw [upd_same] at e ⊢; exact e
  · rw [upd_ne hb] at e ⊢; exact s b x e
/-- a new object that no longer changes -/
theorem Ext.new {G H : Hp} {p : Addr} {o : HO} (s : Same G H) (h : H p = none) : Ext G H (upd G p o) (upd H p o) :=
  ⟨same_new h, same_new (s.free h), same_both s, fun b h1 h2 => by
    by_cases hb : b = p
    · subst hb; exact absurd h h2
    · rw [upd_ne hb]; exact h1⟩
/-- an object that may change still -/
theorem Ext.loose {G H G1 H1 : Hp} {p : Addr} {o : HO} (e : Ext G H G1 H1) (h : H p = none) (g : G1 p = none) : Ext G H G1 (upd H1 p o) :=
  ⟨fun b x q => by rw [upd_ne (ne_of_none q h)]; exact e.h b x q, e.g, fun b x q => by rw [upd_ne (ne_of_none q g)]; exact e.gh b x q, e.nw⟩
/-- it no longer changes from here on -/
theorem Ext.froze {G H G1 H1 : Hp} {p : Addr} {o : HO} (e : Ext G H G1 H1) (h : H p = none) (g : G1 p = none) (q : H1 p = some o) : Ext G H (upd G1 p o) H1 :=
  ⟨e.h, e.g.trans (same_new g), fun b x r => by
    by_cases hb : b = p
    · subst hb; rw [upd_same] at r; rw [q]; exact r
    · rw [upd_ne hb] at r; exact e.gh b x r, fun b h1 h2 => by
    by_cases hb : b = p
    · subst hb; exact absurd h h2
    · rw [upd_ne hb]; exact e.nw b h1 h2⟩

/-- from the frozen part as it stands now on -/
theorem Ext.re {G H G1 H1 : Hp} (e : Ext G H G1 H1) : Ext G1 H G1 H1 := ⟨e.h, Same.refl _, e.gh, fun _ h _ => h⟩
theorem Ext.join {G H G1 H1 G2 H2 : Hp} (a : Ext G H G1 H1) (b : Ext G1 H G2 H2) : Ext G H G2 H2 := ⟨b.h, a.g.trans b.g, b.gh, fun c h1 h2 => b.nw c (a.nw c h1 h2) h2⟩

/-! ### The abstract environment -/
inductive En where
  | no
  /-- a value that no longer changes -/
  | im (F : MP)
  /-- a list of this def's own that still changes, its items not -/
  | mu (Fs : List MP)
def SlE (H0 G H : Hp) : En → Option V → Prop
  | .no, _ => True
  | .im F, x => ∃ v, x = some v ∧ F.p G v
  | .mu Fs, x => ∃ o vs, x = some (.ref o) ∧ H0 o = none ∧ G o = none ∧ H o = some (.lst vs) ∧ PairG G vs Fs
theorem SlE.mono {H0 G H G' H' : Hp} (e : Ext G H G' H') : ∀ {c : En} {x : Option V}, SlE H0 G H c x → SlE H0 G' H' c x
  | .no, _, _ => trivial
  | .im F, _, ⟨v, a, b⟩ => ⟨v, a, F.m e.g b⟩
  | .mu Fs, _, ⟨o, vs, a, h0, b, c, d⟩ => ⟨o, vs, a, h0, e.nw o b (by rw [c]; intro z; cases z), e.h _ _ c, d.mono e.g⟩
structure Sta (G0 H0 : Hp) (C : List En) (G H : Hp) (s : L2.St) : Prop where
  ext : Ext G0 H0 G H
  len : s.length = C.length
  at_ : ∀ (i : Nat) (e : En), C[i]? = some e → ∃ x, s[i]? = some x ∧ SlE H0 G H e x
  apart : ∀ (i j : Nat) (Fs Es : List MP) (o : Addr), i ≠ j → C[i]? = some (.mu Fs) → C[j]? = some (.mu Es) → s[i]? = some (some (.ref o)) → s[j]? ≠ some (some (.ref o))
theorem Sta.re {G0 H0 G H : Hp} {C : List En} {s : L2.St} (S : Sta G0 H0 C G H s) : Sta G H0 C G H s := ⟨S.ext.re, S.len, S.at_, S.apart⟩
theorem Sta.join {G0 H0 G1 H1 G H : Hp} {C : List En} {s : L2.St} (S : Sta G1 H0 C G H s) (e : Ext G0 H0 G1 H1) : Sta G0 H0 C G H s := ⟨e.join S.ext, S.len, S.at_, S.apart⟩
theorem Sta.gh {G0 H0 G H : Hp} {C : List En} {s : L2.St} (S : Sta G0 H0 C G H s) : Same G H := S.ext.gh
theorem Sta.mono {G0 H0 G H G' H' : Hp} {C : List En} {s : L2.St} (S : Sta G0 H0 C G H s) (e : Ext G H G' H') : Sta G0 H0 C G' H' s :=
  ⟨S.ext.trans e, S.len, fun i c h => let ⟨x, a, b⟩ := S.at_ i c h; ⟨x, a, b.mono e⟩, S.apart⟩
theorem Sta.im {G0 H0 G H : Hp} {C : List En} {s : L2.St} (S : Sta G0 H0 C G H s) {i : Nat} {F : MP} (h : C[i]? = some (.im F)) : ∃ v, s[i]? = some (some v) ∧ F.p G v := by
  obtain ⟨x, a, v, e, q⟩ := S.at_ i _ h
  subst e
  exact ⟨v, a, q⟩
theorem Sta.mu {G0 H0 G H : Hp} {C : List En} {s : L2.St} (S : Sta G0 H0 C G H s) {i : Nat} {Fs : List MP} (h : C[i]? = some (.mu Fs)) : ∃ o vs, s[i]? = some (some (.ref o)) ∧ H0 o = none ∧ G o = none ∧ H o = some (.lst vs) ∧ PairG G vs Fs := by
  obtain ⟨x, a, o, vs, e, q⟩ := S.at_ i _ h
  subst e
  exact ⟨o, vs, a, q⟩
theorem set_get {α : Type} {l : List α} {i j : Nat} {x y : α} (h : (l.set i x)[j]? = some y) : (i = j ∧ y = x ∧ i < l.length) ∨ (i ≠ j ∧ l[j]? = some y) := by
  by_cases e : i = j
  · subst e
    rw [List.getElem?_set_self'] at h
    cases q : l[i]? with
    | none => rw [q] at h; simp at h
    | some z =>
      rw [q] at h
      have := (List.getElem?_eq_some_iff.mp q).1
      simp at h
      exact .inl ⟨rfl, h.symm, this⟩
  · rw [List.getElem?_set_ne e] at h
    exact .inr ⟨e, h⟩
theorem get_set_lt {α : Type} {l : List α} {i : Nat} {x : α} (h : i < l.length) : (l.set i x)[i]? = some x := by
  rw [List.getElem?_set_self h]
/-- a slot gets a value that no longer changes -/
theorem Sta.put {G0 H0 G H : Hp} {C : List En} {s : L2.St} (S : Sta G0 H0 C G H s) {i : Nat} {v : V} {F : MP} (h : F.p G v) : Sta G0 H0 (C.set i (.im F)) G H (s.set i (some v)) where
  ext := S.ext
  len := by rw [List.length_set, List.length_set]; exact S.len
  at_ := fun j e q => by
    rcases set_get q with ⟨rfl, rfl, hl⟩ | ⟨hn, q⟩
    · exact ⟨some v, get_set_lt (by rw [S.len]; exact hl), v, rfl, h⟩
    · obtain ⟨x, a, b⟩ := S.at_ j e q
      exact ⟨x, by rw [List.getElem?_set_ne hn]; exact a, b⟩
  apart := fun j k Fs Es o hjk h1 h2 h3 h4 => by
    rcases set_get h1 with ⟨_, z, _⟩ | ⟨n1, h1⟩
    · cases z
    rcases set_get h2 with ⟨_, z, _⟩ | ⟨n2, h2⟩
    · cases z
    rw [List.getElem?_set_ne n1] at h3
    rw [List.getElem?_set_ne n2] at h4
    exact S.apart j k Fs Es o hjk h1 h2 h3 h4
/-- a slot is forgotten -/
theorem Sta.forget {G0 H0 G H : Hp} {C : List En} {s : L2.St} (S : Sta G0 H0 C G H s) {i : Nat} (x : Option V) : Sta G0 H0 (C.set i .no) G H (s.set i x) where
  ext := S.ext
  len := by rw [List.length_set, List.length_set]; exact S.len
  at_ := fun j e q => by
    rcases set_get q with ⟨rfl, rfl, hl⟩ | ⟨hn, q⟩
    · exact ⟨x, get_set_lt (by rw [S.len]; exact hl), trivial⟩
    · obtain ⟨x, a, b⟩ := S.at_ j e q
      exact ⟨x, by rw [List.getElem?_set_ne hn]; exact a, b⟩
  apart := fun j k Fs Es o hjk h1 h2 h3 h4 => by
    rcases set_get h1 with ⟨_, z, _⟩ | ⟨n1, h1⟩
    · cases z
    rcases set_get h2 with ⟨_, z, _⟩ | ⟨n2, h2⟩
    · cases z
    rw [List.getElem?_set_ne n1] at h3
    rw [List.getElem?_set_ne n2] at h4
    exact S.apart j k Fs Es o hjk h1 h2 h3 h4
theorem wipe_set {s : L2.St} {j : Nat} {x : Option V} : ∀ {vs : List Nat}, j ∈ vs → wipe (s.set j x) vs = wipe s vs
  | v :: vs, h => by
    unfold wipe
    by_cases e : j ∈ vs
    · rw [wipe_set e]
    · have ev : j = v := by
        rcases List.mem_cons.mp h with h | h
        · exact h
        · exact absurd h e
      subst ev
      have c : ∀ {vs : List Nat} (s : L2.St), j ∉ vs → wipe (s.set j x) vs = (wipe s vs).set j x := by
        intro vs
        induction vs with
        | nil => intro s _; rfl
        | cons w ws ih =>
          intro s hn
          have n1 : j ≠ w := fun z => hn (by rw [z]; exact List.mem_cons_self)
          have n2 : j ∉ ws := fun z => hn (List.mem_cons_of_mem _ z)
          show (wipe (s.set j x) ws).set w none = ((wipe s ws).set w none).set j x
          rw [ih s n2, List.set_comm _ _ n1]
      rw [c s e, List.set_set]
theorem wipe_wipe {s : L2.St} {vs : List Nat} : ∀ {us : List Nat}, (∀ u ∈ us, u ∈ vs) → wipe (wipe s us) vs = wipe s vs
  | [], _ => rfl
  | u :: us, h => by
    show wipe ((wipe s us).set u none) vs = wipe s vs
    rw [wipe_set (h u List.mem_cons_self), wipe_wipe fun w hw => h w (List.mem_cons_of_mem _ hw)]
def wipeE (C : List En) : List Nat → List En
  | [] => C
  | v :: vs => (wipeE C vs).set v .no
theorem Sta.wipe {G0 H0 G H : Hp} {C : List En} {s : L2.St} (S : Sta G0 H0 C G H s) : ∀ vs : List Nat, Sta G0 H0 (wipeE C vs) G H (L2.wipe s vs)
  | [] => S
  | v :: vs => (S.wipe vs).forget none

/-! ### Expressions -/
def Ev (t : TE) (C : List En) (F : MP) : Prop := ∀ G0 H0 G H s, Sta G0 H0 C G H s → ∀ Q : VK, (∀ G' H' v, Ext G H G' H' → F.p G' v → Q v H') → t s H Q
def Et (t : TT) (C : List En) (b : Bool) : Prop := ∀ G0 H0 G H s, Sta G0 H0 C G H s → ∀ Q : Bool → Hp → Prop, (∀ G' H', Ext G H G' H' → Q b H') → t s H Q
def Ea (t : TA) (C : List En) (Fs : List MP) : Prop := ∀ G0 H0 G H s, Sta G0 H0 C G H s → ∀ Q : List V → Hp → Prop, (∀ G' H' vs, Ext G H G' H' → PairG G' vs Fs → Q vs H') → t s H Q
variable {C : List En} {F E : MP}
theorem Ev.le {t : TE} (h : Ev t C F) (l : F.le E) : Ev t C E := fun G0 H0 G H s S Q q => h G0 H0 G H s S Q fun G' H' v e p => q G' H' v e (l _ _ p)
theorem ev_var {i : Nat} (h : C[i]? = some (.im F)) : Ev (tVar i) C F := fun G0 H0 G H s S Q q => by
  obtain ⟨v, a, p⟩ := S.im h
  exact ⟨v, a, q G H v (Ext.refl S.gh) p⟩
theorem ev_c (x : V) : Ev (tC x) C (.v x) := fun G0 H0 G H s S Q q => q G H x (Ext.refl S.gh) rfl
/-- two operands, then an operation on values -/
theorem ev_op2 {r : R2} {ta tb : TE} {Fa Fb : MP} (ha : Ev ta C Fa) (hb : Ev tb C Fb)
    (h : ∀ (G H : Hp) (x y : V), Same G H → Fa.p G x → Fb.p G y → ∀ Q : VK, (∀ G' H' v, Ext G H G' H' → F.p G' v → Q v H') → r x y H Q) : Ev (tOp r ta tb) C F := fun G0 H0 G H s S Q q =>
  ha G0 H0 G H s S _ fun G1 H1 x e1 p1 => hb G0 H0 G1 H1 s (S.mono e1) _ fun G2 H2 y e2 p2 =>
    h G2 H2 x y e2.gh (Fa.m e2.g p1) p2 Q fun G3 H3 v e3 p3 => q G3 H3 v ((e1.trans e2).trans e3) p3
theorem ev_op1 {r : V → Hp → VK → Prop} {ta : TE} {Fa : MP} (ha : Ev ta C Fa)
    (h : ∀ (G H : Hp) (x : V), Same G H → Fa.p G x → ∀ Q : VK, (∀ G' H' v, Ext G H G' H' → F.p G' v → Q v H') → r x H Q) : Ev (tUn r ta) C F := fun G0 H0 G H s S Q q =>
  ha G0 H0 G H s S _ fun G1 H1 x e1 p1 => h G1 H1 x e1.gh p1 Q fun G3 H3 v e3 p3 => q G3 H3 v (e1.trans e3) p3
theorem ev_int0 {g : Int → Int → V} {ta tb : TE} {i j : Int} (ha : Ev ta C (.i i)) (hb : Ev tb C (.i j)) : Ev (tOp (rI0 g) ta tb) C (.v (g i j)) :=
  ev_op2 ha hb fun G H x y s p1 p2 Q q => ⟨i, j, p1, p2, q G H _ (Ext.refl s) rfl⟩
theorem ev_int {R : Int → Int → Prop} {g : Int → Int → V} {ta tb : TE} {i j : Int} (ha : Ev ta C (.i i)) (hb : Ev tb C (.i j)) (h : R i j) : Ev (tOp (rI R g) ta tb) C (.v (g i j)) :=
  ev_op2 ha hb fun G H x y s p1 p2 Q q => ⟨i, j, p1, p2, h, q G H _ (Ext.refl s) rfl⟩
theorem ev_un {g : Int → V} {ta : TE} {i : Int} (ha : Ev ta C (.i i)) : Ev (tUn (rU g) ta) C (.v (g i)) :=
  ev_op1 ha fun G H x s p1 Q q => ⟨i, p1, q G H _ (Ext.refl s) rfl⟩
theorem ev_eq {ta tb : TE} {x y : V} (ha : Ev ta C (.v x)) (hb : Ev tb C (.v y)) (h : scal x y = true) : Ev (tOp rEq ta tb) C (.b (decide (x = y))) :=
  ev_op2 ha hb fun G H u v s p1 p2 Q q => by
    obtain rfl : u = x := p1
    obtain rfl : v = y := p2
    exact ⟨h, q G H _ (Ext.refl s) rfl⟩
theorem ev_ne {ta tb : TE} {x y : V} (ha : Ev ta C (.v x)) (hb : Ev tb C (.v y)) (h : scal x y = true) : Ev (tOp rNe ta tb) C (.b (!decide (x = y))) :=
  ev_op2 ha hb fun G H u v s p1 p2 Q q => by
    obtain rfl : u = x := p1
    obtain rfl : v = y := p2
    exact ⟨h, q G H _ (Ext.refl s) rfl⟩
theorem ev_ix {K : PySem.W.Frag} {ta tb : TE} {Fs : List MP} {i : Int} (ha : Ev ta C (.sq K Fs)) (hb : Ev tb C (.i i)) (h : atI Fs i = some F) : Ev (tOp (rIxL K) ta tb) C F :=
  ev_op2 ha hb fun G H x y s p1 p2 Q q => by
    obtain ⟨a, vs, rfl, hs, hp⟩ := p1
    unfold atI at h
    cases hn : ixN Fs.length i with
    | none => rw [hn] at h; simp at h
    | some j =>
      rw [hn] at h
      obtain ⟨v, hv, pv⟩ := hp.get (show Fs[j]? = some F from h)
      refine ⟨a, vs, i, v, rfl, p2, s.seq hs, ?_, q G H v (Ext.refl s) pv⟩
      unfold atI
      rw [Paired.length hp, hn]
      exact hv
theorem atI_of {B : Type} {l : List B} {j : Nat} {x : B} {i : Int} (e : i = (j : Int)) (h : l[j]? = some x) : atI l i = some x := by
  subst e
  exact atI_nat h

/-! arguments -/
theorem ea_nil : Ea tNil C [] := fun G0 H0 G H s S Q q => q G H [] (Ext.refl S.gh) .nil
theorem ea_cons {te : TE} {tr : TA} {Fs : List MP} (h1 : Ev te C F) (h2 : Ea tr C Fs) : Ea (tCons te tr) C (F :: Fs) := fun G0 H0 G H s S Q q =>
  h1 G0 H0 G H s S _ fun G1 H1 x e1 p1 => h2 G0 H0 G1 H1 s (S.mono e1) _ fun G2 H2 xs e2 p2 => q G2 H2 (x :: xs) (e1.trans e2) (.cons (F.m e2.g p1) p2)
theorem Ea.le {t : TA} {Fs Es : List MP} (h : Ea t C Fs) (l : ∀ G vs, PairG G vs Fs → PairG G vs Es) : Ea t C Es := fun G0 H0 G H s S Q q => h G0 H0 G H s S Q fun G' H' v e p => q G' H' v e (l _ _ p)
/-- a built-in over values -/
theorem ev_cb {r : List V → Hp → VK → Prop} {t : TA} {Fs : List MP} (ha : Ea t C Fs)
    (h : ∀ (G H : Hp) (vs : List V), Same G H → PairG G vs Fs → ∀ Q : VK, (∀ G' H' v, Ext G H G' H' → F.p G' v → Q v H') → r vs H Q) : Ev (tCB r t) C F := fun G0 H0 G H s S Q q =>
  ha G0 H0 G H s S _ fun G1 H1 vs e1 p1 => h G1 H1 vs e1.gh p1 Q fun G3 H3 v e3 p3 => q G3 H3 v (e1.trans e3) p3
theorem pair1 {G : Hp} {vs : List V} (h : PairG G vs [F]) : ∃ v, vs = [v] ∧ F.p G v := by
  cases h with
  | cons a t => cases t; exact ⟨_, rfl, a⟩
theorem pair2 {G : Hp} {vs : List V} (h : PairG G vs [F, E]) : ∃ v w, vs = [v, w] ∧ F.p G v ∧ E.p G w := by
  cases h with
  | cons a t =>
    obtain ⟨w, rfl, b⟩ := pair1 t
    exact ⟨_, _, rfl, a, b⟩
def nums (ns : List Int) : List MP := ns.map MP.i
theorem pair_nums {G : Hp} : ∀ {ns : List Int} {vs : List V}, PairG G vs (nums ns) → vs = ns.map V.int
  | [], _, h => by cases h; rfl
  | n :: ns, _, h => by
    cases h with
    | cons a t => rw [pair_nums t]; rw [show _ = V.int n from a]; rfl
theorem nums_pair {G : Hp} : ∀ (ns : List Int), PairG G (ns.map V.int) (nums ns)
  | [] => .nil
  | n :: ns => .cons rfl (nums_pair ns)
theorem nums_length (ns : List Int) : (nums ns).length = ns.length := by unfold nums; rw [List.length_map]
theorem nums_get {ns : List Int} {i : Nat} {z : Int} (h : ns[i]? = some z) : (nums ns)[i]? = some (.i z) := by
  unfold nums; rw [List.getElem?_map, h]; rfl
/-- a list of nums, a list of such -/
abbrev MP.il (K : PySem.W.Frag) (ns : List Int) : MP := .sq K (nums ns)
abbrev MP.ill (K : PySem.W.Frag) (rs : List (List Int)) : MP := .sq K (rs.map (MP.il K))
theorem ev_sum {K : PySem.W.Frag} {t : TA} {ns : List Int} (h : Ea t C [.il K ns]) : Ev (tCB (rSum K) t) C (.i ns.sum) :=
  ev_cb h fun G H vs s p Q q => by
    obtain ⟨v, rfl, a, xs, rfl, hs, hp⟩ := pair1 p
    exact ⟨a, ns, rfl, by rw [← pair_nums hp]; exact s.seq hs, q G H _ (Ext.refl s) rfl⟩
abbrev rLenQ (K : PySem.W.Frag) : List V → Hp → VK → Prop := fun xs H Q => ∃ p ys, xs = [V.ref p] ∧ (SqL K H p ys ∨ SqT K H p ys) ∧ Q (.int ys.length) H
theorem ev_len {K : PySem.W.Frag} {t : TA} {Fs : List MP} (h : Ea t C [.sq K Fs]) : Ev (tCB (rLenQ K) t) C (.i Fs.length) :=
  ev_cb h fun G H vs s p Q q => by
    obtain ⟨v, rfl, a, xs, rfl, hs, hp⟩ := pair1 p
    exact ⟨a, xs, rfl, .inl (s.seq hs), q G H _ (Ext.refl s) (by rw [Paired.length hp]; rfl)⟩
theorem ev_abs {t : TA} {n : Int} (h : Ea t C [.i n]) : Ev (tCB (fun xs H Q => ∃ i, xs = [V.int i] ∧ Q (.int (if i < 0 then -i else i)) H) t) C (.i (if n < 0 then -n else n)) :=
  ev_cb h fun G H vs s p Q q => by
    obtain ⟨v, rfl, e⟩ := pair1 p
    exact ⟨n, by rw [show v = V.int n from e], q G H _ (Ext.refl s) rfl⟩
/-! displays, slices, joins -/
theorem ev_lst {t : TA} {Fs : List MP} (h : Ea t C Fs) (hl : Fs.length ≤ sizeLine) : Ev (tLst t) C (.lst Fs) := fun G0 H0 G H s S Q q =>
  h G0 H0 G H s S _ fun G1 H1 vs e1 p1 => ⟨by rw [Paired.length p1]; exact hl, fun p hp =>
    q (upd G1 p (.lst vs)) _ (.ref p) (e1.trans (Ext.new e1.gh hp)) ⟨p, vs, rfl, upd_same, p1.mono (same_new (e1.gh.free hp))⟩⟩
theorem ev_tup {t : TA} {Fs : List MP} (h : Ea t C Fs) (hl : Fs.length ≤ sizeLine) : Ev (tTup t) C (.tup Fs) := fun G0 H0 G H s S Q q =>
  h G0 H0 G H s S _ fun G1 H1 vs e1 p1 => ⟨by rw [Paired.length p1]; exact hl, fun p hp =>
    q (upd G1 p (.tup vs)) _ (.ref p) (e1.trans (Ext.new e1.gh hp)) ⟨p, vs, rfl, upd_same, p1.mono (same_new (e1.gh.free hp))⟩⟩
def Eo (t : TO) (C : List En) (o : Option Int) : Prop := ∀ G0 H0 G H s, Sta G0 H0 C G H s → ∀ Q : Option Int → Hp → Prop, (∀ G' H', Ext G H G' H' → Q o H') → t s H Q
theorem eo_none : Eo tNoPart C none := fun G0 H0 G H s S Q q => q G H (Ext.refl S.gh)
theorem eo_some {t : TE} {i : Int} (h : Ev t C (.i i)) : Eo (tPart t) C (some i) := fun G0 H0 G H s S Q q =>
  h G0 H0 G H s S _ fun G1 H1 x e1 p1 => ⟨i, p1, q G1 H1 e1⟩
def cutL {α : Type} (xs : List α) (lo hi : Option Int) : List α := (xs.drop (HT.sIx xs.length 0 lo)).take (HT.sIx xs.length xs.length hi - HT.sIx xs.length 0 lo)
theorem PairG.cut {G : Hp} {vs : List V} {Fs : List MP} (h : PairG G vs Fs) (lo hi : Option Int) : PairG G (cutV vs lo hi) (cutL Fs lo hi) := by
  unfold cutV cutL
  rw [Paired.length h]
  exact (h.drop _).take _
theorem ev_slice {K : PySem.W.Frag} {te : TE} {tl th : TO} {Fs : List MP} {lo hi : Option Int} (h : Ev te C (.sq K Fs)) (h1 : Eo tl C lo) (h2 : Eo th C hi) : Ev (tSl (rSlL K) te tl th) C (.lst (cutL Fs lo hi)) := fun G0 H0 G H s S Q q =>
  h G0 H0 G H s S _ fun G1 H1 x e1 p1 => h1 G0 H0 G1 H1 s (S.mono e1) _ fun G2 H2 e2 => h2 G0 H0 G2 H2 s (S.mono (e1.trans e2)) _ fun G3 H3 e3 => by
    obtain ⟨a, vs, rfl, hs, hp⟩ := p1
    have e : Ext G H G3 H3 := (e1.trans e2).trans e3
    refine ⟨a, vs, rfl, (e2.g.trans (e3.g.trans e3.gh)).seq hs, fun p hn => q (upd G3 p _) _ (.ref p) (e.trans (Ext.new e3.gh hn)) ⟨p, _, rfl, upd_same, ?_⟩⟩
    exact PairG.mono ((e2.g.trans e3.g).trans (same_new (e3.gh.free hn))) (hp.cut lo hi)
theorem ev_cat {ta tb : TE} {Fs Es : List MP} (ha : Ev ta C (.lst Fs)) (hb : Ev tb C (.lst Es)) (hl : Fs.length + Es.length ≤ sizeLine) : Ev (tOp rCat ta tb) C (.lst (Fs ++ Es)) :=
  ev_op2 ha hb fun G H x y s p1 p2 Q q => by
    obtain ⟨a, vs, rfl, hs, hp⟩ := p1
    obtain ⟨b, ws, rfl, hs2, hp2⟩ := p2
    refine ⟨a, b, vs, ws, rfl, rfl, s _ _ hs, s _ _ hs2, by rw [Paired.length hp, Paired.length hp2]; exact hl, fun p hn => q (upd G p _) _ (.ref p) (Ext.new s hn) ⟨p, _, rfl, upd_same, ?_⟩⟩
    exact (hp.append hp2).mono (same_new (s.free hn))
/-! truth -/
theorem et_test {t : TE} {b : Bool} (h : Ev t C (.b b)) : Et (tTest t) C b := fun G0 H0 G H s S Q q =>
  h G0 H0 G H s S _ fun G1 H1 x e1 p1 => ⟨b, p1, q G1 H1 e1⟩
theorem et_b {t : TE} {b : Bool} (h : Ev t C (.b b)) : Et (tB t) C b := fun G0 H0 G H s S Q q =>
  h G0 H0 G H s S _ fun G1 H1 x e1 p1 => ⟨b, p1, q G1 H1 e1⟩
theorem et_or {t u : TT} {a b : Bool} (h : Et t C a) (h2 : a = false → Et u C b) : Et (tOr t u) C (a || b) := fun G0 H0 G H s S Q q =>
  h G0 H0 G H s S _ fun G1 H1 e1 => by
    cases a with
    | true => exact iteT (q G1 H1 e1)
    | false => exact iteF (h2 rfl G0 H0 G1 H1 s (S.mono e1) Q fun G2 H2 e2 => q G2 H2 (e1.trans e2))
theorem et_and {t u : TT} {a b : Bool} (h : Et t C a) (h2 : a = true → Et u C b) : Et (tAnd t u) C (a && b) := fun G0 H0 G H s S Q q =>
  h G0 H0 G H s S _ fun G1 H1 e1 => by
    cases a with
    | false => exact iteF (q G1 H1 e1)
    | true => exact iteT (h2 rfl G0 H0 G1 H1 s (S.mono e1) Q fun G2 H2 e2 => q G2 H2 (e1.trans e2))
theorem et_not {t : TT} {a : Bool} (h : Et t C a) : Et (tNot t) C (!a) := fun G0 H0 G H s S Q q =>
  h G0 H0 G H s S _ fun G1 H1 e1 => q G1 H1 e1
theorem ev_andV {t u : TE} {a b : Bool} (h : Ev t C (.b a)) (h2 : a = true → Ev u C (.b b)) : Ev (tAndV t u) C (.b (a && b)) := fun G0 H0 G H s S Q q =>
  h G0 H0 G H s S _ fun G1 H1 x e1 p1 => ⟨a, p1, by
    cases a with
    | false => exact iteF (q G1 H1 _ e1 rfl)
    | true => exact iteT (h2 rfl G0 H0 G1 H1 s (S.mono e1) Q fun G2 H2 v e2 p2 => q G2 H2 v (e1.trans e2) p2)⟩
theorem ev_orV {t u : TE} {a b : Bool} (h : Ev t C (.b a)) (h2 : a = false → Ev u C (.b b)) : Ev (tOrV t u) C (.b (a || b)) := fun G0 H0 G H s S Q q =>
  h G0 H0 G H s S _ fun G1 H1 x e1 p1 => ⟨a, p1, by
    cases a with
    | true => exact iteT (q G1 H1 _ e1 rfl)
    | false => exact iteF (h2 rfl G0 H0 G1 H1 s (S.mono e1) Q fun G2 H2 v e2 p2 => q G2 H2 v (e1.trans e2) p2)⟩
theorem ev_if {c : TT} {t u : TE} {b : Bool} (h : Et c C b) (h1 : b = true → Ev t C F) (h2 : b = false → Ev u C F) : Ev (tIf c t u) C F := fun G0 H0 G H s S Q q =>
  h G0 H0 G H s S _ fun G1 H1 e1 => by
    cases b with
    | true => exact iteT (h1 rfl G0 H0 G1 H1 s (S.mono e1) Q fun G2 H2 v e2 p2 => q G2 H2 v (e1.trans e2) p2)
    | false => exact iteF (h2 rfl G0 H0 G1 H1 s (S.mono e1) Q fun G2 H2 v e2 p2 => q G2 H2 v (e1.trans e2) p2)

/-! ### Defs -/
/-- the promise of a def that changes nothing of what it is handed -/
def spF {A : Type} (pre : A → Prop) (args : A → List MP) (post : A → MP) : Sp := fun vs H Q _ => ∃ G c, pre c ∧ Same G H ∧ PairG G vs (args c) ∧ ∀ G' H' v, Ext G H G' H' → (post c).p G' v → Q v H'
theorem ev_call {A : Type} {pre : A → Prop} {args : A → List MP} {post : A → MP} {X : XK} {t : TA} (c : A) (h : Ea t C (args c)) (hp : pre c) : Ev (tCall (spF pre args post) [] X t) C (post c) := fun G0 H0 G H s S Q q =>
  h G0 H0 G H s S _ fun G1 H1 vs e1 p1 => by
    show spF pre args post (vs ++ []) H1 Q X
    rw [List.append_nil]
    exact ⟨G1, c, hp, e1.gh, p1, fun G' H' v e p => q G' H' v (e1.trans e) p⟩

/-! ### Statements -/
structure AE where
  nx : List En → Prop
  rt : MP → Prop
  bk : List En → Prop := fun _ => False
  ct : List En → Prop := fun _ => False
def Ex (t : TS) (C : List En) (A : AE) : Prop := ∀ G0 H0 G H s, Sta G0 H0 C G H s → ∀ D : Ends,
  (∀ C' G' H' s', A.nx C' → Sta G0 H0 C' G' H' s' → D.nx s' H') → (∀ C' G' H' s', A.bk C' → Sta G0 H0 C' G' H' s' → D.bk s' H') → (∀ C' G' H' s', A.ct C' → Sta G0 H0 C' G' H' s' → D.ct s' H') →
  (∀ F G' H' v, A.rt F → Ext G0 H0 G' H' → F.p G' v → D.rt v H') → t D s H
variable {A : AE}
theorem ex_next (h : A.nx C) : Ex tNext C A := fun G0 H0 G H s S D h1 _ _ _ => h1 C G H s h S
theorem ex_break (h : A.bk C) : Ex tBreak C A := fun G0 H0 G H s S D _ h2 _ _ => h2 C G H s h S
theorem ex_cont (h : A.ct C) : Ex tCont C A := fun G0 H0 G H s S D _ _ h3 _ => h3 C G H s h S
theorem ex_seq {t u : TS} (h : Ex t C { A with nx := fun C' => Ex u C' A }) : Ex (tSeq t u) C A := fun G0 H0 G H s S D h1 h2 h3 h4 =>
  h G0 H0 G H s S { D with nx := u D } (fun C' G' H' s' q S' => q G0 H0 G' H' s' S' D h1 h2 h3 h4) h2 h3 h4
theorem ex_ret {te : TE} (h : Ev te C F) (r : A.rt F) : Ex (tRet te) C A := fun G0 H0 G H s S D _ _ _ h4 =>
  h G0 H0 G H s S _ fun G1 H1 v e p => h4 F G1 H1 v r (S.ext.trans e) p
theorem ex_set {te : TE} {i : Nat} (h : Ev te C F) (n : A.nx (C.set i (.im F))) : Ex (tAsg te (gName i)) C A := fun G0 H0 G H s S D h1 _ _ _ =>
  h G0 H0 G H s S _ fun G1 H1 v e p => h1 _ G1 H1 _ n ((S.mono e).put p)
theorem ex_drop {te : TE} (h : Ev te C F) (n : A.nx C) : Ex (tDrop te) C A := fun G0 H0 G H s S D h1 _ _ _ =>
  h G0 H0 G H s S _ fun G1 H1 v e p => h1 _ G1 H1 _ n (S.mono e)
theorem ex_if {c : TT} {t u : TS} {b : Bool} (h : Et c C b) (h1 : b = true → Ex t C A) (h2 : b = false → Ex u C A) : Ex (tIfS c t u) C A := fun G0 H0 G H s S D a1 a2 a3 a4 =>
  h G0 H0 G H s S _ fun G1 H1 e1 => by
    cases b with
    | true => exact iteT (h1 rfl G0 H0 G1 H1 s (S.mono e1) D a1 a2 a3 a4)
    | false => exact iteF (h2 rfl G0 H0 G1 H1 s (S.mono e1) D a1 a2 a3 a4)
/-- a list of the def's own no longer changes from here on -/
theorem ex_froze {t : TS} {i : Nat} {Fs : List MP} (hi : C[i]? = some (.mu Fs)) (h : Ex t (C.set i (.im (.lst Fs))) A) : Ex t C A := fun G0 H0 G H s S D => by
  obtain ⟨o, vs, a, h0, g, hh, p⟩ := S.mu hi
  refine h G0 H0 (upd G o (.lst vs)) H s ?_ D
  have sg : Same G (upd G o (.lst vs)) := same_new g
  refine ⟨S.ext.froze h0 g hh, by rw [List.length_set]; exact S.len, fun j e q => ?_, fun j k Fs' Es' o' hjk q1 q2 q3 q4 => ?_⟩
  · rcases set_get q with ⟨rfl, rfl, hl⟩ | ⟨hn, q⟩
    · exact ⟨_, a, _, rfl, o, vs, rfl, upd_same, p.mono sg⟩
    · obtain ⟨x, b, c⟩ := S.at_ j e q
      refine ⟨x, b, ?_⟩
      cases e with
      | no => trivial
      | im F' =>
        obtain ⟨v, r1, r2⟩ := c
        exact ⟨v, r1, F'.m sg r2⟩
      | mu Fs' =>
        obtain ⟨o', ws, r1, r2, r3, r4, r5⟩ := c
        subst r1
        refine ⟨o', ws, rfl, r2, ?_, r4, r5.mono sg⟩
        rw [upd_ne (fun z => S.apart i j Fs Fs' o hn hi q a (by rw [← z]; exact b))]
        exact r3
  · rcases set_get q1 with ⟨_, z, _⟩ | ⟨n1, q1⟩
    · cases z
    rcases set_get q2 with ⟨_, z, _⟩ | ⟨n2, q2⟩
    · cases z
    exact S.apart j k Fs' Es' o' hjk q1 q2 q3 q4
/-- name = [..], a list that is to change -/
theorem ex_new {t : TA} {Fs : List MP} {i : Nat} (h : Ea t C Fs) (hl : Fs.length ≤ sizeLine) (n : A.nx (C.set i (.mu Fs))) : Ex (tAsg (tLst t) (gName i)) C A := fun G0 H0 G H s S D h1 _ _ _ =>
  h G0 H0 G H s S _ fun G1 H1 vs e p => ⟨by rw [Paired.length p]; exact hl, fun o ho => h1 _ G1 (upd H1 o (.lst vs)) _ n (by
    have S1 := S.mono e
    have g0 : H0 o = none := S1.ext.h.free ho
    have g1 : G1 o = none := e.gh.free ho
    refine ⟨S1.ext.loose g0 g1, by rw [List.length_set, List.length_set]; exact S1.len, fun j c q => ?_, fun j k Fs' Es' o' hjk q1 q2 q3 q4 => ?_⟩
    · rcases set_get q with ⟨rfl, rfl, hl⟩ | ⟨hn, q⟩
      · exact ⟨_, get_set_lt (by rw [S1.len]; exact hl), o, vs, rfl, g0, g1, upd_same, p⟩
      · obtain ⟨x, b, c'⟩ := S1.at_ j c q
        refine ⟨x, by rw [List.getElem?_set_ne hn]; exact b, ?_⟩
        cases c with
        | no => trivial
        | im F' => exact c'
        | mu Fs' =>
          obtain ⟨o', ws, r1, r2, r3, r4, r5⟩ := c'
          exact ⟨o', ws, r1, r2, r3, by rw [upd_ne (ne_of_none r4 ho)]; exact r4, r5⟩
    · rcases set_get q1 with ⟨rfl, z, hl⟩ | ⟨n1, q1⟩
      · rw [get_set_lt (by rw [S1.len]; exact hl)] at q3
        cases q3
        rcases set_get q2 with ⟨rfl, _, _⟩ | ⟨n2, q2⟩
        · exact hjk rfl
        rw [List.getElem?_set_ne n2] at q4
        obtain ⟨o2, ws, r1, _, _, r4, _⟩ := S1.mu q2
        rw [r1] at q4
        cases q4
        rw [ho] at r4
        cases r4
      · rw [List.getElem?_set_ne n1] at q3
        rcases set_get q2 with ⟨rfl, z, hl⟩ | ⟨n2, q2⟩
        · rw [get_set_lt (by rw [S1.len]; exact hl)] at q4
          cases q4
          obtain ⟨o2, ws, r1, _, _, r4, _⟩ := S1.mu q1
          rw [r1] at q3
          cases q3
          rw [ho] at r4
          cases r4
        · rw [List.getElem?_set_ne n2] at q4
          exact S1.apart j k Fs' Es' o' hjk q1 q2 q3 q4)⟩
/-- a change of a list of the def's own -/
theorem Sta.write {G0 H0 G H : Hp} {s : L2.St} (S : Sta G0 H0 C G H s) {i : Nat} {Fs Es : List MP} {o : Addr} {vs ws : List V} (hi : C[i]? = some (.mu Fs)) (a : s[i]? = some (some (.ref o))) (h0 : H0 o = none) (g : G o = none) (p : PairG G ws Es) : Sta G0 H0 (C.set i (.mu Es)) G (upd H o (.lst ws)) s := by
  refine ⟨S.ext.loose h0 g, by rw [List.length_set]; exact S.len, fun j c q => ?_, fun j k Fs' Es' o' hjk q1 q2 q3 q4 => ?_⟩
  · rcases set_get q with ⟨rfl, rfl, hl⟩ | ⟨hn, q⟩
    · exact ⟨_, a, o, ws, rfl, h0, g, upd_same, p⟩
    · obtain ⟨x, b, c'⟩ := S.at_ j c q
      refine ⟨x, b, ?_⟩
      cases c with
      | no => trivial
      | im F' => exact c'
      | mu Fs' =>
        obtain ⟨o', us, r1, r2, r3, r4, r5⟩ := c'
        subst r1
        refine ⟨o', us, rfl, r2, r3, ?_, r5⟩
        rw [upd_ne (fun z => S.apart i j Fs Fs' o hn hi q a (by rw [← z]; exact b))]
        exact r4
  · have h1 : ∃ Fs'', C[j]? = some (.mu Fs'') := by
      rcases set_get q1 with ⟨rfl, _, _⟩ | ⟨n1, q1⟩
      · exact ⟨_, hi⟩
      · exact ⟨_, q1⟩
    have h2 : ∃ Fs'', C[k]? = some (.mu Fs'') := by
      rcases set_get q2 with ⟨rfl, _, _⟩ | ⟨n1, q1⟩
      · exact ⟨_, hi⟩
      · exact ⟨_, q1⟩
    obtain ⟨_, h1⟩ := h1
    obtain ⟨_, h2⟩ := h2
    exact S.apart j k _ _ o' hjk h1 h2 q3 q4
theorem ex_append {K : PySem.W.Frag} {te : TE} {i : Nat} {Fs : List MP} (hi : C[i]? = some (.mu Fs)) (h : Ev te C F) (hl : Fs.length < sizeLine) (n : A.nx (C.set i (.mu (Fs ++ [F])))) : Ex (tDrop (tBM K "list" rAppend (tVar i) (tCons te tNil))) C A := fun G0 H0 G H s S D h1 _ _ _ => by
  obtain ⟨o, vs, a, h0, g, hh, p⟩ := S.mu hi
  refine ⟨_, a, .inl ⟨rfl, vs, SqL.of hh⟩, h G0 H0 G H s S _ fun G1 H1 x e p1 => ?_⟩
  have S1 := S.mono e
  obtain ⟨o', vs', a', h0', g', hh', p'⟩ := S1.mu hi
  rw [a] at a'
  cases a'
  refine ⟨o, vs', x, rfl, rfl, hh', by rw [Paired.length p']; exact hl, h1 _ G1 _ s n (S1.write (vs := vs') hi a h0 g' (p'.append (.cons p1 .nil)))⟩

/-! ### What is walked -/
def Itf (J : It) (G : Hp) (Fs : List MP) : Prop := ∀ G' H', Same G G' → Same G' H' → ∀ i, (∀ F, Fs[i]? = some F → J.go i H' ∧ ∀ x H'', J.yld i H' x H'' → ∃ G'', Ext G' H' G'' H'' ∧ F.p G'' x) ∧ (i = Fs.length → J.stop i H')
def Ei (wi : TI) (C : List En) (Fs : List MP) : Prop := ∀ G0 H0 G H s, Sta G0 H0 C G H s → ∀ R : It → Hp → Prop, (∀ G' H' J, Ext G H G' H' → Itf J G' Fs → R J H') → wi s H R
theorem ei_list {K : PySem.W.Frag} {tl : TE} {Fs : List MP} (h : Ev tl C (.sq K Fs)) : Ei (iList K tl) C Fs := fun G0 H0 G H s S R r =>
  h G0 H0 G H s S _ fun G1 H1 x e1 p1 => by
    obtain ⟨a, vs, rfl, hs, hp⟩ := p1
    refine ⟨a, rfl, ⟨vs, e1.gh.seq hs⟩, r G1 H1 _ e1 fun G' H' s1 s2 i => ⟨fun F hF => ?_, fun hi => ?_⟩⟩
    · obtain ⟨v, hv, pv⟩ := hp.get hF
      refine ⟨⟨vs, v, (s1.trans s2).seq hs, hv⟩, fun x H'' y => ?_⟩
      obtain ⟨rfl, y⟩ := y
      have e := y vs ((s1.trans s2).seq hs)
      rw [hv] at e
      cases e
      exact ⟨G', Ext.refl s2, F.m s1 pv⟩
    · exact ⟨vs, (s1.trans s2).seq hs, by rw [hi, Paired.length hp]; exact Nat.le_refl _⟩
theorem itf_range (lo : Int) (n : Nat) (G : Hp) : Itf (Itr lo n) G ((List.range n).map fun i => .i (lo + (i : Nat))) := fun G' H' s1 s2 i => ⟨fun F hF => by
    have hi : i < n := by
      have := (List.getElem?_eq_some_iff.mp hF).1
      simpa using this
    rw [List.getElem?_map, List.getElem?_range hi] at hF
    cases hF
    refine ⟨hi, fun x H'' y => ?_⟩
    obtain ⟨rfl, rfl⟩ := y
    exact ⟨G', Ext.refl s2, rfl⟩, fun h => by
    subst h
    show n ≤ _
    simp⟩
theorem ei_range1 {ta : TA} {j : Int} (h : Ea ta C [.i j]) (h1 : -(2 ^ 62) ≤ j) (h2 : j < 2 ^ 62) : Ei (iRng1 ta) C ((List.range j.toNat).map fun i => .i (i : Nat)) := fun G0 H0 G H s S R r =>
  h G0 H0 G H s S _ fun G1 H1 vs e1 p1 => by
    obtain ⟨v, rfl, e⟩ := pair1 p1
    refine ⟨j, by rw [show v = V.int j from e], h1, h2, r G1 H1 _ e1 ?_⟩
    have q := itf_range 0 j.toNat G1
    simp only [Int.zero_add] at q
    exact q
theorem ei_range2 {ta : TA} {i j : Int} (h : Ea ta C [.i i, .i j]) (h1 : -(2 ^ 62) ≤ i ∧ i < 2 ^ 62 ∧ -(2 ^ 62) ≤ j ∧ j < 2 ^ 62) : Ei (iRng2 ta) C ((List.range (j - i).toNat).map fun k => .i (i + (k : Nat))) := fun G0 H0 G H s S R r =>
  h G0 H0 G H s S _ fun G1 H1 vs e1 p1 => by
    obtain ⟨v, w, rfl, e, e'⟩ := pair2 p1
    exact ⟨i, j, by rw [show v = V.int i from e, show w = V.int j from e'], h1, r G1 H1 _ e1 (itf_range i _ G1)⟩
theorem zip_get {α β : Type} {xs : List α} {ys : List β} {i : Nat} {x : α} {y : β} (h1 : xs[i]? = some x) (h2 : ys[i]? = some y) : (List.zip xs ys)[i]? = some (x, y) := by
  rw [List.getElem?_zip_eq_some]
  exact ⟨h1, h2⟩
theorem ei_zip {K : PySem.W.Frag} {ta : TA} {Fs Es : List MP} (h : Ea ta C [.sq K Fs, .sq K Es]) : Ei (iZip K ta) C (List.zipWith (fun F E => MP.tup [F, E]) Fs Es) := fun G0 H0 G H s S R r =>
  h G0 H0 G H s S _ fun G1 H1 vs e1 p1 => by
    obtain ⟨v, w, rfl, ⟨a, xs, rfl, hx, px⟩, ⟨b, ys, rfl, hy, py⟩⟩ := pair2 p1
    refine ⟨a, b, xs, ys, rfl, e1.gh.seq hx, e1.gh.seq hy, r G1 H1 _ e1 fun G' H' s1 s2 i => ⟨fun F hF => ?_, fun hi => ?_⟩⟩
    · rw [List.getElem?_zipWith] at hF
      cases q1 : Fs[i]? with
      | none => rw [q1] at hF; simp at hF
      | some F1 =>
        cases q2 : Es[i]? with
        | none => rw [q1, q2] at hF; simp at hF
        | some F2 =>
          rw [q1, q2] at hF
          cases hF
          obtain ⟨x, vx, hx1⟩ := px.get q1
          obtain ⟨y, vy, hy1⟩ := py.get q2
          refine ⟨⟨xs, ys, x, y, (s1.trans s2).seq hx, (s1.trans s2).seq hy, vx, vy⟩, fun z H'' yl => ?_⟩
          obtain ⟨T, x', y', rfl, hT, rfl, f1, f2⟩ := yl
          have ex := f1 xs ((s1.trans s2).seq hx)
          have ey := f2 ys ((s1.trans s2).seq hy)
          rw [vx] at ex
          rw [vy] at ey
          cases ex
          cases ey
          refine ⟨upd G' T (.tup [x, y]), Ext.new s2 hT, T, [x, y], rfl, upd_same, .cons ?_ (.cons ?_ .nil)⟩
          · exact F1.m (s1.trans (same_new (s2.free hT))) hx1
          · exact F2.m (s1.trans (same_new (s2.free hT))) hy1
    · refine ⟨xs, ys, (s1.trans s2).seq hx, (s1.trans s2).seq hy, ?_⟩
      rw [List.length_zipWith] at hi
      rw [Paired.length px, Paired.length py, hi]
      omega
/-- a target gets a value; js: the slots that it changes -/
def Eg (g : TG) (F : MP) (js : List Nat) (C C' : List En) : Prop := ∀ G0 H0 G H s v, Sta G0 H0 C G H s → F.p G v → ∀ Q : L2.St → Hp → Prop, (∀ s', Sta G0 H0 C' G H s' → (∀ vs : List Nat, (∀ j ∈ js, j ∈ vs) → wipe s' vs = wipe s vs) → Q s' H) → g v s H Q
theorem eg_name {i : Nat} : Eg (gName i) F [i] C (C.set i (.im F)) := fun G0 H0 G H s v S p Q q =>
  q _ (S.put p) fun vs h => wipe_set (h i List.mem_cons_self)
theorem eg_tup2 {K : PySem.W.Frag} {i j : Nat} : Eg (gTup K 2 (gCons (gName i) (gCons (gName j) gNil))) (.tup [F, E]) [i, j] C ((C.set i (.im F)).set j (.im E)) := fun G0 H0 G H s v S p Q q => by
  obtain ⟨a, vs, rfl, hs, hp⟩ := p
  obtain ⟨x, y, rfl, p1, p2⟩ := pair2 hp
  refine ⟨a, [x, y], rfl, .inl (.inl (S.gh _ _ hs)), rfl, x, [y], rfl, y, [], rfl, rfl, q _ ((S.put p1).put p2) fun vs h => ?_⟩
  rw [wipe_set (h j (by simp)), wipe_set (h i (by simp))]
theorem eg_tup3 {K : PySem.W.Frag} {F3 : MP} {i j k : Nat} : Eg (gTup K 3 (gCons (gName i) (gCons (gName j) (gCons (gName k) gNil)))) (.tup [F, E, F3]) [i, j, k] C (((C.set i (.im F)).set j (.im E)).set k (.im F3)) := fun G0 H0 G H s v S p Q q => by
  obtain ⟨a, vs, rfl, hs, hp⟩ := p
  cases hp with
  | cons p1 t =>
    rename_i x l
    obtain ⟨y, z, rfl, p2, p3⟩ := pair2 t
    refine ⟨a, [x, y, z], rfl, .inl (.inl (S.gh _ _ hs)), rfl, x, [y, z], rfl, y, [z], rfl, z, [], rfl, rfl, q _ (((S.put p1).put p2).put p3) fun vs h => ?_⟩
    rw [wipe_set (h k (by simp)), wipe_set (h j (by simp)), wipe_set (h i (by simp))]
/-- for: I holds of the environment ahead of the i-th turn -/
theorem ex_for {wi : TI} {g : TG} {tb : TS} {Fs : List MP} (I : Nat → List En → Prop) (hi : Ei wi C Fs) (h0 : I 0 C)
    (hs : ∀ (i : Nat) (F : MP) (C' : List En), Fs[i]? = some F → I i C' → ∃ js C'', Eg g F js C' C'' ∧ Ex tb C'' { nx := I (i + 1), ct := I (i + 1), bk := A.nx, rt := A.rt })
    (hd : ∀ C', I Fs.length C' → A.nx C') : Ex (tFor wi g tb) C A := fun G0 H0 G H s S D h1 h2 h3 h4 =>
  hi G0 H0 G H s S _ fun G1 H1 J e1 it => by
    refine ⟨fun i m s' H' => m = Fs.length - i ∧ i ≤ Fs.length ∧ ∃ C' G', I i C' ∧ Same G1 G' ∧ Sta G0 H0 C' G' H' s', ⟨Fs.length, by simp, Nat.zero_le _, C, G1, h0, Same.refl _, S.mono e1⟩, ?_⟩
    rintro i m s' H' ⟨rfl, hle, C', G', hI, sg, S'⟩
    obtain ⟨a, b⟩ := it G' H' sg S'.gh i
    by_cases hlt : i < Fs.length
    · obtain ⟨go, yl⟩ := a Fs[i] (List.getElem?_eq_getElem hlt)
      refine .inr ⟨go, fun s'' H'' => ∃ C'' G'', I (i + 1) C'' ∧ Same G1 G'' ∧ Sta G0 H0 C'' G'' H'' s'', fun s'' H'' ⟨C'', G'', q1, q2, q3⟩ => ⟨_, by omega, rfl, hlt, C'', G'', q1, q2, q3⟩, fun x H'' y => ?_⟩
      obtain ⟨G'', e'', px⟩ := yl x H'' y
      obtain ⟨js, C2, eg, ex⟩ := hs i Fs[i] C' (List.getElem?_eq_getElem hlt) hI
      refine eg G0 H0 G'' H'' s' x (S'.mono e'') px _ fun s2 S2 _ => ?_
      have sg2 : Same G1 G'' := sg.trans e''.g
      -- the frozen part only grows: the body's states lie over G2
      have e0 := S2.ext
      refine ex G'' H0 G'' H'' s2 S2.re _ (fun C3 G3 H3 s3 q S3 => ?_) (fun C3 G3 H3 s3 q S3 => ?_) (fun C3 G3 H3 s3 q S3 => ?_) (fun F3 G3 H3 v q e3 p3 => ?_)
      · exact ⟨C3, G3, q, sg2.trans S3.ext.g, S3.join e0⟩
      · exact h1 C3 G3 H3 s3 q (S3.join e0)
      · exact ⟨C3, G3, q, sg2.trans S3.ext.g, S3.join e0⟩
      · exact h4 F3 G3 H3 v q (e0.join e3) p3
    · have e : i = Fs.length := by omega
      exact .inl ⟨b e, h1 C' G' H' s' (hd C' (by rw [← e]; exact hI)) S'⟩
/-! ### Comprehensions -/
/-- the items that are kept -/
def kept (bs : Nat → Bool) (Es : Nat → MP) (n : Nat) : List MP := ((List.range n).filter bs).map Es
theorem kept_succ (bs : Nat → Bool) (Es : Nat → MP) (n : Nat) : kept bs Es (n + 1) = kept bs Es n ++ (if bs n = true then [Es n] else []) := by
  unfold kept
  rw [List.range_succ, List.filter_append, List.map_append]
  by_cases h : bs n = true
  · rw [if_pos h]; simp [h]
  · rw [if_neg h]; simp [h]
theorem kept_length (bs : Nat → Bool) (Es : Nat → MP) (n : Nat) : (kept bs Es n).length ≤ n := by
  unfold kept
  rw [List.length_map]
  exact Nat.le_trans (List.length_filter_le _ _) (by simp)
theorem ev_lc_if {wi : TI} {g : TG} {tt : TT} {te : TE} {vs : List Nat} {Fs : List MP} (bs : Nat → Bool) (Es : Nat → MP) (hi : Ei wi C Fs) (hl : Fs.length ≤ sizeLine)
    (hs : ∀ (i : Nat) (F : MP), Fs[i]? = some F → ∃ js C', Eg g F js (wipeE C vs) C' ∧ (∀ j ∈ js, j ∈ vs) ∧ Et tt C' (bs i) ∧ (bs i = true → Ev te C' (Es i))) : Ev (tLc wi g tt te vs) C (.lst (kept bs Es Fs.length)) := fun G0 H0 G H s S Q q =>
  hi G0 H0 G H s S _ fun G1 H1 J e1 it => fun D hD => by
    refine ⟨fun i m H' => m = Fs.length - i ∧ i ≤ Fs.length ∧ ∃ G' acc, Ext G1 H1 G' H' ∧ G' D = none ∧ H' D = some (.lst acc) ∧ PairG G' acc (kept bs Es i), ⟨Fs.length, by simp, Nat.zero_le _, G1, [], (Ext.refl e1.gh).loose hD (e1.gh.free hD), e1.gh.free hD, upd_same, .nil⟩, ?_⟩
    rintro i m H' ⟨rfl, hle, G', acc, e', gD, hD', hp⟩
    obtain ⟨a, b⟩ := it G' H' e'.g e'.gh i
    by_cases hlt : i < Fs.length
    · obtain ⟨go, yl⟩ := a Fs[i] (List.getElem?_eq_getElem hlt)
      refine .inr ⟨go, fun H'' => ∃ G'' acc, Ext G1 H1 G'' H'' ∧ G'' D = none ∧ H'' D = some (.lst acc) ∧ PairG G'' acc (kept bs Es (i + 1)), fun H'' q => ⟨_, by omega, rfl, hlt, q⟩, fun x H'' y => ?_⟩
      obtain ⟨G2, e2, px⟩ := yl x H'' y
      obtain ⟨js, C2, eg, hj, hb, he⟩ := hs i Fs[i] (List.getElem?_eq_getElem hlt)
      have S2 : Sta G0 H0 C G2 H'' s := S.mono (e1.trans (e'.trans e2 |>.trans (Ext.refl e2.gh)) |> fun z => z)
      refine eg G0 H0 G2 H'' _ x (S2.wipe vs) px _ fun s2 S3 hw => ⟨?_, ?_⟩
      · rw [hw vs hj, wipe_wipe fun _ h => h]
      refine hb G0 H0 G2 H'' s2 S3 _ fun G3 H3 e3 => ?_
      have nz : H' D ≠ none := by rw [hD']; intro z; cases z
      have e23 : Ext G' H' G3 H3 := e2.trans e3
      have ks := kept_succ bs Es i
      cases hbi : bs i with
      | false =>
        refine iteF ⟨G3, acc, e'.trans e23, e23.nw D gD nz, e23.h _ _ hD', ?_⟩
        rw [ks, hbi, if_neg Bool.false_ne_true, List.append_nil]
        exact hp.mono e23.g
      | true =>
        refine iteT (he hbi G0 H0 G3 H3 s2 (S3.mono e3) _ fun G4 H4 v e4 pv => ?_)
        have e24 : Ext G' H' G4 H4 := e23.trans e4
        have g4 := e24.nw D gD nz
        refine ⟨acc, e24.h _ _ hD', ?_, G4, acc ++ [v], (e'.trans e24).loose hD g4, g4, upd_same, ?_⟩
        · rw [Paired.length hp]
          exact Nat.lt_of_le_of_lt (kept_length bs Es i) (Nat.lt_of_lt_of_le hlt hl)
        · rw [ks, hbi, if_pos rfl]
          exact (hp.mono e24.g).append (.cons pv .nil)
    · have e : i = Fs.length := by omega
      subst e
      exact .inl ⟨b rfl, q (upd G' D (.lst acc)) H' (.ref D) (e1.trans (e'.froze hD gD hD')) ⟨D, acc, rfl, upd_same, hp.mono (same_new gD)⟩⟩
theorem kept_all (Es : Nat → MP) (n : Nat) : kept (fun _ => true) Es n = (List.range n).map Es := by
  unfold kept
  rw [List.filter_eq_self.mpr (fun _ _ => rfl)]
theorem et_yes : Et tYes C true := fun G0 H0 G H s S Q q => q G H (Ext.refl S.gh)
theorem ev_lc {wi : TI} {g : TG} {te : TE} {vs : List Nat} {Fs : List MP} (Es : Nat → MP) (hi : Ei wi C Fs) (hl : Fs.length ≤ sizeLine)
    (hs : ∀ (i : Nat) (F : MP), Fs[i]? = some F → ∃ js C', Eg g F js (wipeE C vs) C' ∧ (∀ j ∈ js, j ∈ vs) ∧ Ev te C' (Es i)) : Ev (tLc wi g tYes te vs) C (.lst ((List.range Fs.length).map Es)) := by
  have h := ev_lc_if (fun _ => true) Es hi hl (tt := tYes) (te := te) (g := g) (vs := vs) fun i F hF => by
    obtain ⟨js, C', a, b, c⟩ := hs i F hF
    exact ⟨js, C', a, b, et_yes, fun _ => c⟩
  rw [kept_all] at h
  exact h

/-! ### A def's body -/
def envOf (Fs : List MP) (n : Nat) : List En := Fs.map En.im ++ List.replicate (n - Fs.length) .no
theorem sta_start {G H : Hp} {N : List Str} {vs : List V} {Fs : List MP} (s : Same G H) (p : PairG G vs Fs) : Sta G H (envOf Fs N.length) G H (L2.start N vs) where
  ext := Ext.refl s
  len := by unfold L2.start envOf; simp only [List.length_append, List.length_map, List.length_replicate]; rw [Paired.length p]
  at_ := fun i e h => by
    unfold envOf at h
    unfold L2.start
    have l := Paired.length p
    by_cases hi : i < Fs.length
    · rw [List.getElem?_append_left (by simpa using hi), List.getElem?_map, List.getElem?_eq_getElem hi] at h
      cases h
      obtain ⟨v, hv, pv⟩ := p.get (List.getElem?_eq_getElem hi)
      refine ⟨some v, ?_, v, rfl, pv⟩
      rw [List.getElem?_append_left (by rw [List.length_map, l]; exact hi), List.getElem?_map, hv]
      rfl
    · rw [List.getElem?_append_right (by simpa using hi)] at h
      obtain ⟨hlt, e'⟩ := List.getElem?_eq_some_iff.mp h
      rw [List.getElem_replicate] at e'
      subst e'
      rw [List.length_replicate, List.length_map] at hlt
      refine ⟨none, ?_, trivial⟩
      rw [List.getElem?_append_right (by rw [List.length_map, l]; omega), List.length_map, List.getElem?_replicate, if_pos (by rw [l]; omega)]
  apart := fun i j Fs' Es' o _ h => by
    have := List.mem_of_getElem? h
    unfold envOf at this
    rcases List.mem_append.mp this with h | h
    · obtain ⟨_, _, e⟩ := List.mem_map.mp h
      cases e
    · have := List.eq_of_mem_replicate h
      cases this
/-- the body's reading, from the promise -/
theorem spF_body {B : Type} {pre : B → Prop} {args : B → List MP} {post : B → MP} {vs : List V} {H : Hp} {Q : VK} {X : XK} {N : List Str} {t : TS} (h : spF pre args post vs H Q X)
    (hb : ∀ c, pre c → Ex t (envOf (args c) N.length) { nx := fun _ => (post c).p = (MP.v .non).p, rt := fun F => F.le (post c) }) : t { nx := fun _ H' => Q .non H', rt := Q } (L2.start N vs) H := by
  obtain ⟨G, c, hc, s, p, q⟩ := h
  refine hb c hc G H G H _ (sta_start s p) _ (fun C' G' H' s' e S' => q G' H' _ S'.ext (by rw [e]; rfl)) (fun _ _ _ _ z => z.elim) (fun _ _ _ _ z => z.elim) (fun F G' H' v l e p' => q G' H' v e (l _ _ p'))
theorem spF_len {B : Type} {pre : B → Prop} {args : B → List MP} {post : B → MP} {n : Nat} (hn : ∀ c, (args c).length = n) (vs : List V) (H : Hp) (Q : VK) (X : XK) (h : spF pre args post vs H Q X) : vs.length = n := by
  obtain ⟨G, c, hc, s, p, q⟩ := h
  rw [Paired.length p, hn]
/-! ### The same over data -/
theorem range_map_get {B : Type} (xs : List B) (Em : B → MP) (d : MP) : (List.range xs.length).map (fun i => (xs[i]?.map Em).getD d) = xs.map Em := by
  refine List.ext_getElem? fun i => ?_
  rw [List.getElem?_map, List.getElem?_map]
  by_cases h : i < xs.length
  · rw [List.getElem?_range h, List.getElem?_eq_getElem h]
    show some ((xs[i]?.map Em).getD d) = some (Em xs[i])
    rw [List.getElem?_eq_getElem h]
    rfl
  · rw [List.getElem?_eq_none (by simpa using h), List.getElem?_eq_none (by simpa using h)]
    rfl
theorem ev_lc_map {B : Type} {wi : TI} {g : TG} {te : TE} {vs : List Nat} (xs : List B) (f Em : B → MP) (hi : Ei wi C (xs.map f)) (hl : xs.length ≤ sizeLine)
    (hs : ∀ x ∈ xs, ∃ js C', Eg g (f x) js (wipeE C vs) C' ∧ (∀ j ∈ js, j ∈ vs) ∧ Ev te C' (Em x)) : Ev (tLc wi g tYes te vs) C (.lst (xs.map Em)) := by
  have h := ev_lc (fun i => (xs[i]?.map Em).getD (.v .non)) hi (by rw [List.length_map]; exact hl) (te := te) (g := g) (vs := vs) fun i F hF => by
    rw [List.getElem?_map] at hF
    cases q : xs[i]? with
    | none => rw [q] at hF; simp at hF
    | some x =>
      rw [q] at hF
      cases hF
      exact hs x (List.mem_of_getElem? q)
  rw [List.length_map, range_map_get] at h
  exact h
theorem ev_lc_filter {B : Type} {wi : TI} {g : TG} {tt : TT} {te : TE} {vs : List Nat} (xs : List B) (f Em : B → MP) (p : B → Bool) (hi : Ei wi C (xs.map f)) (hl : xs.length ≤ sizeLine)
    (hs : ∀ x ∈ xs, ∃ js C', Eg g (f x) js (wipeE C vs) C' ∧ (∀ j ∈ js, j ∈ vs) ∧ Et tt C' (p x) ∧ (p x = true → Ev te C' (Em x))) : Ev (tLc wi g tt te vs) C (.lst ((xs.filter p).map Em)) := by
  have h := ev_lc_if (fun i => (xs[i]?.map p).getD false) (fun i => (xs[i]?.map Em).getD (.v .non)) hi (by rw [List.length_map]; exact hl) (tt := tt) (te := te) (g := g) (vs := vs) fun i F hF => by
    rw [List.getElem?_map] at hF
    cases q : xs[i]? with
    | none => rw [q] at hF; simp at hF
    | some x =>
      rw [q] at hF
      cases hF
      exact hs x (List.mem_of_getElem? q)
  rw [List.length_map] at h
  have e : ∀ n, n ≤ xs.length → kept (fun i => (xs[i]?.map p).getD false) (fun i => (xs[i]?.map Em).getD (.v .non)) n = ((xs.take n).filter p).map Em := by
    intro n
    induction n with
    | zero => intro _; rfl
    | succ n ih =>
      intro hn
      rw [kept_succ, ih (by omega), List.take_add_one, List.getElem?_eq_getElem (show n < xs.length by omega), List.filter_append, List.map_append]
      congr 1
      simp only [Option.map_some, Option.getD_some, Option.toList_some]
      by_cases hp : p xs[n] = true
      · rw [if_pos hp]; simp [hp]
      · rw [if_neg hp]; simp [hp]
  rw [e _ (Nat.le_refl _), List.take_length] at h
  exact h
theorem ex_for_map {B : Type} {wi : TI} {g : TG} {tb : TS} (xs : List B) (f : B → MP) (I : Nat → List En → Prop) (hi : Ei wi C (xs.map f)) (h0 : I 0 C)
    (hs : ∀ (i : Nat) (x : B) (C' : List En), xs[i]? = some x → I i C' → ∃ js C'', Eg g (f x) js C' C'' ∧ Ex tb C'' { nx := I (i + 1), ct := I (i + 1), bk := A.nx, rt := A.rt })
    (hd : ∀ C', I xs.length C' → A.nx C') : Ex (tFor wi g tb) C A :=
  ex_for I hi h0 (fun i F C' hF hI => by
    rw [List.getElem?_map] at hF
    cases q : xs[i]? with
    | none => rw [q] at hF; simp at hF
    | some x =>
      rw [q] at hF
      cases hF
      exact hs i x C' q hI) fun C' h => hd C' (by rw [List.length_map] at h; exact h)
theorem Ei.of_eq {wi : TI} {Fs Es : List MP} (h : Ei wi C Fs) (e : Fs = Es) : Ei wi C Es := e ▸ h
theorem Ev.of_eq {t : TE} (h : Ev t C F) (e : F = E) : Ev t C E := e ▸ h
theorem Ev.sq {K : PySem.W.Frag} {t : TE} {Fs : List MP} (h : Ev t C (.lst Fs)) : Ev t C (.sq K Fs) := h.le MP.le_sq
theorem pair_le {G : Hp} {B : Type} {f g : B → MP} (h : ∀ x, (f x).le (g x)) : ∀ {xs : List B} {vs : List V}, PairG G vs (xs.map f) → PairG G vs (xs.map g)
  | [], _, .nil => .nil
  | x :: xs, _, .cons a t => .cons (h x _ _ a) (pair_le h t)
theorem MP.le_lst_map {B : Type} {f g : B → MP} (h : ∀ x, (f x).le (g x)) (xs : List B) : (MP.lst (xs.map f)).le (.lst (xs.map g)) := fun _ _ ⟨a, vs, e, q, r⟩ => ⟨a, vs, e, q, pair_le h r⟩
theorem MP.le_sq_map {K : PySem.W.Frag} {B : Type} {f g : B → MP} (h : ∀ x, (f x).le (g x)) (xs : List B) : (MP.sq K (xs.map f)).le (.sq K (xs.map g)) := fun _ _ ⟨a, vs, e, q, r⟩ => ⟨a, vs, e, q, pair_le h r⟩
theorem MP.le.trans {F E E2 : MP} (a : F.le E) (b : E.le E2) : F.le E2 := fun G v h => b G v (a G v h)
theorem cutL_map {B D : Type} (f : B → D) (xs : List B) (lo hi : Option Int) : cutL (xs.map f) lo hi = (cutL xs lo hi).map f := by
  unfold cutL
  rw [List.length_map, List.map_take, List.map_drop]
/-- rows that were made here: a list of lists of ints -/
abbrev MP.row (ns : List Int) : MP := .lst (nums ns)
abbrev MP.rows (rs : List (List Int)) : MP := .lst (rs.map MP.row)
theorem MP.rows_ill {K : PySem.W.Frag} (rs : List (List Int)) : (MP.rows rs).le (.ill K rs) := (MP.le_lst_map (fun _ => MP.le_sq) rs).trans MP.le_sq
end Py

set_option linter.all false
/-! # Plain lists and numbers: rows, minors, bounds of a determinant -/
namespace Mx
abbrev Row := List Int
abbrev Rows := List Row

/-! ### sums -/
theorem sum_abs {b : Nat} : ∀ {l : List Int}, (∀ x ∈ l, x.natAbs < 2 ^ b) → l.sum.natAbs ≤ l.length * 2 ^ b
  | [], _ => by simp
  | x :: l, h => by
    have h1 := h x List.mem_cons_self
    have h2 := sum_abs (l := l) fun y hy => h y (List.mem_cons_of_mem _ hy)
    rw [List.sum_cons, List.length_cons, Nat.add_mul, Nat.one_mul]
    omega
theorem sum_abs8 {b : Nat} {l : List Int} (h : ∀ x ∈ l, x.natAbs < 2 ^ b) (hl : l.length ≤ 7) : l.sum.natAbs < 2 ^ (b + 3) := by
  have h1 := sum_abs h
  have h2 : l.length * 2 ^ b ≤ 7 * 2 ^ b := Nat.mul_le_mul_right _ hl
  have h3 : 0 < 2 ^ b := Nat.two_pow_pos b
  rw [Nat.pow_add]
  omega
theorem mul_abs {x y : Int} {a b : Nat} (h1 : x.natAbs < 2 ^ a) (h2 : y.natAbs < 2 ^ b) : (x * y).natAbs < 2 ^ (a + b) := by
  rw [Int.natAbs_mul, Nat.pow_add]
  exact Nat.mul_lt_mul'' h1 h2
theorem abs_mono {x : Int} {a b : Nat} (h : x.natAbs < 2 ^ a) (hab : a ≤ b) : x.natAbs < 2 ^ b := Nat.lt_of_lt_of_le h (Nat.pow_le_pow_right (by decide) hab)

/-! ### rows -/
def BigR (a : Nat) (r : Row) : Prop := ∀ x ∈ r, x.natAbs < 2 ^ a
def Big (a : Nat) (rs : Rows) : Prop := ∀ r ∈ rs, BigR a r
structure Sqr (m : Nat) (rs : Rows) : Prop where
  len : rs.length = m
  wide : ∀ r ∈ rs, r.length = m
def minor (rs : Rows) (p q : Nat) : Rows := (rs.eraseIdx p).map fun r => r.eraseIdx q
theorem minor_sqr {m : Nat} {rs : Rows} (h : Sqr (m + 1) rs) {p q : Nat} (hp : p < m + 1) (hq : q < m + 1) : Sqr m (minor rs p q) := by
  refine ⟨?_, fun r hr => ?_⟩
  · unfold minor
    rw [List.length_map, List.length_eraseIdx_of_lt (by rw [h.len]; exact hp), h.len]
    rfl
  · unfold minor at hr
    obtain ⟨x, hx, rfl⟩ := List.mem_map.mp hr
    have hw := h.wide x (List.mem_of_mem_eraseIdx hx)
    rw [List.length_eraseIdx_of_lt (by rw [hw]; exact hq), hw]
    rfl
theorem minor_big {a : Nat} {rs : Rows} (h : Big a rs) (p q : Nat) : Big a (minor rs p q) := fun r hr x hx => by
  unfold minor at hr
  obtain ⟨y, hy, rfl⟩ := List.mem_map.mp hr
  exact h y (List.mem_of_mem_eraseIdx hy) x (List.mem_of_mem_eraseIdx hx)
theorem minor_zero {r : Row} {l : Rows} (q : Nat) : minor (r :: l) 0 q = l.map fun x => x.eraseIdx q := rfl
/-- the cofactor at a place -/
def cof (m : Nat) (rs : Rows) (p q : Nat) : Int := if (p + q) % 2 = 0 then Si18.det (m - 1) (minor rs p q) else -(Si18.det (m - 1) (minor rs p q))
def cofs (m : Nat) (rs : Rows) (p : Nat) : Row := (List.range m).map fun q => cof m rs p q
theorem cofs_length (m : Nat) (rs : Rows) (p : Nat) : (cofs m rs p).length = m := by unfold cofs; simp
theorem zipWith_range {m : Nat} {r : Row} {g : Nat → Int} (h : r.length = m) : List.zipWith (fun (x y : Int) => x * y) r ((List.range m).map g) = (List.range m).map fun j => r.getD j 0 * g j := by
  refine List.ext_getElem? fun i => ?_
  rw [List.getElem?_zipWith, List.getElem?_map, List.getElem?_map]
  by_cases hi : i < m
  · rw [List.getElem?_eq_getElem (by omega), List.getElem?_range hi]
    simp [List.getD, h, hi]
  · rw [List.getElem?_eq_none (by omega), List.getElem?_eq_none (l := List.range m) (by simpa using hi)]
    rfl
theorem det_cofs {m : Nat} {r : Row} {l : Rows} (h : Sqr (m + 1) (r :: l)) : Si18.dot r (cofs (m + 1) (r :: l) 0) = Si18.det (m + 1) (r :: l) := by
  have hr : r.length = m + 1 := h.wide r List.mem_cons_self
  unfold Si18.dot cofs
  rw [zipWith_range hr]
  unfold Si18.det
  congr 1
  refine List.map_congr_left fun j _ => ?_
  unfold cof
  rw [Nat.zero_add, minor_zero]
  show r.getD j 0 * (if j % 2 = 0 then Si18.det m (l.map fun x => x.eraseIdx j) else -(Si18.det m (l.map fun x => x.eraseIdx j))) = (if j % 2 = 0 then (1 : Int) else -1) * r.getD j 0 * Si18.det m (l.map fun x => x.eraseIdx j)
  by_cases hj : j % 2 = 0
  · rw [if_pos hj, if_pos hj, Int.one_mul]
  · rw [if_neg hj, if_neg hj, Int.mul_neg, Int.neg_mul, Int.neg_mul, Int.one_mul]
theorem getD_big {a : Nat} {r : Row} (h : BigR a r) (j : Nat) : (r.getD j 0).natAbs < 2 ^ a := by
  unfold List.getD
  cases q : r[j]? with
  | none => exact Nat.two_pow_pos a
  | some x => exact h x (List.mem_of_getElem? q)
theorem det_big {a : Nat} : ∀ {m : Nat} {rs : Rows}, Big a rs → m ≤ 7 → (Si18.det m rs).natAbs < 2 ^ (m * (a + 3) + 1)
  | 0, rs, _, _ => by
    unfold Si18.det
    simp
  | m + 1, [], _, _ => by
    unfold Si18.det
    exact Nat.two_pow_pos _
  | m + 1, r :: l, h, hm => by
    unfold Si18.det
    have e : (m + 1) * (a + 3) + 1 = (a + (m * (a + 3) + 1)) + 3 := by
      rw [Nat.add_mul]
      omega
    rw [e]
    refine sum_abs8 (fun x hx => ?_) (by simpa using hm)
    obtain ⟨j, _, rfl⟩ := List.mem_map.mp hx
    have h1 := getD_big (h r List.mem_cons_self) j
    have h2 : (Si18.det m (l.map fun x => x.eraseIdx j)).natAbs < 2 ^ (m * (a + 3) + 1) := det_big (fun y hy z hz => by
      obtain ⟨w, hw, rfl⟩ := List.mem_map.mp hy
      exact h w (List.mem_cons_of_mem _ hw) z (List.mem_of_mem_eraseIdx hz)) (by omega)
    refine mul_abs ?_ h2
    by_cases hj : j % 2 = 0
    · rw [if_pos hj, Int.one_mul]; exact h1
    · rw [if_neg hj, Int.neg_mul, Int.one_mul, Int.natAbs_neg]; exact h1
theorem cof_big {a m : Nat} {rs : Rows} (h : Big a rs) (hm : m ≤ 7) (p q : Nat) : (cof m rs p q).natAbs < 2 ^ (m * (a + 3) + 1) := by
  have h1 : (Si18.det (m - 1) (minor rs p q)).natAbs < 2 ^ (m * (a + 3) + 1) :=
    abs_mono (det_big (minor_big h p q) (by omega)) (Nat.succ_le_succ (Nat.mul_le_mul_right _ (Nat.sub_le m 1)))
  unfold cof
  split
  · exact h1
  · rw [Int.natAbs_neg]; exact h1
theorem cofs_big {a m : Nat} {rs : Rows} (h : Big a rs) (hm : m ≤ 7) (p : Nat) : BigR (m * (a + 3) + 1) (cofs m rs p) := fun x hx => by
  unfold cofs at hx
  obtain ⟨q, _, rfl⟩ := List.mem_map.mp hx
  exact cof_big h hm p q
end Mx

set_option linter.all false
/-! # The specification's words, plainer -/
namespace Mx
theorem rows_flat (n : Nat) (b : List Int) : ∀ k : Nat, ((List.range k).map fun i => (b.drop (i * n)).take n).flatten = b.take (k * n)
  | 0 => by simp
  | k + 1 => by
    rw [List.range_succ, List.map_append, List.flatten_append, rows_flat n b k]
    simp only [List.map_cons, List.map_nil, List.flatten_cons, List.flatten_nil, List.append_nil]
    rw [Nat.add_mul, Nat.one_mul, List.take_add]
theorem rowsOf_flat {n : Nat} {b : List Int} (h : b.length = n * n) : (Si18Neutral.rowsOf (n : Int) b).flatten = b := by
  unfold Si18Neutral.rowsOf
  rw [Int.toNat_natCast, rows_flat, ← h, List.take_length]
theorem rowsOf_length (n : Nat) (b : List Int) : (Si18Neutral.rowsOf (n : Int) b).length = n := by
  unfold Si18Neutral.rowsOf
  simp
theorem rowsOf_wide {n : Nat} {b : List Int} (h : b.length = n * n) : ∀ r ∈ Si18Neutral.rowsOf (n : Int) b, r.length = n := fun r hr => by
  unfold Si18Neutral.rowsOf at hr
  rw [Int.toNat_natCast] at hr
  obtain ⟨i, hi, rfl⟩ := List.mem_map.mp hr
  have hi' : i < n := by simpa using hi
  have h1 : (i + 1) * n ≤ n * n := Nat.mul_le_mul_right _ hi'
  rw [Nat.add_mul, Nat.one_mul] at h1
  rw [List.length_take, List.length_drop]
  omega
theorem rowsOf_mem {n : Nat} {b : List Int} {r : List Int} {x : Int} (hr : r ∈ Si18Neutral.rowsOf (n : Int) b) (hx : x ∈ r) : x ∈ b := by
  unfold Si18Neutral.rowsOf at hr
  obtain ⟨i, _, rfl⟩ := List.mem_map.mp hr
  exact List.mem_of_mem_drop (List.mem_of_mem_take hx)
theorem fine_rows {n : Nat} {b : List Int} (h : b.length = n * n) : Si18.fine (Si18Neutral.rowsOf (n : Int) b) = b.all fun x => decide (x.natAbs ≤ 1000) := by
  have e : Si18.fine (Si18Neutral.rowsOf (n : Int) b) = (Si18Neutral.rowsOf (n : Int) b).flatten.all fun x => decide (x.natAbs ≤ 1000) := by
    rw [List.all_flatten]
    unfold Si18.fine Si18.small
    congr 1
    funext r
    congr 1
    funext x
    unfold Si18.within
    rw [Bool.eq_iff_iff, Bool.and_eq_true, decide_eq_true_eq, decide_eq_true_eq, decide_eq_true_eq]
    omega
  rw [e, rowsOf_flat h]
theorem size_eq (n : Int) : Si18.size n = Si18Neutral.sizeOk n := rfl
theorem size_true {n : Int} : Si18.size n = true ↔ 1 ≤ n ∧ n ≤ 5 := by
  unfold Si18.size Si18.within
  rw [Bool.and_eq_true, decide_eq_true_eq, decide_eq_true_eq]
theorem rowsIn_of {n : Nat} (h1 : 1 ≤ n) (h5 : n ≤ 5) (b : List Int) : Si18Neutral.rowsIn (n : Int) b = Si18Neutral.rowsOf (n : Int) b := by
  unfold Si18Neutral.rowsIn
  rw [if_pos]
  exact size_true.mpr ⟨by omega, by omega⟩
theorem long_len {l : List Int} {n k : Int} (h : Si18Neutral.long l n k = true) (hn : Si18.size n = true) : (l.length : Int) = k := by
  unfold Si18Neutral.long at h
  rw [Bool.and_eq_true] at h
  have h2 := h.2
  rw [if_pos (show Si18Neutral.sizeOk n = true from hn)] at h2
  exact of_decide_eq_true h2
theorem not_size {n : Int} (h : n < 1 ∨ n > 5) : Si18.size n = false := by
  rw [Bool.eq_false_iff]
  intro z
  have := size_true.mp z
  omega
/-! det -/
def ans (a : Si18.Ans) : List Int := a.v :: a.l
theorem det_eq (n : Int) (b : List Int) : PySi18.det n b = ans (if Si18.size n = false then Si18.say (-2) else if Si18.fine (Si18Neutral.rowsIn n b) = false then Si18.say (-3) else ⟨0, [Si18.det n.toNat (Si18Neutral.rowsIn n b)]⟩) := rfl
theorem det_bad {n : Int} {b : List Int} (h : n < 1 ∨ n > 5) : PySi18.det n b = [-2] := by
  rw [det_eq, if_pos (not_size h)]
  rfl
theorem det_len {n : Nat} {b : List Int} (h : PySi18.det_asked (n : Int) b = true) (h1 : 1 ≤ n) (h5 : n ≤ 5) : b.length = n * n := by
  unfold PySi18.det_asked Si18Neutral.asked at h
  simp only [List.all_cons, List.all_nil, Bool.and_true, Bool.and_eq_true] at h
  have h' : (Si18Neutral.whole32 (n : Int) && Si18Neutral.long b n (n * n)) = true := h.1
  rw [Bool.and_eq_true] at h'
  have := long_len h'.2 (size_true.mpr ⟨by omega, by omega⟩)
  rw [← Int.natCast_mul] at this
  omega
theorem det_good {n : Nat} {b : List Int} (hb : b.length = n * n) (h1 : 1 ≤ n) (h5 : n ≤ 5) : PySi18.det (n : Int) b = if (b.all fun x => decide (x.natAbs ≤ 1000)) = true then [0, Si18.det n (Si18Neutral.rowsOf (n : Int) b)] else [-3] := by
  rw [det_eq, rowsIn_of h1 h5, if_neg (by rw [size_true.mpr ⟨by omega, by omega⟩]; decide), fine_rows hb, Int.toNat_natCast]
  by_cases h : (b.all fun x => decide (x.natAbs ≤ 1000)) = true
  · rw [if_pos h, if_neg (by rw [h]; decide)]
    rfl
  · rw [if_neg h, if_pos (by simpa using h)]
    rfl
end Mx

set_option linter.all false
/-! # same, in the specification's words -/
namespace Mx
theorem other_eq (n : Nat) (b : Rows) : Si18.other n b = (List.range n).map fun p => cofs n b p := by
  unfold Si18.other cofs cof minor
  refine List.map_congr_left fun i _ => List.map_congr_left fun j _ => ?_
  by_cases h : (i + j) % 2 = 0
  · rw [if_pos h, if_pos h, Int.one_mul]
  · rw [if_neg h, if_neg h, Int.neg_mul, Int.one_mul]
theorem onGrid_iff {n : Nat} {b : Rows} {x : Row} : Si18.onGrid n b x = true ↔ ∀ p, p < n → Si18.dot x (cofs n b p) % Si18.det n b = 0 := by
  unfold Si18.onGrid
  rw [other_eq, List.all_eq_true]
  constructor
  · intro h p hp
    have := h (cofs n b p) (List.mem_map.mpr ⟨p, List.mem_range.mpr hp, rfl⟩)
    rw [beq_iff_eq] at this
    exact this
  · intro h o ho
    obtain ⟨p, hp, rfl⟩ := List.mem_map.mp ho
    rw [beq_iff_eq]
    exact h p (List.mem_range.mp hp)
theorem fmod_zero {x y : Int} : Int.fmod x y = 0 ↔ x % y = 0 := by
  rw [← Int.dvd_iff_fmod_eq_zero, Int.dvd_iff_emod_eq_zero]
theorem same_eq (n : Int) (a b : List Int) : PySi18.same n a b = ans (if Si18.size n = false then Si18.say (-2) else if (Si18.given n (Si18Neutral.rowsIn n a) && Si18.given n (Si18Neutral.rowsIn n b)) = false then Si18.say (-3) else Si18.say (if Si18.sameB n.toNat (Si18Neutral.rowsIn n a) (Si18Neutral.rowsIn n b) = true then 1 else 0)) := rfl
theorem same_bad {n : Int} {a b : List Int} (h : n < 1 ∨ n > 5) : PySi18.same n a b = [-2] := by
  rw [same_eq, if_pos (not_size h)]
  rfl
theorem same_len {n : Nat} {a b : List Int} (h : PySi18.same_asked (n : Int) a b = true) (h1 : 1 ≤ n) (h5 : n ≤ 5) : a.length = n * n ∧ b.length = n * n := by
  unfold PySi18.same_asked Si18Neutral.asked at h
  simp only [List.all_cons, List.all_nil, Bool.and_true, Bool.and_eq_true] at h
  have h' : (Si18Neutral.whole32 (n : Int) && (Si18Neutral.long a n (n * n) && Si18Neutral.long b n (n * n))) = true := h.1
  rw [Bool.and_eq_true, Bool.and_eq_true] at h'
  have e1 := long_len h'.2.1 (size_true.mpr ⟨by omega, by omega⟩)
  have e2 := long_len h'.2.2 (size_true.mpr ⟨by omega, by omega⟩)
  rw [← Int.natCast_mul] at e1 e2
  omega
theorem given_eq {n : Nat} {b : List Int} (hb : b.length = n * n) : Si18.given (n : Int) (Si18Neutral.rowsOf (n : Int) b) = ((b.all fun x => decide (x.natAbs ≤ 1000)) && Si18.det n (Si18Neutral.rowsOf (n : Int) b) != 0) := by
  unfold Si18.given
  rw [fine_rows hb, Int.toNat_natCast]
theorem same_good {n : Nat} {a b : List Int} (ha : a.length = n * n) (hb : b.length = n * n) (h1 : 1 ≤ n) (h5 : n ≤ 5) :
    PySi18.same (n : Int) a b = if (((a.all fun x => decide (x.natAbs ≤ 1000)) && Si18.det n (Si18Neutral.rowsOf (n : Int) a) != 0) && ((b.all fun x => decide (x.natAbs ≤ 1000)) && Si18.det n (Si18Neutral.rowsOf (n : Int) b) != 0)) = true
      then [if Si18.sameB n (Si18Neutral.rowsOf (n : Int) a) (Si18Neutral.rowsOf (n : Int) b) = true then 1 else 0] else [-3] := by
  rw [same_eq, rowsIn_of h1 h5, rowsIn_of h1 h5, if_neg (by rw [size_true.mpr ⟨by omega, by omega⟩]; decide), given_eq ha, given_eq hb, Int.toNat_natCast]
  generalize (((a.all fun x => decide (x.natAbs ≤ 1000)) && Si18.det n (Si18Neutral.rowsOf (n : Int) a) != 0) && ((b.all fun x => decide (x.natAbs ≤ 1000)) && Si18.det n (Si18Neutral.rowsOf (n : Int) b) != 0)) = c
  cases c with
  | true => rw [if_neg (by decide), if_pos rfl]; rfl
  | false => rw [if_pos rfl, if_neg (by decide)]; rfl
end Mx

set_option Elab.async false
set_option linter.all false
set_option maxRecDepth 100000
set_option maxHeartbeats 4000000
namespace Py
open PySem PySem.Spec PyProof.Rows L2
/-! ### The text: each def by its name -/
def prg : Program := PySem.Challenge.pw_gridsteps_s02_same
def isDef (x : Str) : Stmt → Bool
  | .FunctionDef n _ _ _ _ _ _ _ _ _ => decide (n = x)
  | _ => false
def S (x : Str) : Stmt := ((PySem.Challenge.pw_gridsteps_s02_same.main.body.find? (isDef x)).getD (.Pass ⟨0, 0, 0, 0⟩))
structure FF (K : PySem.W.Frag) (mg : Str → Option Value) (x : Str) (ps : List Str) (f : Addr) (fd : FuncData) : Prop where
  F : Fun K x x (S x) f fd
  g : mg x = some (.ref f)
  b : Binds K fd ps []
abbrev N_split_rows : List Str := ["n", "numbers", "place"]
theorem sc_split_rows : FnScope N_split_rows ["n", "numbers"] (defScope (S "split_rows")) := ⟨by rfl, by rfl, by rfl, by decide +kernel, by rfl, by decide +kernel, by decide +kernel⟩
abbrev N_product : List Str := ["row", "other", "x", "y"]
theorem sc_product : FnScope N_product ["row", "other"] (defScope (S "product")) := ⟨by rfl, by rfl, by rfl, by decide +kernel, by rfl, by decide +kernel, by decide +kernel⟩
abbrev N_without : List Str := ["rows", "place", "column", "kept", "row"]
theorem sc_without : FnScope N_without ["rows", "place", "column"] (defScope (S "without")) := ⟨by rfl, by rfl, by rfl, by decide +kernel, by rfl, by decide +kernel, by decide +kernel⟩
abbrev N_cofactor : List Str := ["rows", "place", "column", "part"]
theorem sc_cofactor : FnScope N_cofactor ["rows", "place", "column"] (defScope (S "cofactor")) := ⟨by rfl, by rfl, by rfl, by decide +kernel, by rfl, by decide +kernel, by decide +kernel⟩
abbrev N_cofactors : List Str := ["rows", "place", "column"]
theorem sc_cofactors : FnScope N_cofactors ["rows", "place"] (defScope (S "cofactors")) := ⟨by rfl, by rfl, by rfl, by decide +kernel, by rfl, by decide +kernel, by decide +kernel⟩
abbrev N_determinant : List Str := ["rows"]
theorem sc_determinant : FnScope N_determinant ["rows"] (defScope (S "determinant")) := ⟨by rfl, by rfl, by rfl, by decide +kernel, by rfl, by decide +kernel, by decide +kernel⟩
abbrev N_lies_within : List Str := ["inner", "outer", "whole", "place", "factors", "point"]
theorem sc_lies_within : FnScope N_lies_within ["inner", "outer"] (defScope (S "lies_within")) := ⟨by rfl, by rfl, by rfl, by decide +kernel, by rfl, by decide +kernel, by decide +kernel⟩
abbrev N_refusal : List Str := ["n", "lists", "numbers", "number"]
theorem sc_refusal : FnScope N_refusal ["n", "lists"] (defScope (S "refusal")) := ⟨by rfl, by rfl, by rfl, by decide +kernel, by rfl, by decide +kernel, by decide +kernel⟩
abbrev N_grid_refusal : List Str := ["n", "grids", "refused", "numbers"]
theorem sc_grid_refusal : FnScope N_grid_refusal ["n", "grids"] (defScope (S "grid_refusal")) := ⟨by rfl, by rfl, by rfl, by decide +kernel, by rfl, by decide +kernel, by decide +kernel⟩
abbrev N_same : List Str := ["n", "a", "b", "refused", "first", "second", "alike"]
theorem sc_same : FnScope N_same ["n", "a", "b"] (defScope (S "same")) := ⟨by rfl, by rfl, by rfl, by decide +kernel, by rfl, by decide +kernel, by decide +kernel⟩
structure Txt (K : PySem.W.Frag) (mg : Str → Option Value) where
  a_split_rows : Addr
  d_split_rows : FuncData
  x_split_rows : FF K mg "split_rows" ["n", "numbers"] a_split_rows d_split_rows
  a_product : Addr
  d_product : FuncData
  x_product : FF K mg "product" ["row", "other"] a_product d_product
  a_without : Addr
  d_without : FuncData
  x_without : FF K mg "without" ["rows", "place", "column"] a_without d_without
  a_cofactor : Addr
  d_cofactor : FuncData
  x_cofactor : FF K mg "cofactor" ["rows", "place", "column"] a_cofactor d_cofactor
  a_cofactors : Addr
  d_cofactors : FuncData
  x_cofactors : FF K mg "cofactors" ["rows", "place"] a_cofactors d_cofactors
  a_determinant : Addr
  d_determinant : FuncData
  x_determinant : FF K mg "determinant" ["rows"] a_determinant d_determinant
  a_lies_within : Addr
  d_lies_within : FuncData
  x_lies_within : FF K mg "lies_within" ["inner", "outer"] a_lies_within d_lies_within
  a_refusal : Addr
  d_refusal : FuncData
  x_refusal : FF K mg "refusal" ["n", "lists"] a_refusal d_refusal
  a_grid_refusal : Addr
  d_grid_refusal : FuncData
  x_grid_refusal : FF K mg "grid_refusal" ["n", "grids"] a_grid_refusal d_grid_refusal
  a_same : Addr
  d_same : FuncData
  x_same : FF K mg "same" ["n", "a", "b"] a_same d_same
  b_abs : mg "abs" = none
  b_len : mg "len" = none
  b_range : mg "range" = none
  b_sum : mg "sum" = none
  b_zip : mg "zip" = none
  t_LARGEST_SIZE : Tok
  c_LARGEST_SIZE : mg "LARGEST_SIZE" = some (.int (5) t_LARGEST_SIZE)
  t_LARGEST_NUMBER : Tok
  c_LARGEST_NUMBER : mg "LARGEST_NUMBER" = some (.int (1000) t_LARGEST_NUMBER)
  t_WRONG_SIZE : Tok
  c_WRONG_SIZE : mg "WRONG_SIZE" = some (.int (-2) t_WRONG_SIZE)
  t_WRONG_ROWS : Tok
  c_WRONG_ROWS : mg "WRONG_ROWS" = some (.int (-3) t_WRONG_ROWS)
/-! ## matrix.py -/
section
variable {P : Program} {w : World} {K : PySem.W.Frag} {mg : Str → Option Value} {base : Heap}
theorem nums_map (ns : List Int) : nums ns = ns.map MP.i := rfl
theorem cut_take {B : Type} (xs : List B) (k : Nat) : cutL xs none (some (k : Int)) = xs.take k := by
  unfold cutL
  rw [HT.sIx_none, HT.sIx_nat, List.drop_zero, Nat.sub_zero]
  by_cases h : k ≤ xs.length
  · rw [Nat.min_eq_left h]
  · rw [Nat.min_eq_right (by omega), List.take_length, List.take_of_length_le (by omega)]
theorem cut_drop {B : Type} (xs : List B) (k : Nat) : cutL xs (some (k : Int)) none = xs.drop k := by
  unfold cutL
  rw [HT.sIx_none, HT.sIx_nat]
  by_cases h : k ≤ xs.length
  · rw [Nat.min_eq_left h, List.take_of_length_le (by rw [List.length_drop]; omega)]
  · rw [Nat.min_eq_right (by omega), List.drop_length, List.drop_of_length_le (by omega)]
    simp
theorem cut_mid {B : Type} (xs : List B) (i j : Nat) (h : j ≤ xs.length) (hij : i ≤ j) : cutL xs (some (i : Int)) (some (j : Int)) = (xs.drop i).take (j - i) := by
  unfold cutL
  rw [HT.sIx_nat, HT.sIx_nat, Nat.min_eq_left h, Nat.min_eq_left (by omega)]
theorem cut_erase {B : Type} (xs : List B) (k : Nat) : cutL xs none (some (k : Int)) ++ cutL xs (some ((k : Int) + 1)) none = xs.eraseIdx k := by
  rw [show (k : Int) + 1 = ((k + 1 : Nat) : Int) by omega, cut_take, cut_drop, List.eraseIdx_eq_take_drop_succ]

theorem map_erase {B D : Type} (f : B → D) (xs : List B) (k : Nat) : (xs.map f).eraseIdx k = (xs.eraseIdx k).map f := by
  rw [List.eraseIdx_eq_take_drop_succ, List.eraseIdx_eq_take_drop_succ, List.map_append, List.map_take, List.map_drop]

/-! split_rows -/
def spSplit (K : PySem.W.Frag) : Sp := spF (fun (c : Nat × List Int) => c.1 ≤ 5 ∧ c.2.length = c.1 * c.1) (fun c => [.i (c.1 : Int), .il K c.2]) (fun c => .rows (Si18Neutral.rowsOf (c.1 : Int) c.2))
theorem ok_split_rows (T : Txt K mg) : FnOk P w K mg base CX0 1 T.a_split_rows T.d_split_rows ["n", "numbers"] (spSplit K) := by
  refine T.x_split_rows.F.ok sc_split_rows (spF_len fun _ => rfl) (fun cdv A outer s H vs Q E hr h => ?_)
  refine ⟨_, (pss_one (ps_ret (pe_lc (own := [("place", 2)]) (g := gName 2) (tt := tYes) rfl sc_split_rows.nd (pi_range1 rfl T.b_range (pa_cons (pv 0) pa_nil)) (blkOk_by (own := [("place", 2)]) (N := N_split_rows) (sc := defScope (S "split_rows")) (by decide +kernel)) (fun _ _ _ _ _ => (pg_name (i := 2) sc_split_rows.nd rfl (by first | exact Or.inl rfl | exact Or.inr rfl))) (fun _ _ _ _ _ => pts_nil) (fun _ _ _ _ _ => (pe_slice (r := rSlL K) sl_list (pv 1) (po_some (pe_op op_mulW (pv 2) (pv 0))) (po_some (pe_op op_mulW (pe_op op_add (pv 2) pe_int) (pv 0)))))))), ?_⟩
  refine spF_body h fun ⟨n, b⟩ ⟨hn, hb⟩ => ?_
  dsimp only at hn hb ⊢
  refine ex_ret (ev_lc_map (List.range n) (fun i => .i (i : Nat)) (fun i => .row ((b.drop (i * n)).take n)) (ei_range1 (j := (n : Int)) (ea_cons (ev_var rfl) ea_nil) (by omega) (by omega)) (by simp; exact Nat.le_trans hn (by decide))
    fun i hi => ⟨[2], _, eg_name, by simp, Ev.of_eq (ev_slice (ev_var rfl) (eo_some (ev_int (ev_var rfl) (ev_var rfl) ?_)) (eo_some (ev_int (ev_int0 (ev_var rfl) (ev_c _)) (ev_var rfl) ?_))) ?_⟩) ?_
  · have hi' : i < n := by simpa using hi
    exact wide_mul (a := 10) (b := 10) (by omega) (by omega) (by decide) (by decide) (by decide)
  · have hi' : i < n := by simpa using hi
    exact wide_mul (a := 10) (b := 10) (by omega) (by omega) (by decide) (by decide) (by decide)
  · have hi' : i < n := by simpa using hi
    have h1 : (i + 1) * n ≤ n * n := Nat.mul_le_mul_right _ hi'
    have e1 : (i : Int) * (n : Int) = ((i * n : Nat) : Int) := by rw [Int.natCast_mul]
    have e2 : ((i : Int) + 1) * (n : Int) = (((i + 1) * n : Nat) : Int) := by rw [Int.natCast_mul]; rfl
    rw [nums_map, cutL_map, e1, e2, cut_mid _ _ _ (by omega) (Nat.mul_le_mul_right _ (by omega)), show (i + 1) * n - i * n = n by rw [Nat.add_mul]; omega]
    rfl
  · show MP.le _ (MP.rows (Si18Neutral.rowsOf (n : Int) b))
    unfold Si18Neutral.rowsOf
    rw [Int.toNat_natCast, MP.rows, List.map_map]
    exact MP.le.rfl

/-! product -/
def spProd (K : PySem.W.Frag) : Sp := spF (fun (c : Mx.Row × Mx.Row × Nat × Nat) => Mx.BigR c.2.2.1 c.1 ∧ Mx.BigR c.2.2.2 c.2.1 ∧ c.2.2.1 + c.2.2.2 + 2 ≤ 1000000 ∧ c.1.length ≤ 1000) (fun c => [.il K c.1, .il K c.2.1]) (fun c => .i (Si18.dot c.1 c.2.1))
theorem zip_nums : ∀ (xs ys : List Int), List.zipWith (fun F E => MP.tup [F, E]) (nums xs) (nums ys) = (List.zip xs ys).map fun p => MP.tup [.i p.1, .i p.2]
  | [], _ => by simp [nums]
  | _ :: _, [] => by simp [nums]
  | x :: xs, y :: ys => by
    have := zip_nums xs ys
    simp only [nums, List.map_cons, List.zipWith_cons_cons, List.zip_cons_cons] at this ⊢
    rw [this]
theorem ok_product (T : Txt K mg) : FnOk P w K mg base CX0 1 T.a_product T.d_product ["row", "other"] (spProd K) := by
  refine T.x_product.F.ok sc_product (spF_len fun _ => rfl) (fun cdv A outer s H vs Q E hr h => ?_)
  refine ⟨_, (pss_one (ps_ret (pe_callB (r := rSum K) (cr_sum rfl) (by rfl) T.b_sum (by decide +kernel) (pa_cons (pe_lc (own := [("x", 2), ("y", 3)]) (g := gTup _ 2 (gCons (gName 2) (gCons (gName 3) gNil))) (tt := tYes) rfl sc_product.nd (pi_zip (by rfl) T.b_zip (pa_cons (pv 0) (pa_cons (pv 1) pa_nil))) (blkOk_by (own := [("x", 2), ("y", 3)]) (N := N_product) (sc := defScope (S "product")) (by decide +kernel)) (fun _ _ _ _ _ => (pg_tup rfl (pgs_cons (pg_name (i := 2) sc_product.nd rfl (by first | exact Or.inl rfl | exact Or.inr rfl)) (pgs_cons (pg_name (i := 3) sc_product.nd rfl (by first | exact Or.inl rfl | exact Or.inr rfl)) pgs_nil)))) (fun _ _ _ _ _ => pts_nil) (fun _ _ _ _ _ => (pe_op op_mulW (pv 2) (pv 3)))) pa_nil)))), ?_⟩
  refine spF_body h fun ⟨xs, ys, a, b⟩ ⟨h1, h2, h3, h4⟩ => ?_
  dsimp only at h1 h2 h3 h4 ⊢
  have e : (List.zip xs ys).map (fun p => MP.i (p.1 * p.2)) = nums (List.zipWith (fun (x y : Int) => x * y) xs ys) := by
    rw [nums_map, ← List.map_uncurry_zip_eq_zipWith, List.map_map]
    rfl
  refine ex_ret (ev_sum (ns := List.zipWith (fun (x y : Int) => x * y) xs ys) (ea_cons (Ev.sq (Ev.of_eq (ev_lc_map (List.zip xs ys) (fun p => MP.tup [.i p.1, .i p.2]) (fun p => MP.i (p.1 * p.2)) (Ei.of_eq (ei_zip (ea_cons (ev_var rfl) (ea_cons (ev_var rfl) ea_nil))) (zip_nums xs ys)) ?_
    fun p hp => ⟨[2, 3], _, eg_tup2, by simp, ev_int (ev_var rfl) (ev_var rfl) ?_⟩) (congrArg MP.lst e))) ea_nil)) MP.le.rfl
  · rw [List.length_zip]
    exact Nat.le_trans (Nat.min_le_left _ _) (Nat.le_trans h4 (by decide))
  · have hx := h1 p.1 (List.of_mem_zip hp).1
    have hy := h2 p.2 (List.of_mem_zip hp).2
    exact wide_mul (a := a + 1) (b := b + 1) (Mx.abs_mono hx (by omega)) (Mx.abs_mono hy (by omega)) (by omega) (by omega) (by omega)

/-! without -/
def spWithout (K : PySem.W.Frag) : Sp := spF (fun (c : Mx.Rows × Nat × Nat) => c.1.length ≤ 1000 ∧ ∀ r ∈ c.1, r.length ≤ 1000) (fun c => [.ill K c.1, .i (c.2.1 : Int), .i (c.2.2 : Int)]) (fun c => .rows (Mx.minor c.1 c.2.1 c.2.2))
theorem ok_without (T : Txt K mg) : FnOk P w K mg base CX0 1 T.a_without T.d_without ["rows", "place", "column"] (spWithout K) := by
  refine T.x_without.F.ok sc_without (spF_len fun _ => rfl) (fun cdv A outer s H vs Q E hr h => ?_)
  refine ⟨_, (pss_cons (ps_set (i := 3) sc_without.nd rfl (by first | exact Or.inl rfl | exact Or.inr rfl) (pe_op op_cat (pe_slice (r := rSlL K) sl_list (pv 0) po_none (po_some (pv 1))) (pe_slice (r := rSlL K) sl_list (pv 0) (po_some (pe_op op_add (pv 1) pe_int)) po_none))) (pss_one (ps_ret (pe_lc (own := [("row", 4)]) (g := gName 4) (tt := tYes) rfl sc_without.nd (pi_list (pv 3)) (blkOk_by (own := [("row", 4)]) (N := N_without) (sc := defScope (S "without")) (by decide +kernel)) (fun _ _ _ _ _ => (pg_name (i := 4) sc_without.nd rfl (by first | exact Or.inl rfl | exact Or.inr rfl))) (fun _ _ _ _ _ => pts_nil) (fun _ _ _ _ _ => (pe_op op_cat (pe_slice (r := rSlL K) sl_list (pv 4) po_none (po_some (pv 2))) (pe_slice (r := rSlL K) sl_list (pv 4) (po_some (pe_op op_add (pv 2) pe_int)) po_none))))))), ?_⟩
  refine spF_body h fun ⟨rs, p, q⟩ ⟨h1, h2⟩ => ?_
  dsimp only at h1 h2 ⊢
  have big : (1000 : Nat) + 1000 ≤ sizeLine := by decide
  have cl : ∀ {B : Type} (xs : List B) (lo hi : Option Int), (cutL xs lo hi).length ≤ xs.length := fun xs lo hi => by
    unfold cutL
    rw [List.length_take, List.length_drop]
    omega
  refine ex_seq (ex_set (ev_cat (ev_slice (ev_var rfl) eo_none (eo_some (ev_var rfl))) (ev_slice (ev_var rfl) (eo_some (ev_int0 (ev_var rfl) (ev_c _))) eo_none) ?_) ?_)
  · have c1 := cl (rs.map (MP.il K)) none (some (p : Int))
    have c2 := cl (rs.map (MP.il K)) (some ((p : Int) + 1)) none
    rw [List.length_map] at c1 c2
    exact Nat.le_trans (Nat.add_le_add (Nat.le_trans c1 h1) (Nat.le_trans c2 h1)) big
  · show Ex _ _ _
    have e1 : cutL (rs.map (MP.il K)) none (some (p : Int)) ++ cutL (rs.map (MP.il K)) (some ((p : Int) + 1)) none = (rs.eraseIdx p).map (MP.il K) := by
      rw [cut_erase, map_erase]
    rw [e1]
    refine ex_ret (ev_lc_map (rs.eraseIdx p) (MP.il K) (fun r => .row (r.eraseIdx q)) (ei_list (Ev.sq (ev_var rfl))) ?_ fun r hr' => ⟨[4], _, eg_name, by simp, Ev.of_eq (ev_cat (ev_slice (ev_var rfl) eo_none (eo_some (ev_var rfl))) (ev_slice (ev_var rfl) (eo_some (ev_int0 (ev_var rfl) (ev_c _))) eo_none) ?_) ?_⟩) ?_
    · exact Nat.le_trans (List.length_eraseIdx_le ..) (Nat.le_trans h1 (by decide))
    · have hw := h2 r (List.mem_of_mem_eraseIdx hr')
      have c1 := cl (nums r) none (some (q : Int))
      have c2 := cl (nums r) (some ((q : Int) + 1)) none
      rw [nums_length] at c1 c2
      exact Nat.le_trans (Nat.add_le_add (Nat.le_trans c1 hw) (Nat.le_trans c2 hw)) big
    · rw [cut_erase, nums_map, map_erase]
      rfl
    · show MP.le _ (MP.rows (Mx.minor rs p q))
      unfold Mx.minor
      rw [MP.rows, List.map_map]
      exact MP.le.rfl

/-! determinant, cofactor, cofactors: by the number of rows -/
structure DetPre (m : Nat) (rs : Mx.Rows) (a : Nat) : Prop where
  sq : Mx.Sqr m rs
  hm : m ≤ 5
  big : Mx.Big a rs
  ha : a ≤ 10000
def spDet (K : PySem.W.Frag) (M : Nat) : Sp := spF (fun (c : Nat × Mx.Rows × Nat) => c.1 < M ∧ DetPre c.1 c.2.1 c.2.2) (fun c => [.ill K c.2.1]) (fun c => .i (Si18.det c.1 c.2.1))
def spCof (K : PySem.W.Frag) (M : Nat) : Sp := spF (fun (c : Nat × Mx.Rows × Nat × Nat × Nat) => c.1 ≤ M ∧ DetPre c.1 c.2.1 c.2.2.1 ∧ c.2.2.2.1 < c.1 ∧ c.2.2.2.2 < c.1) (fun c => [.ill K c.2.1, .i (c.2.2.2.1 : Int), .i (c.2.2.2.2 : Int)]) (fun c => .i (Mx.cof c.1 c.2.1 c.2.2.2.1 c.2.2.2.2))
def spCofs (K : PySem.W.Frag) (M : Nat) : Sp := spF (fun (c : Nat × Mx.Rows × Nat × Nat) => c.1 ≤ M ∧ DetPre c.1 c.2.1 c.2.2.1 ∧ c.2.2.2 < c.1) (fun c => [.ill K c.2.1, .i (c.2.2.2 : Int)]) (fun c => .row (Mx.cofs c.1 c.2.1 c.2.2.2))
theorem ok_cofactor (T : Txt K mg) {M : Nat} (G_determinant : FnOk P w K mg base CX0 (3 * M + 1) T.a_determinant T.d_determinant ["rows"] (spDet K M)) : FnOk P w K mg base CX0 (3 * M + 2) T.a_cofactor T.d_cofactor ["rows", "place", "column"] (spCof K M) := by
  have G_without := ok_without (P := P) (w := w) (base := base) T
  refine T.x_cofactor.F.ok (k := 3 * M + 1) sc_cofactor (spF_len fun _ => rfl) (fun cdv A outer s H vs Q E hr h => ?_)
  refine ⟨_, (pss_cons (ps_set (i := 3) sc_cofactor.nd rfl (by first | exact Or.inl rfl | exact Or.inr rfl) (pe_call G_determinant (hr.mono (by omega)) rfl T.x_determinant.g T.x_determinant.F.kp T.x_determinant.b .nil pass0 (pa_cons (pe_call G_without (hr.mono (by omega)) rfl T.x_without.g T.x_without.F.kp T.x_without.b .nil pass0 (pa_cons (pv 0) (pa_cons (pv 1) (pa_cons (pv 2) pa_nil)))) pa_nil))) (pss_one (ps_ret (pe_ifExp (pt_cmpR op_eq (pe_op op_modN (pe_op op_add (pv 1) (pv 2)) pe_int) pe_int (nomark _)) (pv 3) (pe_un un_neg (pv 3)))))), ?_⟩
  refine spF_body h fun ⟨m, rs, a, p, q⟩ ⟨hM, ⟨sq, hm, big, ha⟩, hp, hq⟩ => ?_
  dsimp only at hM sq hm big ha hp hq ⊢
  obtain ⟨m, rfl⟩ : ∃ k, m = k + 1 := ⟨m - 1, by omega⟩
  have hw : rs.length ≤ 1000 ∧ ∀ r ∈ rs, r.length ≤ 1000 := ⟨by rw [sq.len]; omega, fun r hr' => by rw [sq.wide r hr']; omega⟩
  refine ex_seq (ex_set (ev_call (m, Mx.minor rs p q, a) (ea_cons ((ev_call (rs, p, q) (ea_cons (ev_var rfl) (ea_cons (ev_var rfl) (ea_cons (ev_var rfl) ea_nil))) hw).le (MP.rows_ill _)) ea_nil) ⟨by dsimp only; omega, Mx.minor_sqr sq hp hq, by omega, Mx.minor_big big p q, ha⟩) ?_)
  · show Ex _ _ _
    refine ex_ret (ev_if (et_test (ev_eq (ev_int (ev_int0 (ev_var rfl) (ev_var rfl)) (ev_c _) (by decide)) (ev_c _) rfl)) (fun h => ?_) (fun h => ?_)) MP.le.rfl
    · refine Ev.of_eq (ev_var rfl) ?_
      have h' := of_decide_eq_true h
      injection h' with h'
      have e : (p + q) % 2 = 0 := by
        rw [Int.fmod_eq_emod_of_nonneg _ (by decide)] at h'
        omega
      show MP.i (Si18.det m (Mx.minor rs p q)) = MP.i (Mx.cof (m + 1) rs p q)
      unfold Mx.cof
      rw [if_pos e]
      rfl
    · refine Ev.of_eq (ev_un (ev_var rfl)) ?_
      have h' := of_decide_eq_false h
      have e : ¬ (p + q) % 2 = 0 := fun z => h' (by
        rw [Int.fmod_eq_emod_of_nonneg _ (by decide)]
        congr 1
        omega)
      show MP.i (-Si18.det m (Mx.minor rs p q)) = MP.i (Mx.cof (m + 1) rs p q)
      unfold Mx.cof
      rw [if_neg e]
      rfl
theorem ok_cofactors (T : Txt K mg) {M : Nat} (G_cofactor : FnOk P w K mg base CX0 (3 * M + 2) T.a_cofactor T.d_cofactor ["rows", "place", "column"] (spCof K M)) : FnOk P w K mg base CX0 (3 * M + 3) T.a_cofactors T.d_cofactors ["rows", "place"] (spCofs K M) := by
  refine T.x_cofactors.F.ok (k := 3 * M + 2) sc_cofactors (spF_len fun _ => rfl) (fun cdv A outer s H vs Q E hr h => ?_)
  refine ⟨_, (pss_one (ps_ret (pe_lc (own := [("column", 2)]) (g := gName 2) (tt := tYes) rfl sc_cofactors.nd (pi_range1 rfl T.b_range (pa_cons (pe_callB (r := rLenQ K) call_len_seq (by rfl) T.b_len PySem.boot_len (pa_cons (pv 0) pa_nil)) pa_nil)) (blkOk_by (own := [("column", 2)]) (N := N_cofactors) (sc := defScope (S "cofactors")) (by decide +kernel)) (fun _ _ _ _ _ => (pg_name (i := 2) sc_cofactors.nd rfl (by first | exact Or.inl rfl | exact Or.inr rfl))) (fun _ _ _ _ _ => pts_nil) (fun _ _ _ _ _ => (pe_call G_cofactor (hr.mono (by omega)) rfl T.x_cofactor.g T.x_cofactor.F.kp T.x_cofactor.b .nil pass0 (pa_cons (pv 0) (pa_cons (pv 1) (pa_cons (pv 2) pa_nil)))))))), ?_⟩
  refine spF_body h fun ⟨m, rs, a, p⟩ ⟨hM, pre, hp⟩ => ?_
  dsimp only at hM pre hp ⊢
  have hl : (rs.map (MP.il K)).length = m := by rw [List.length_map]; exact pre.sq.len
  have hm := pre.hm
  refine ex_ret (ev_lc_map (List.range m) (fun i => .i (i : Nat)) (fun i => .i (Mx.cof m rs p i)) (Ei.of_eq (ei_range1 (ea_cons (ev_len (ea_cons (ev_var rfl) ea_nil)) ea_nil) (by rw [hl]; omega) (by rw [hl]; omega)) ?_) (by simp; exact Nat.le_trans hm (by decide))
    fun i hi => ⟨[2], _, eg_name, by simp, ev_call (m, rs, a, p, i) (ea_cons (ev_var rfl) (ea_cons (ev_var rfl) (ea_cons (ev_var rfl) ea_nil))) ⟨hM, pre, hp, by simpa using hi⟩⟩) ?_
  · rw [hl]
    rfl
  · show MP.le _ (MP.row (Mx.cofs m rs p))
    unfold Mx.cofs
    rw [MP.row, nums_map, List.map_map]
    exact MP.le.rfl
theorem ok_determinant (T : Txt K mg) {M : Nat} (G_cofactors : FnOk P w K mg base CX0 (3 * M + 3) T.a_cofactors T.d_cofactors ["rows", "place"] (spCofs K M)) : FnOk P w K mg base CX0 (3 * (M + 1) + 1) T.a_determinant T.d_determinant ["rows"] (spDet K (M + 1)) := by
  have G_product := ok_product (P := P) (w := w) (base := base) T
  refine T.x_determinant.F.ok (k := 3 * M + 3) sc_determinant (spF_len fun _ => rfl) (fun cdv A outer s H vs Q E hr h => ?_)
  refine ⟨_, (pss_cons (ps_if (pt_cmpR op_eq (pe_callB (r := rLenQ K) call_len_seq (by rfl) T.b_len PySem.boot_len (pa_cons (pv 0) pa_nil)) pe_int (nomark _)) (pss_one (ps_ret pe_int)) pss_nil) (pss_one (ps_ret (pe_call G_product (hr.mono (by omega)) rfl T.x_product.g T.x_product.F.kp T.x_product.b .nil pass0 (pa_cons (pe_ix (r := rIxL K) ix_list (pv 0) pe_int (fun _ _ => rfl)) (pa_cons (pe_call G_cofactors (hr.mono (by omega)) rfl T.x_cofactors.g T.x_cofactors.F.kp T.x_cofactors.b .nil pass0 (pa_cons (pv 0) (pa_cons pe_int pa_nil))) pa_nil)))))), ?_⟩
  refine spF_body h fun ⟨m, rs, a⟩ ⟨hM, pre⟩ => ?_
  dsimp only at hM pre ⊢
  have hl : (rs.map (MP.il K)).length = m := by rw [List.length_map]; exact pre.sq.len
  have hm := pre.hm
  refine ex_seq (ex_if (et_test (ev_eq (ev_len (ea_cons (ev_var rfl) ea_nil)) (ev_c _) rfl)) (fun h => ?_) (fun h => ?_))
  · have h' := of_decide_eq_true h
    injection h' with h'
    have e : m = 0 := by omega
    subst e
    exact ex_ret (ev_c _) MP.le.rfl
  · have h' := of_decide_eq_false h
    have e : m ≠ 0 := fun z => h' (by rw [hl, z]; rfl)
    obtain ⟨m, rfl⟩ : ∃ k, m = k + 1 := ⟨m - 1, by omega⟩
    obtain ⟨r, l, rfl⟩ : ∃ r l, rs = r :: l := by
      cases rs with
      | nil => have := pre.sq.len; simp at this
      | cons r l => exact ⟨r, l, rfl⟩
    refine ex_next ?_
    show Ex _ _ _
    refine ex_ret (Ev.of_eq (ev_call (r, Mx.cofs (m + 1) (r :: l) 0, a, (m + 1) * (a + 3) + 1) (ea_cons (ev_ix (ev_var rfl) (ev_c _) (atI_of (j := 0) rfl rfl)) (ea_cons ((ev_call (m + 1, r :: l, a, 0) (ea_cons (ev_var rfl) (ea_cons (ev_c _) ea_nil)) ⟨by dsimp only; omega, pre, by dsimp only; omega⟩).le MP.le_sq) ea_nil)) ⟨pre.big r List.mem_cons_self, Mx.cofs_big pre.big (by omega) 0, ?_, ?_⟩) ?_) MP.le.rfl
    · have := pre.ha
      have h1 : (m + 1) * (a + 3) ≤ 5 * 10003 := Nat.mul_le_mul hm (by omega)
      dsimp only
      omega
    · have := pre.sq.wide r List.mem_cons_self
      dsimp only
      omega
    · exact congrArg MP.i (Mx.det_cofs pre.sq)
theorem det_none {f : Addr} {fd : FuncData} {k : Nat} : FnOk P w K mg base CX0 k f fd ["rows"] (spDet K 0) := by
  have no : ∀ vs H Q E, ¬ spDet K 0 vs H Q E := fun vs H Q E h => by
    obtain ⟨G, c, ⟨hc, _⟩, _⟩ := h
    omega
  exact ⟨fun vs H Q E h => absurd h (no vs H Q E), fun A outer s H args us vs Q E _ _ _ _ h => absurd h (no vs H Q E)⟩
theorem det_all (T : Txt K mg) : ∀ M : Nat, FnOk P w K mg base CX0 (3 * M + 1) T.a_determinant T.d_determinant ["rows"] (spDet K M)
  | 0 => det_none
  | M + 1 => ok_determinant T (ok_cofactors T (ok_cofactor T (det_all T M)))
end

/-! ## refusal -/
section
variable {P : Program} {w : World} {K : PySem.W.Frag} {mg : Str → Option Value} {base : Heap}
def within (ns : List Int) : Bool := ns.all fun x => decide (x.natAbs ≤ 1000)
def refuse (n : Int) (ls : List (List Int)) : Int := if n < 1 ∨ n > 5 then -2 else if ls.all within = true then 0 else -3
def spRefusal (K : PySem.W.Frag) : Sp := spF (fun (_ : Int × List (List Int)) => True) (fun c => [.i c.1, .ill K c.2]) (fun c => .i (refuse c.1 c.2))
theorem ok_refusal (T : Txt K mg) : FnOk P w K mg base CX0 1 T.a_refusal T.d_refusal ["n", "lists"] (spRefusal K) := by
  refine T.x_refusal.F.ok sc_refusal (spF_len fun _ => rfl) (fun cdv A outer s H vs Q E hr h => ?_)
  refine ⟨_, (pss_cons (ps_if (PW.pt (pw_or (pt_cmpR op_lt (pv 0) pe_int (nomark _)) (pw_or1 (pt_cmpR op_gt (pv 0) (pe_glob (v := .int (5)) rfl T.c_LARGEST_SIZE ⟨_, rfl⟩) (nomark _))))) (pss_one (ps_ret (pe_glob (v := .int (-2)) rfl T.c_WRONG_SIZE ⟨_, rfl⟩))) pss_nil) (pss_cons (ps_for PassesOwn.never rfl (pi_list (pv 1)) (pg_name (i := 2) sc_refusal.nd rfl (by first | exact Or.inl rfl | exact Or.inr rfl)) (pss_one (ps_for PassesOwn.never rfl (pi_list (pv 2)) (pg_name (i := 3) sc_refusal.nd rfl (by first | exact Or.inl rfl | exact Or.inr rfl)) (pss_one (ps_if (pt_cmpR op_gt (pe_callB call_abs (by rfl) T.b_abs (by decide +kernel) (pa_cons (pv 3) pa_nil)) (pe_glob (v := .int (1000)) rfl T.c_LARGEST_NUMBER ⟨_, rfl⟩) (nomark _)) (pss_one (ps_ret (pe_glob (v := .int (-3)) rfl T.c_WRONG_ROWS ⟨_, rfl⟩))) pss_nil))))) (pss_one (ps_ret pe_int)))), ?_⟩
  refine spF_body h fun ⟨n, ls⟩ _ => ?_
  dsimp only
  refine ex_seq (ex_if (et_or (et_test (ev_int0 (ev_var rfl) (ev_c _))) fun _ => et_test (ev_int0 (ev_var rfl) (ev_c _))) (fun h => ?_) (fun h => ?_))
  · rw [Bool.or_eq_true, decide_eq_true_eq, decide_eq_true_eq] at h
    refine ex_ret (ev_c _) ?_
    show MP.le _ (MP.i (refuse n ls))
    unfold refuse
    rw [if_pos h]
    exact MP.le.rfl
  · rw [Bool.or_eq_false_iff, decide_eq_false_iff_not, decide_eq_false_iff_not] at h
    have hn : ¬ (n < 1 ∨ n > 5) := fun z => z.elim h.1 h.2
    refine ex_next ?_
    show Ex _ _ _
    have hE : ∀ xs ∈ ls, within xs = false → refuse n ls = -3 := fun xs hx hw => by
      unfold refuse
      rw [if_neg hn, if_neg]
      intro z
      rw [List.all_eq_true.mp z xs hx] at hw
      cases hw
    refine ex_seq (ex_for_map ls (MP.il K) (fun i C' => (∃ x y, C' = [.im (.i n), .im (.ill K ls), x, y]) ∧ (ls.take i).all within = true) (ei_list (ev_var rfl)) ⟨⟨_, _, rfl⟩, rfl⟩ (fun i xs C' hx hI => ?_) (fun C' hI => ?_))
    · obtain ⟨⟨x, y, rfl⟩, ha⟩ := hI
      refine ⟨[2], _, eg_name, ?_⟩
      refine ex_for_map xs MP.i (fun j C' => (∃ y, C' = [.im (.i n), .im (.ill K ls), .im (.il K xs), y]) ∧ within (xs.take j) = true) (ei_list (ev_var rfl)) ⟨⟨_, rfl⟩, rfl⟩ (fun j z C' hz hJ => ?_) (fun C' hJ => ?_)
      · obtain ⟨⟨y, rfl⟩, hb⟩ := hJ
        refine ⟨[3], _, eg_name, ?_⟩
        refine ex_if (et_test (ev_int0 (ev_abs (ea_cons (ev_var rfl) ea_nil)) (ev_c _))) (fun h => ?_) (fun h => ?_)
        · have h' := of_decide_eq_true h
          refine ex_ret (ev_c _) ?_
          rw [hE xs (List.mem_of_getElem? hx) ?_]
          · exact MP.le.rfl
          · unfold within
            rw [Bool.eq_false_iff]
            intro q
            have := List.all_eq_true.mp q z (List.mem_of_getElem? hz)
            rw [decide_eq_true_eq] at this
            split at h' <;> omega
        · have h' := of_decide_eq_false h
          refine ex_next ⟨⟨_, rfl⟩, ?_⟩
          unfold within at hb ⊢
          rw [List.take_add_one, hz, List.all_append, hb]
          simp only [Option.toList_some, List.all_cons, List.all_nil, Bool.and_true, Bool.true_and, decide_eq_true_eq]
          split at h' <;> omega
      · obtain ⟨⟨y, rfl⟩, hb⟩ := hJ
        rw [List.take_length] at hb
        refine ⟨⟨_, _, rfl⟩, ?_⟩
        rw [List.take_add_one, hx, List.all_append, ha]
        simp [hb]
    · obtain ⟨⟨x, y, rfl⟩, ha⟩ := hI
      rw [List.take_length] at ha
      refine ex_ret (ev_c _) ?_
      show MP.le _ (MP.i (refuse n ls))
      unfold refuse
      rw [if_neg hn, if_pos ha]
      exact MP.le.rfl
end

/-! ## grid_refusal -/
section
variable {P : Program} {w : World} {K : PySem.W.Frag} {mg : Str → Option Value} {base : Heap}
theorem within_big {b : List Int} (h : within b = true) {n : Nat} : Mx.Big 10 (Si18Neutral.rowsOf (n : Int) b) := fun r hr x hx => by
  have := List.all_eq_true.mp h x (Mx.rowsOf_mem hr hx)
  rw [decide_eq_true_eq] at this
  omega
def flat (n : Int) (b : List Int) : Bool := decide (Si18.det n.toNat (Si18Neutral.rowsOf n b) = 0)
def gref (n : Int) (ls : List (List Int)) : Int := if refuse n ls ≠ 0 then refuse n ls else if ls.all (fun b => !flat n b) = true then 0 else -3
theorem refuse_zero {n : Int} {ls : List (List Int)} (h : refuse n ls = 0) : ¬ (n < 1 ∨ n > 5) ∧ ls.all within = true := by
  have hn : ¬ (n < 1 ∨ n > 5) := fun z => by
    unfold refuse at h
    rw [if_pos z] at h
    cases h
  refine ⟨hn, ?_⟩
  unfold refuse at h
  rw [if_neg hn] at h
  by_cases hb : ls.all within = true
  · exact hb
  · rw [if_neg hb] at h
    cases h
def spGrid (K : PySem.W.Frag) : Sp := spF (fun (c : Int × List (List Int)) => 1 ≤ c.1 → c.1 ≤ 5 → ∀ b ∈ c.2, (b.length : Int) = c.1 * c.1) (fun c => [.i c.1, .ill K c.2]) (fun c => .i (gref c.1 c.2))
theorem ok_grid_refusal (T : Txt K mg) : FnOk P w K mg base CX0 20 T.a_grid_refusal T.d_grid_refusal ["n", "grids"] (spGrid K) := by
  have G_refusal := ok_refusal (P := P) (w := w) (base := base) T
  have G_split_rows := ok_split_rows (P := P) (w := w) (base := base) T
  have G_determinant := det_all (P := P) (w := w) (base := base) T 6
  refine T.x_grid_refusal.F.ok (k := 19) sc_grid_refusal (spF_len fun _ => rfl) (fun cdv A outer s H vs Q E hr h => ?_)
  refine ⟨_, (pss_cons (ps_set (i := 2) sc_grid_refusal.nd rfl (by first | exact Or.inl rfl | exact Or.inr rfl) (pe_call G_refusal (hr.mono (by omega)) rfl T.x_refusal.g T.x_refusal.F.kp T.x_refusal.b .nil pass0 (pa_cons (pv 0) (pa_cons (pv 1) pa_nil)))) (pss_cons (ps_if (pt_cmpR op_ne (pv 2) pe_int (nomark _)) (pss_one (ps_ret (pv 2))) pss_nil) (pss_cons (ps_for PassesOwn.never rfl (pi_list (pv 1)) (pg_name (i := 3) sc_grid_refusal.nd rfl (by first | exact Or.inl rfl | exact Or.inr rfl)) (pss_one (ps_if (pt_cmpR op_eq (pe_call G_determinant (hr.mono (by omega)) rfl T.x_determinant.g T.x_determinant.F.kp T.x_determinant.b .nil pass0 (pa_cons (pe_call G_split_rows (hr.mono (by omega)) rfl T.x_split_rows.g T.x_split_rows.F.kp T.x_split_rows.b .nil pass0 (pa_cons (pv 0) (pa_cons (pv 3) pa_nil))) pa_nil)) pe_int (nomark _)) (pss_one (ps_ret (pe_glob (v := .int (-3)) rfl T.c_WRONG_ROWS ⟨_, rfl⟩))) pss_nil))) (pss_one (ps_ret pe_int))))), ?_⟩
  refine spF_body h fun ⟨n, ls⟩ pre => ?_
  dsimp only at pre ⊢
  refine ex_seq (ex_set (ev_call (n, ls) (ea_cons (ev_var rfl) (ea_cons (ev_var rfl) ea_nil)) trivial) ?_)
  show Ex _ _ _
  refine ex_seq (ex_if (et_test (ev_ne (ev_var rfl) (ev_c _) rfl)) (fun h => ?_) (fun h => ?_))
  · refine ex_ret (ev_var rfl) ?_
    show MP.le (MP.i (refuse n ls)) (MP.i (gref n ls))
    unfold gref
    rw [if_pos (fun z => by rw [z] at h; cases h)]
    exact MP.le.rfl
  · refine ex_next ?_
    show Ex _ _ _
    have h' : refuse n ls = 0 := by
      have z := of_decide_eq_true (by simpa using h : decide (V.int (refuse n ls) = V.int 0) = true)
      injection z
    obtain ⟨hn, hw⟩ := refuse_zero h'
    obtain ⟨m, rfl⟩ : ∃ m : Nat, n = (m : Int) := ⟨n.toNat, by omega⟩
    have pre' := pre (by omega) (by omega)
    refine ex_seq (ex_for_map ls (MP.il K) (fun i C' => (∃ y, C' = [.im (.i (m : Int)), .im (.ill K ls), .im (.i (refuse (m : Int) ls)), y]) ∧ (ls.take i).all (fun b => !flat (m : Int) b) = true) (ei_list (ev_var rfl)) ⟨⟨_, rfl⟩, rfl⟩ (fun i b C' hb hI => ?_) (fun C' hI => ?_))
    · obtain ⟨⟨y, rfl⟩, ha⟩ := hI
      have hm := List.mem_of_getElem? hb
      have hl : b.length = m * m := by
        have := pre' b hm
        rw [← Int.natCast_mul] at this
        omega
      have hin : within b = true := List.all_eq_true.mp hw b hm
      refine ⟨[3], _, eg_name, ?_⟩
      refine ex_if (et_test (ev_eq (ev_call (m, Si18Neutral.rowsOf (m : Int) b, 10) (ea_cons ((ev_call (m, b) (ea_cons (ev_var rfl) (ea_cons (ev_var rfl) ea_nil)) ⟨by dsimp only; omega, hl⟩).le (MP.rows_ill _)) ea_nil) ⟨by dsimp only; omega, ⟨Mx.rowsOf_length m b, Mx.rowsOf_wide hl⟩, by omega, within_big hin, by show 10 ≤ 10000; decide⟩) (ev_c _) rfl)) (fun h => ?_) (fun h => ?_)
      · refine ex_ret (ev_c _) ?_
        show MP.le (MP.i (-3)) (MP.i (gref (m : Int) ls))
        unfold gref
        rw [if_neg (by rw [h']; decide), if_neg]
        · exact MP.le.rfl
        · intro z
          have q := List.all_eq_true.mp z b hm
          have h2 := of_decide_eq_true h
          injection h2 with h2
          dsimp only at h2
          unfold flat at q
          rw [Int.toNat_natCast, decide_eq_true h2] at q
          cases q
      · refine ex_next ⟨⟨_, rfl⟩, ?_⟩
        have h2 := of_decide_eq_false h
        rw [List.take_add_one, hb, List.all_append, ha]
        have e : flat (m : Int) b = false := by
          unfold flat
          rw [Int.toNat_natCast, decide_eq_false]
          exact fun z => h2 (congrArg V.int z)
        simp [e]
    · obtain ⟨⟨y, rfl⟩, ha⟩ := hI
      rw [List.take_length] at ha
      refine ex_ret (ev_c _) ?_
      show MP.le (MP.i 0) (MP.i (gref (m : Int) ls))
      unfold gref
      rw [if_neg (by rw [h']; decide), if_pos ha]
      exact MP.le.rfl
theorem gref_zero {n : Int} {ls : List (List Int)} (h : gref n ls = 0) : ¬ (n < 1 ∨ n > 5) ∧ ls.all within = true ∧ ls.all (fun b => !flat n b) = true := by
  unfold gref at h
  by_cases hr : refuse n ls ≠ 0
  · rw [if_pos hr] at h
    exact absurd h hr
  · rw [if_neg hr] at h
    have hr' : refuse n ls = 0 := Classical.not_not.mp hr
    refine ⟨(refuse_zero hr').1, (refuse_zero hr').2, ?_⟩
    by_cases ha : ls.all (fun b => !flat n b) = true
    · exact ha
    · rw [if_neg ha] at h
      cases h
theorem gref_bad {n : Int} {ls : List (List Int)} (h : n < 1 ∨ n > 5) : gref n ls = -2 := by
  have e : refuse n ls = -2 := by unfold refuse; rw [if_pos h]
  unfold gref
  rw [if_pos (by rw [e]; decide), e]
theorem gref_not {n : Int} {ls : List (List Int)} (hn : ¬ (n < 1 ∨ n > 5)) (h : gref n ls ≠ 0) : gref n ls = -3 ∧ ¬ (ls.all within = true ∧ ls.all (fun b => !flat n b) = true) := by
  unfold gref at h ⊢
  by_cases hr : refuse n ls ≠ 0
  · rw [if_pos hr]
    unfold refuse at hr ⊢
    rw [if_neg hn] at hr ⊢
    by_cases hw : ls.all within = true
    · rw [if_pos hw] at hr
      exact absurd rfl hr
    · rw [if_neg hw]
      exact ⟨rfl, fun z => hw z.1⟩
  · rw [if_neg hr] at h ⊢
    by_cases ha : ls.all (fun b => !flat n b) = true
    · rw [if_pos ha] at h
      exact absurd rfl h
    · rw [if_neg ha]
      exact ⟨rfl, fun z => ha z.2⟩
end

/-! ## lies_within -/
section
variable {P : Program} {w : World} {K : PySem.W.Frag} {mg : Str → Option Value} {base : Heap}
def spLies (K : PySem.W.Frag) : Sp := spF (fun (c : Nat × Mx.Rows × Mx.Rows) => c.1 ≤ 5 ∧ Mx.Sqr c.1 c.2.1 ∧ Mx.Sqr c.1 c.2.2 ∧ Mx.Big 10 c.2.1 ∧ Mx.Big 10 c.2.2 ∧ Si18.det c.1 c.2.2 ≠ 0) (fun c => [.ill K c.2.1, .ill K c.2.2]) (fun c => .b (c.2.1.all (Si18.onGrid c.1 c.2.2)))
theorem ok_lies_within (T : Txt K mg) : FnOk P w K mg base CX0 20 T.a_lies_within T.d_lies_within ["inner", "outer"] (spLies K) := by
  have G_product := ok_product (P := P) (w := w) (base := base) T
  have G_determinant := det_all (P := P) (w := w) (base := base) T 6
  have G_cofactors := ok_cofactors (P := P) (w := w) (base := base) T (ok_cofactor T (det_all T 5))
  refine T.x_lies_within.F.ok (k := 19) sc_lies_within (spF_len fun _ => rfl) (fun cdv A outer s H vs Q E hr h => ?_)
  refine ⟨_, (pss_cons (ps_set (i := 2) sc_lies_within.nd rfl (by first | exact Or.inl rfl | exact Or.inr rfl) (pe_call G_determinant (hr.mono (by omega)) rfl T.x_determinant.g T.x_determinant.F.kp T.x_determinant.b .nil pass0 (pa_cons (pv 1) pa_nil))) (pss_cons (ps_for PassesOwn.never rfl (pi_range1 rfl T.b_range (pa_cons (pe_callB (r := rLenQ K) call_len_seq (by rfl) T.b_len PySem.boot_len (pa_cons (pv 1) pa_nil)) pa_nil)) (pg_name (i := 3) sc_lies_within.nd rfl (by first | exact Or.inl rfl | exact Or.inr rfl)) (pss_cons (ps_set (i := 4) sc_lies_within.nd rfl (by first | exact Or.inl rfl | exact Or.inr rfl) (pe_call G_cofactors (hr.mono (by omega)) rfl T.x_cofactors.g T.x_cofactors.F.kp T.x_cofactors.b .nil pass0 (pa_cons (pv 1) (pa_cons (pv 3) pa_nil)))) (pss_one (ps_for PassesOwn.never rfl (pi_list (pv 0)) (pg_name (i := 5) sc_lies_within.nd rfl (by first | exact Or.inl rfl | exact Or.inr rfl)) (pss_one (ps_if (pt_cmpR op_ne (pe_op op_modN (pe_call G_product (hr.mono (by omega)) rfl T.x_product.g T.x_product.F.kp T.x_product.b .nil pass0 (pa_cons (pv 5) (pa_cons (pv 4) pa_nil))) (pv 2)) pe_int (nomark _)) (pss_one (ps_ret pe_bl)) pss_nil)))))) (pss_one (ps_ret pe_bl)))), ?_⟩
  refine spF_body h fun ⟨n, a, b⟩ ⟨hn, sa, sb, ba, bb, hd⟩ => ?_
  dsimp only at hn sa sb ba bb hd ⊢
  have pb : DetPre n b 10 := ⟨sb, hn, bb, by decide⟩
  have hl : (b.map (MP.il K)).length = n := by rw [List.length_map]; exact sb.len
  refine ex_seq (ex_set (ev_call (n, b, 10) (ea_cons (ev_var rfl) ea_nil) ⟨by dsimp only; omega, pb⟩) ?_)
  show Ex _ _ _
  refine ex_seq (ex_for_map (List.range n) (fun i => .i (i : Nat)) (fun i C' => (∃ x y z, C' = [.im (.ill K a), .im (.ill K b), .im (.i (Si18.det n b)), x, y, z]) ∧ ∀ p, p < i → ∀ x ∈ a, Si18.dot x (Mx.cofs n b p) % Si18.det n b = 0)
    (Ei.of_eq (ei_range1 (ea_cons (ev_len (ea_cons (ev_var rfl) ea_nil)) ea_nil) (by rw [hl]; omega) (by rw [hl]; omega)) (by rw [hl]; rfl)) ⟨⟨_, _, _, rfl⟩, fun p hp => absurd hp (Nat.not_lt_zero _)⟩ (fun i p C' hp hI => ?_) (fun C' hI => ?_))
  · obtain ⟨⟨x, y, z, rfl⟩, hI⟩ := hI
    have hi : i < n := by
      have := (List.getElem?_eq_some_iff.mp hp).1
      simpa using this
    have e : p = i := by
      rw [List.getElem?_range hi] at hp
      exact (Option.some.inj hp).symm
    subst e
    refine ⟨[3], _, eg_name, ?_⟩
    refine ex_seq (ex_set (ev_call (n, b, 10, p) (ea_cons (ev_var rfl) (ea_cons (ev_var rfl) ea_nil)) ⟨hn, pb, hi⟩) ?_)
    refine ex_for_map a (MP.il K) (fun j C' => (∃ z, C' = [.im (.ill K a), .im (.ill K b), .im (.i (Si18.det n b)), .im (.i (p : Int)), .im (.row (Mx.cofs n b p)), z]) ∧ ∀ x ∈ a.take j, Si18.dot x (Mx.cofs n b p) % Si18.det n b = 0) (ei_list (ev_var rfl)) ⟨⟨_, rfl⟩, by simp⟩ (fun j x C' hx hJ => ?_) (fun C' hJ => ?_)
    · obtain ⟨⟨z, rfl⟩, hJ⟩ := hJ
      have hm := List.mem_of_getElem? hx
      have hb1 : n * (10 + 3) + 1 ≤ 66 := by
        have := Nat.mul_le_mul_right 13 hn
        omega
      refine ⟨[5], _, eg_name, ?_⟩
      refine ex_if (et_test (ev_ne (ev_int (ev_call (x, Mx.cofs n b p, 10, n * (10 + 3) + 1) (ea_cons (ev_var rfl) (ea_cons (Ev.sq (ev_var rfl)) ea_nil)) ⟨ba x hm, Mx.cofs_big bb (by omega) p, by dsimp only; omega, by dsimp only; rw [sa.wide x hm]; omega⟩) (ev_var rfl) hd) (ev_c _) rfl)) (fun h => ?_) (fun h => ?_)
      · refine ex_ret (ev_c _) ?_
        show MP.le (MP.b false) (MP.b (a.all (Si18.onGrid n b)))
        have e : a.all (Si18.onGrid n b) = false := by
          rw [Bool.eq_false_iff]
          intro q
          have q1 := List.all_eq_true.mp q x hm
          have q2 := Mx.onGrid_iff.mp q1 p hi
          rw [Bool.not_eq_true', decide_eq_false_iff_not] at h
          exact h (congrArg V.int (Mx.fmod_zero.mpr q2))
        rw [e]
        exact MP.le.rfl
      · refine ex_next ⟨⟨_, rfl⟩, fun y hy => ?_⟩
        rw [List.take_add_one, hx, List.mem_append] at hy
        rcases hy with hy | hy
        · exact hJ y hy
        · have : y = x := by simpa using hy
          subst this
          rw [Bool.not_eq_false', decide_eq_true_eq] at h
          injection h with h
          exact Mx.fmod_zero.mp h
    · obtain ⟨⟨z, rfl⟩, hJ⟩ := hJ
      rw [List.take_length] at hJ
      refine ⟨⟨_, _, _, rfl⟩, fun q hq => ?_⟩
      rcases Nat.lt_or_eq_of_le (Nat.le_of_lt_succ hq) with hq | hq
      · exact hI q hq
      · rw [hq]; exact hJ
  · obtain ⟨⟨x, y, z, rfl⟩, hI⟩ := hI
    rw [List.length_range] at hI
    refine ex_ret (ev_c _) ?_
    show MP.le (MP.b true) (MP.b (a.all (Si18.onGrid n b)))
    have e : a.all (Si18.onGrid n b) = true := List.all_eq_true.mpr fun x hx => Mx.onGrid_iff.mpr fun p hp => hI p hp x hx
    rw [e]
    exact MP.le.rfl
/-! ## same -/
def spMain (K : PySem.W.Frag) : Sp := spF (fun (c : Int × List Int × List Int) => PySi18.same_asked c.1 c.2.1 c.2.2 = true) (fun c => [.i c.1, .il K c.2.1, .il K c.2.2]) (fun c => .row (PySi18.same c.1 c.2.1 c.2.2))
theorem ok_same (T : Txt K mg) : FnOk P w K mg base CX0 22 T.a_same T.d_same ["n", "a", "b"] (spMain K) := by
  have G_grid_refusal := ok_grid_refusal (P := P) (w := w) (base := base) T
  have G_split_rows := ok_split_rows (P := P) (w := w) (base := base) T
  have G_lies_within := ok_lies_within (P := P) (w := w) (base := base) T
  refine T.x_same.F.ok (k := 21) sc_same (spF_len fun _ => rfl) (fun cdv A outer s H vs Q E hr h => ?_)
  refine ⟨_, (pss_cons (ps_set (i := 3) sc_same.nd rfl (by first | exact Or.inl rfl | exact Or.inr rfl) (pe_call G_grid_refusal (hr.mono (by omega)) rfl T.x_grid_refusal.g T.x_grid_refusal.F.kp T.x_grid_refusal.b .nil pass0 (pa_cons (pv 0) (pa_cons (pe_lst (pa_cons (pv 1) (pa_cons (pv 2) pa_nil))) pa_nil)))) (pss_cons (ps_if (pt_cmpR op_ne (pv 3) pe_int (nomark _)) (pss_one (ps_ret (pe_lst (pa_cons (pv 3) pa_nil)))) pss_nil) (pss_cons (ps_set (i := 4) sc_same.nd rfl (by first | exact Or.inl rfl | exact Or.inr rfl) (pe_call G_split_rows (hr.mono (by omega)) rfl T.x_split_rows.g T.x_split_rows.F.kp T.x_split_rows.b .nil pass0 (pa_cons (pv 0) (pa_cons (pv 1) pa_nil)))) (pss_cons (ps_set (i := 5) sc_same.nd rfl (by first | exact Or.inl rfl | exact Or.inr rfl) (pe_call G_split_rows (hr.mono (by omega)) rfl T.x_split_rows.g T.x_split_rows.F.kp T.x_split_rows.b .nil pass0 (pa_cons (pv 0) (pa_cons (pv 2) pa_nil)))) (pss_cons (ps_set (i := 6) sc_same.nd rfl (by first | exact Or.inl rfl | exact Or.inr rfl) (pe_and (pe_call G_lies_within (hr.mono (by omega)) rfl T.x_lies_within.g T.x_lies_within.F.kp T.x_lies_within.b .nil pass0 (pa_cons (pv 4) (pa_cons (pv 5) pa_nil))) (pe_one (pe_call G_lies_within (hr.mono (by omega)) rfl T.x_lies_within.g T.x_lies_within.F.kp T.x_lies_within.b .nil pass0 (pa_cons (pv 5) (pa_cons (pv 4) pa_nil)))))) (pss_one (ps_ret (pe_lst (pa_cons (pe_ifExp (pt_val (pv 6)) pe_int pe_int) pa_nil))))))))), ?_⟩
  refine spF_body h fun ⟨n, a, b⟩ ask => ?_
  dsimp only at ask ⊢
  have lens : 1 ≤ n → n ≤ 5 → ∀ l ∈ [a, b], (l.length : Int) = n * n := fun h1 h5 l hl => by
    obtain ⟨m, rfl⟩ : ∃ m : Nat, n = (m : Int) := ⟨n.toNat, by omega⟩
    have := Mx.same_len ask (by omega) (by omega)
    rw [← Int.natCast_mul]
    simp only [List.mem_cons, List.not_mem_nil, or_false] at hl
    rcases hl with rfl | rfl
    · exact congrArg _ this.1
    · exact congrArg _ this.2
  refine ex_seq (ex_set (ev_call (n, [a, b]) (ea_cons (ev_var rfl) (ea_cons (Ev.sq (ev_lst (ea_cons (ev_var rfl) (ea_cons (ev_var rfl) ea_nil)) (by show 2 ≤ sizeLine; decide))) ea_nil)) lens) ?_)
  show Ex _ _ _
  refine ex_seq (ex_if (et_test (ev_ne (ev_var rfl) (ev_c _) rfl)) (fun h => ?_) (fun h => ?_))
  · refine ex_ret (ev_lst (ea_cons (ev_var rfl) ea_nil) (by show 1 ≤ sizeLine; decide)) ?_
    show MP.le (MP.row [gref n [a, b]]) (MP.row (PySi18.same n a b))
    have h' : gref n [a, b] ≠ 0 := fun z => by
      rw [z] at h
      cases h
    have e : [gref n [a, b]] = PySi18.same n a b := by
      by_cases hn : n < 1 ∨ n > 5
      · rw [Mx.same_bad hn, gref_bad hn]
      · obtain ⟨e1, e2⟩ := gref_not hn h'
        obtain ⟨m, rfl⟩ : ∃ m : Nat, n = (m : Int) := ⟨n.toNat, by omega⟩
        have hl := Mx.same_len ask (by omega) (by omega)
        rw [e1, Mx.same_good hl.1 hl.2 (by omega) (by omega), if_neg]
        intro z
        refine e2 ?_
        simp only [List.all_cons, List.all_nil, Bool.and_true]
        unfold flat within
        rw [Int.toNat_natCast]
        simpa [and_assoc, and_left_comm, and_comm] using z
    rw [e]
    exact MP.le.rfl
  · refine ex_next ?_
    show Ex _ _ _
    have h' : gref n [a, b] = 0 := by
      have z := of_decide_eq_true (by simpa using h : decide (V.int (gref n [a, b]) = V.int 0) = true)
      injection z
    obtain ⟨hn, hw, hf⟩ := gref_zero h'
    obtain ⟨m, rfl⟩ : ∃ m : Nat, n = (m : Int) := ⟨n.toNat, by omega⟩
    obtain ⟨la, lb⟩ := Mx.same_len ask (by omega) (by omega)
    simp only [List.all_cons, List.all_nil, Bool.and_true, Bool.and_eq_true] at hw hf
    have da : Si18.det m (Si18Neutral.rowsOf (m : Int) a) ≠ 0 := fun z => by
      have := hf.1
      unfold flat at this
      rw [Int.toNat_natCast, decide_eq_true z] at this
      cases this
    have db : Si18.det m (Si18Neutral.rowsOf (m : Int) b) ≠ 0 := fun z => by
      have := hf.2
      unfold flat at this
      rw [Int.toNat_natCast, decide_eq_true z] at this
      cases this
    have sqa : Mx.Sqr m (Si18Neutral.rowsOf (m : Int) a) := ⟨Mx.rowsOf_length m a, Mx.rowsOf_wide la⟩
    have sqb : Mx.Sqr m (Si18Neutral.rowsOf (m : Int) b) := ⟨Mx.rowsOf_length m b, Mx.rowsOf_wide lb⟩
    refine ex_seq (ex_set ((ev_call (m, a) (ea_cons (ev_var rfl) (ea_cons (ev_var rfl) ea_nil)) ⟨by dsimp only; omega, la⟩).le (MP.rows_ill (K := K) _)) ?_)
    refine ex_seq (ex_set ((ev_call (m, b) (ea_cons (ev_var rfl) (ea_cons (ev_var rfl) ea_nil)) ⟨by dsimp only; omega, lb⟩).le (MP.rows_ill (K := K) _)) ?_)
    refine ex_seq (ex_set (ev_andV (ev_call (m, Si18Neutral.rowsOf (m : Int) a, Si18Neutral.rowsOf (m : Int) b) (ea_cons (ev_var rfl) (ea_cons (ev_var rfl) ea_nil)) ⟨by omega, sqa, sqb, within_big hw.1, within_big hw.2, db⟩) fun _ =>
      ev_call (m, Si18Neutral.rowsOf (m : Int) b, Si18Neutral.rowsOf (m : Int) a) (ea_cons (ev_var rfl) (ea_cons (ev_var rfl) ea_nil)) ⟨by omega, sqb, sqa, within_big hw.2, within_big hw.1, da⟩) ?_)
    show Ex _ _ _
    refine ex_ret (F := .row (PySi18.same (m : Int) a b)) (Ev.of_eq (ev_lst (ea_cons (F := .i (if Si18.sameB m (Si18Neutral.rowsOf (m : Int) a) (Si18Neutral.rowsOf (m : Int) b) = true then 1 else 0)) (ev_if (et_b (ev_var rfl)) (fun h => Ev.of_eq (ev_c _) ?_) (fun h => Ev.of_eq (ev_c _) ?_)) ea_nil) (by show 1 ≤ sizeLine; decide)) ?_) MP.le.rfl
    · unfold Si18.sameB
      rw [if_pos h]
    · unfold Si18.sameB
      rw [if_neg (by rw [show _ = false from h]; decide)]
    · rw [Mx.same_good la lb (by omega) (by omega)]
      show MP.row [if Si18.sameB m (Si18Neutral.rowsOf (m : Int) a) (Si18Neutral.rowsOf (m : Int) b) = true then 1 else 0] = _
      refine congrArg MP.row (if_pos ?_).symm
      simp only [Bool.and_eq_true, bne_iff_ne, ne_eq]
      exact ⟨⟨hw.1, da⟩, hw.2, db⟩
end
/-! ### The end -/
theorem all_mk {P : Program} {w : World} {K : PySem.W.Frag} {h : Heap} {mg : Str → Option Value} {fa f1 f2 f3 f4 f5 f6 f7 f8 f9 f10 : Addr} (X : K.In h) (G : h.Ns mainGlobals mg) (hfa : mg "same" = some (.ref fa))
    {od1 od2 od3 od4 od5 od6 od7 od8 od9 od10 an1 an2 an3 an4 an5 an6 an7 an8 an9 an10 : Option Addr} {sl1 sl2 sl3 sl4 sl5 sl6 sl7 sl8 sl9 sl10 : Array (Option Value)} {oc1 kV1 dc1 pm1 cd1 ct1 oc2 kV2 dc2 pm2 cd2 ct2 oc3 kV3 dc3 pm3 cd3 ct3 oc4 kV4 dc4 pm4 cd4 ct4 oc5 kV5 dc5 pm5 cd5 ct5 oc6 kV6 dc6 pm6 cd6 ct6 oc7 kV7 dc7 pm7 cd7 ct7 oc8 kV8 dc8 pm8 cd8 ct8 oc9 kV9 dc9 pm9 cd9 ct9 oc10 kV10 dc10 pm10 cd10 ct10 : Value} {t_LARGEST_SIZE t_LARGEST_NUMBER t_WRONG_SIZE t_WRONG_ROWS : Tok}
    (a1 : PySem.W.nsIn K mainGlobals "split_rows" = some (some (.ref f1))) (l1 : K.lookup f1 = some ⟨oc1, od1, .func (PySem.W.fnOf "split_rows" "split_rows" (defArgs (S "split_rows")) (defBody (S "split_rows")) (defScope (S "split_rows")) .none kV1 dc1 pm1 an1 cd1 ct1), sl1⟩) (c1 : PySem.W.codeIn K cd1 "split_rows" = true) (k1 : PySem.W.keepIn K (.ref f1) = true)
    (a2 : PySem.W.nsIn K mainGlobals "product" = some (some (.ref f2))) (l2 : K.lookup f2 = some ⟨oc2, od2, .func (PySem.W.fnOf "product" "product" (defArgs (S "product")) (defBody (S "product")) (defScope (S "product")) .none kV2 dc2 pm2 an2 cd2 ct2), sl2⟩) (c2 : PySem.W.codeIn K cd2 "product" = true) (k2 : PySem.W.keepIn K (.ref f2) = true)
    (a3 : PySem.W.nsIn K mainGlobals "without" = some (some (.ref f3))) (l3 : K.lookup f3 = some ⟨oc3, od3, .func (PySem.W.fnOf "without" "without" (defArgs (S "without")) (defBody (S "without")) (defScope (S "without")) .none kV3 dc3 pm3 an3 cd3 ct3), sl3⟩) (c3 : PySem.W.codeIn K cd3 "without" = true) (k3 : PySem.W.keepIn K (.ref f3) = true)
    (a4 : PySem.W.nsIn K mainGlobals "cofactor" = some (some (.ref f4))) (l4 : K.lookup f4 = some ⟨oc4, od4, .func (PySem.W.fnOf "cofactor" "cofactor" (defArgs (S "cofactor")) (defBody (S "cofactor")) (defScope (S "cofactor")) .none kV4 dc4 pm4 an4 cd4 ct4), sl4⟩) (c4 : PySem.W.codeIn K cd4 "cofactor" = true) (k4 : PySem.W.keepIn K (.ref f4) = true)
    (a5 : PySem.W.nsIn K mainGlobals "cofactors" = some (some (.ref f5))) (l5 : K.lookup f5 = some ⟨oc5, od5, .func (PySem.W.fnOf "cofactors" "cofactors" (defArgs (S "cofactors")) (defBody (S "cofactors")) (defScope (S "cofactors")) .none kV5 dc5 pm5 an5 cd5 ct5), sl5⟩) (c5 : PySem.W.codeIn K cd5 "cofactors" = true) (k5 : PySem.W.keepIn K (.ref f5) = true)
    (a6 : PySem.W.nsIn K mainGlobals "determinant" = some (some (.ref f6))) (l6 : K.lookup f6 = some ⟨oc6, od6, .func (PySem.W.fnOf "determinant" "determinant" (defArgs (S "determinant")) (defBody (S "determinant")) (defScope (S "determinant")) .none kV6 dc6 pm6 an6 cd6 ct6), sl6⟩) (c6 : PySem.W.codeIn K cd6 "determinant" = true) (k6 : PySem.W.keepIn K (.ref f6) = true)
    (a7 : PySem.W.nsIn K mainGlobals "lies_within" = some (some (.ref f7))) (l7 : K.lookup f7 = some ⟨oc7, od7, .func (PySem.W.fnOf "lies_within" "lies_within" (defArgs (S "lies_within")) (defBody (S "lies_within")) (defScope (S "lies_within")) .none kV7 dc7 pm7 an7 cd7 ct7), sl7⟩) (c7 : PySem.W.codeIn K cd7 "lies_within" = true) (k7 : PySem.W.keepIn K (.ref f7) = true)
    (a8 : PySem.W.nsIn K mainGlobals "refusal" = some (some (.ref f8))) (l8 : K.lookup f8 = some ⟨oc8, od8, .func (PySem.W.fnOf "refusal" "refusal" (defArgs (S "refusal")) (defBody (S "refusal")) (defScope (S "refusal")) .none kV8 dc8 pm8 an8 cd8 ct8), sl8⟩) (c8 : PySem.W.codeIn K cd8 "refusal" = true) (k8 : PySem.W.keepIn K (.ref f8) = true)
    (a9 : PySem.W.nsIn K mainGlobals "grid_refusal" = some (some (.ref f9))) (l9 : K.lookup f9 = some ⟨oc9, od9, .func (PySem.W.fnOf "grid_refusal" "grid_refusal" (defArgs (S "grid_refusal")) (defBody (S "grid_refusal")) (defScope (S "grid_refusal")) .none kV9 dc9 pm9 an9 cd9 ct9), sl9⟩) (c9 : PySem.W.codeIn K cd9 "grid_refusal" = true) (k9 : PySem.W.keepIn K (.ref f9) = true)
    (a10 : PySem.W.nsIn K mainGlobals "same" = some (some (.ref f10))) (l10 : K.lookup f10 = some ⟨oc10, od10, .func (PySem.W.fnOf "same" "same" (defArgs (S "same")) (defBody (S "same")) (defScope (S "same")) .none kV10 dc10 pm10 an10 cd10 ct10), sl10⟩) (c10 : PySem.W.codeIn K cd10 "same" = true) (k10 : PySem.W.keepIn K (.ref f10) = true)
    (z_abs : PySem.W.nsIn K mainGlobals "abs" = some none)
    (z_len : PySem.W.nsIn K mainGlobals "len" = some none)
    (z_range : PySem.W.nsIn K mainGlobals "range" = some none)
    (z_sum : PySem.W.nsIn K mainGlobals "sum" = some none)
    (z_zip : PySem.W.nsIn K mainGlobals "zip" = some none)
    (y_LARGEST_SIZE : PySem.W.nsIn K mainGlobals "LARGEST_SIZE" = some (some (.int (5) t_LARGEST_SIZE)))
    (y_LARGEST_NUMBER : PySem.W.nsIn K mainGlobals "LARGEST_NUMBER" = some (some (.int (1000) t_LARGEST_NUMBER)))
    (y_WRONG_SIZE : PySem.W.nsIn K mainGlobals "WRONG_SIZE" = some (some (.int (-2) t_WRONG_SIZE)))
    (y_WRONG_ROWS : PySem.W.nsIn K mainGlobals "WRONG_ROWS" = some (some (.int (-3) t_WRONG_ROWS))) :
    ∃ fd : FuncData, (∀ (s : Shared) (us : List Value), us.length = (["n", "a", "b"] : List Str).length → BindsTo s fd ⟨us, []⟩ ((["n", "a", "b"] : List Str).zip us)) ∧ ∀ base : Heap, K.In base → base.Ns mainGlobals mg → FnOk P w K mg base CX0 22 fa fd ["n", "a", "b"] (spMain K) := by
  have e : f10 = fa := by
    have z := (PySem.W.mg_of X G a10).symm.trans hfa
    injection z with z
    injection z
  subst e
  have F1 := fun_mk (st := S "split_rows") l1 c1 k1
  have b1 := F1.binds (ps := ["n", "numbers"]) fun _ _ _ _ _ _ us hl => match us, hl with | [_, _], _ => by rfl
  have F2 := fun_mk (st := S "product") l2 c2 k2
  have b2 := F2.binds (ps := ["row", "other"]) fun _ _ _ _ _ _ us hl => match us, hl with | [_, _], _ => by rfl
  have F3 := fun_mk (st := S "without") l3 c3 k3
  have b3 := F3.binds (ps := ["rows", "place", "column"]) fun _ _ _ _ _ _ us hl => match us, hl with | [_, _, _], _ => by rfl
  have F4 := fun_mk (st := S "cofactor") l4 c4 k4
  have b4 := F4.binds (ps := ["rows", "place", "column"]) fun _ _ _ _ _ _ us hl => match us, hl with | [_, _, _], _ => by rfl
  have F5 := fun_mk (st := S "cofactors") l5 c5 k5
  have b5 := F5.binds (ps := ["rows", "place"]) fun _ _ _ _ _ _ us hl => match us, hl with | [_, _], _ => by rfl
  have F6 := fun_mk (st := S "determinant") l6 c6 k6
  have b6 := F6.binds (ps := ["rows"]) fun _ _ _ _ _ _ us hl => match us, hl with | [_], _ => by rfl
  have F7 := fun_mk (st := S "lies_within") l7 c7 k7
  have b7 := F7.binds (ps := ["inner", "outer"]) fun _ _ _ _ _ _ us hl => match us, hl with | [_, _], _ => by rfl
  have F8 := fun_mk (st := S "refusal") l8 c8 k8
  have b8 := F8.binds (ps := ["n", "lists"]) fun _ _ _ _ _ _ us hl => match us, hl with | [_, _], _ => by rfl
  have F9 := fun_mk (st := S "grid_refusal") l9 c9 k9
  have b9 := F9.binds (ps := ["n", "grids"]) fun _ _ _ _ _ _ us hl => match us, hl with | [_, _], _ => by rfl
  have F10 := fun_mk (st := S "same") l10 c10 k10
  have b10 := F10.binds (ps := ["n", "a", "b"]) fun _ _ _ _ _ _ us hl => match us, hl with | [_, _, _], _ => by rfl
  have T : Σ' T : Txt K mg, T.a_same = f10 ∧ T.d_same = (PySem.W.fnOf "same" "same" (defArgs (S "same")) (defBody (S "same")) (defScope (S "same")) .none kV10 dc10 pm10 an10 cd10 ct10) := ⟨⟨_, _, ⟨F1, PySem.W.mg_of X G a1, b1⟩, _, _, ⟨F2, PySem.W.mg_of X G a2, b2⟩, _, _, ⟨F3, PySem.W.mg_of X G a3, b3⟩, _, _, ⟨F4, PySem.W.mg_of X G a4, b4⟩, _, _, ⟨F5, PySem.W.mg_of X G a5, b5⟩, _, _, ⟨F6, PySem.W.mg_of X G a6, b6⟩, _, _, ⟨F7, PySem.W.mg_of X G a7, b7⟩, _, _, ⟨F8, PySem.W.mg_of X G a8, b8⟩, _, _, ⟨F9, PySem.W.mg_of X G a9, b9⟩, _, _, ⟨F10, PySem.W.mg_of X G a10, b10⟩, PySem.W.mg_none_of X G z_abs, PySem.W.mg_none_of X G z_len, PySem.W.mg_none_of X G z_range, PySem.W.mg_none_of X G z_sum, PySem.W.mg_none_of X G z_zip, _, PySem.W.mg_of X G y_LARGEST_SIZE, _, PySem.W.mg_of X G y_LARGEST_NUMBER, _, PySem.W.mg_of X G y_WRONG_SIZE, _, PySem.W.mg_of X G y_WRONG_ROWS⟩, rfl, rfl⟩
  obtain ⟨T, e1, e2⟩ := T
  refine ⟨T.d_same, fun s us hu => match us, hu with | [_, _, _], _ => by rw [e2]; exact .of_eq rfl, fun base _ _ => ?_⟩
  rw [← e1]
  exact ok_same T
theorem row_dw {K : PySem.W.Frag} {H : Hp} {v : V} {ns : List Int} (h : (MP.row ns).p H v) : Dw K H v (.list (ns.map PySem.W.WData.int)) := by
  obtain ⟨a, vs, rfl, q, r⟩ := h
  rw [pair_nums r] at q
  exact .lst (SqL.of q) (dw_ints ns)
end Py
open PySem PySem.W PyProof.Rows
set_option maxRecDepth 100000 in
set_option maxHeartbeats 8000000 in
theorem PySem.Challenge.cw_gridsteps_s02_same_holds : PySem.Challenge.rw_gridsteps_s02_same.Holds := by
  w_on; k_headS; (case hw => exact ⟨[.int 0, .list [], .list []], by decide +kernel, by decide +kernel⟩)
  k_fillS
  refine L2.walk_specK (r := PySem.Challenge.rw_gridsteps_s02_same) (k := 22) (CX := L2.CX0) (ps := ["n", "a", "b"]) (sp := Py.spMain) (by decide +kernel) rfl rfl ⟨rfl, by decide, by decide⟩ (fun w h Y => PySem.W.kIn_of Y) ?F ?S (fun _ _ _ _ z => z)
  case F =>
    intro w mg fa h Y KX G hmg
    refine' Py.all_mk KX G hmg ?a1 ?l1 ?c1 ?k1 ?a2 ?l2 ?c2 ?k2 ?a3 ?l3 ?c3 ?k3 ?a4 ?l4 ?c4 ?k4 ?a5 ?l5 ?c5 ?k5 ?a6 ?l6 ?c6 ?k6 ?a7 ?l7 ?c7 ?k7 ?a8 ?l8 ?c8 ?k8 ?a9 ?l9 ?c9 ?k9 ?a10 ?l10 ?c10 ?k10 ?z_abs ?z_len ?z_range ?z_sum ?z_zip ?y_LARGEST_SIZE ?y_LARGEST_NUMBER ?y_WRONG_SIZE ?y_WRONG_ROWS
    (case a1 => k_is)
    (case l1 => k_is)
    (case c1 => k_is)
    (case k1 => k_is)
    (case a2 => k_is)
    (case l2 => k_is)
    (case c2 => k_is)
    (case k2 => k_is)
    (case a3 => k_is)
    (case l3 => k_is)
    (case c3 => k_is)
    (case k3 => k_is)
    (case a4 => k_is)
    (case l4 => k_is)
    (case c4 => k_is)
    (case k4 => k_is)
    (case a5 => k_is)
    (case l5 => k_is)
    (case c5 => k_is)
    (case k5 => k_is)
    (case a6 => k_is)
    (case l6 => k_is)
    (case c6 => k_is)
    (case k6 => k_is)
    (case a7 => k_is)
    (case l7 => k_is)
    (case c7 => k_is)
    (case k7 => k_is)
    (case a8 => k_is)
    (case l8 => k_is)
    (case c8 => k_is)
    (case k8 => k_is)
    (case a9 => k_is)
    (case l9 => k_is)
    (case c9 => k_is)
    (case k9 => k_is)
    (case a10 => k_is)
    (case l10 => k_is)
    (case c10 => k_is)
    (case k10 => k_is)
    (case z_abs => k_is)
    (case z_len => k_is)
    (case z_range => k_is)
    (case z_sum => k_is)
    (case z_zip => k_is)
    (case y_LARGEST_SIZE => k_is)
    (case y_LARGEST_NUMBER => k_is)
    (case y_WRONG_SIZE => k_is)
    (case y_WRONG_ROWS => k_is)
  case S =>
    intro K H xs a hO hwi hask hx
    obtain ⟨n, a, b, u⟩ := a
    cases hx with
    | cons h1 h2 =>
      cases h2 with
      | cons h2 h3 =>
        cases h3 with
        | cons h3 h4 =>
          cases h4
          cases h1
          cases h2 with
          | lst hs ha =>
            cases h3 with
            | lst hs2 hb =>
              have e := L2.ints_dw a _ ha
              have e2 := L2.ints_dw b _ hb
              subst e e2
              exact ⟨H, (n, a, b), hask, L2.Same.refl H, .cons rfl (.cons ⟨_, _, rfl, hs, Py.nums_pair a⟩ (.cons ⟨_, _, rfl, hs2, Py.nums_pair b⟩ .nil)), fun G' H' v e p => Py.row_dw ((Py.MP.row _).m e.gh p)⟩
#print axioms PySem.Challenge.cw_gridsteps_s02_same_holds
