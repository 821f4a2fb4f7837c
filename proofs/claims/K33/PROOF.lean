import PyProof.Rows.All
import Wide.All
import OpenK.AllK
import Wide.FinOn
import HandS.ForMost
import HandS.OwnEq
import HandS.IsInst
import HandS.Property
import HandS.Defaults
import HandS.MakeKw
import HandS.Wide
import HandS.WideBits
import HandS.NoneIn
import HandS.Style
import HandS.Deep
import PySem.Challenge.RW_pressworlds_k33_whole_slides_alike_roots
set_option Elab.async false
set_option linter.all false
set_option maxRecDepth 100000
set_option maxHeartbeats 4000000
/-! DL: Python data as plain data (D), a body run on it (EvM, TM, SM), over the hand layer. -/
namespace DL
open PySem L2

inductive D where
  | non | bl (b : Bool) | int (i : Int) | str (s : Str) | adr (a : Addr) | ty (n : String) | scr (ns : List Int)
  | tup (ds : List D) | lst (ds : List D) | ins (C : Addr) (fs : List (Str × D))

/-- the script: locked, or one of the module's own lists -/
def Sc (K : PySem.W.Frag) (H : Hp) (b : Addr) (ns : List Int) : Prop := (∃ o, H b = some (.frz o (.lst (ns.map V.int)))) ∨ ∀ H' : Hp, SqL K H' b (ns.map V.int)
theorem Sc.ext {K : PySem.W.Frag} {G H : Hp} {b : Addr} {ns : List Int} (h : Sc K G b ns) (e : Ext G H) : Sc K H b ns := h.elim (fun ⟨o, z⟩ => .inl ⟨o, e _ _ z⟩) .inr
theorem Sc.seq {K : PySem.W.Frag} {H : Hp} {b : Addr} {ns : List Int} (h : Sc K H b ns) : SqL K H b (ns.map V.int) := h.elim (fun ⟨o, z⟩ => .inl (.inr ⟨o, z⟩)) fun z => z H
mutual
inductive At (K : PySem.W.Frag) (G : Hp) : V → D → Prop
  | non : At K G .non .non
  | bl (b : Bool) : At K G (.bl b) (.bl b)
  | int (i : Int) : At K G (.int i) (.int i)
  | str (s : Str) : At K G (.str s) (.str s)
  | adr (a : Addr) : At K G (.ref a) (.adr a)
  | ty (n : String) : At K G (.ty n) (.ty n)
  | scr {p : Addr} {ns : List Int} : Sc K G p ns → At K G (.ref p) (.scr ns)
  | tup {p : Addr} {vs : List V} {ds : List D} : SqT K G p vs → AtL K G vs ds → At K G (.ref p) (.tup ds)
  | lst {p : Addr} {vs : List V} {ds : List D} : G p = some (.lst vs) → AtL K G vs ds → At K G (.ref p) (.lst ds)
  | ins {p C dx : Addr} {fs : List (Str × V)} {gs : List (Str × D)} : G p = some (.ins C dx fs) → AtF K G fs gs → At K G (.ref p) (.ins C gs)
inductive AtL (K : PySem.W.Frag) (G : Hp) : List V → List D → Prop
  | nil : AtL K G [] []
  | cons {v : V} {d : D} {vs : List V} {ds : List D} : At K G v d → AtL K G vs ds → AtL K G (v :: vs) (d :: ds)
inductive AtF (K : PySem.W.Frag) (G : Hp) : List (Str × V) → List (Str × D) → Prop
  | nil : AtF K G [] []
  | cons {f : Str} {v : V} {d : D} {vs : List (Str × V)} {ds : List (Str × D)} : At K G v d → AtF K G vs ds → AtF K G ((f, v) :: vs) ((f, d) :: ds)
end

section
variable {K : PySem.W.Frag} {G G' H H' : Hp}
mutual
theorem At.mono (e : Ext G G') : ∀ {v : V} {d : D}, At K G v d → At K G' v d
  | _, _, .non => .non
  | _, _, .bl b => .bl b
  | _, _, .int i => .int i
  | _, _, .str s => .str s
  | _, _, .adr a => .adr a
  | _, _, .ty n => .ty n
  | _, _, .scr h => .scr (h.ext e)
  | _, _, .tup h l => .tup (h.ext e) (AtL.mono e l)
  | _, _, .lst h l => .lst (e _ _ h) (AtL.mono e l)
  | _, _, .ins h l => .ins (e _ _ h) (AtF.mono e l)
theorem AtL.mono (e : Ext G G') : ∀ {vs : List V} {ds : List D}, AtL K G vs ds → AtL K G' vs ds
  | _, _, .nil => .nil
  | _, _, .cons h l => .cons (At.mono e h) (AtL.mono e l)
theorem AtF.mono (e : Ext G G') : ∀ {vs : List (Str × V)} {ds : List (Str × D)}, AtF K G vs ds → AtF K G' vs ds
  | _, _, .nil => .nil
  | _, _, .cons h l => .cons (At.mono e h) (AtF.mono e l)
end
theorem AtL.length {vs : List V} : ∀ {ds : List D}, AtL K G vs ds → vs.length = ds.length := by
  induction vs with
  | nil => intro ds h; cases h; rfl
  | cons v vs ih => intro ds h; cases h with | cons _ l => rw [List.length_cons, List.length_cons, ih l]
theorem AtL.get {vs : List V} : ∀ {ds : List D}, AtL K G vs ds → ∀ {j : Nat} {d : D}, ds[j]? = some d → ∃ v, vs[j]? = some v ∧ At K G v d := by
  induction vs with
  | nil => intro ds h j d e; cases h; simp at e
  | cons v vs ih =>
    intro ds h j d e
    cases h with
    | cons a l =>
      cases j with
      | zero => simp at e; subst e; exact ⟨v, by simp, a⟩
      | succ j => simp at e; obtain ⟨u, h1, h2⟩ := ih l e; exact ⟨u, by simpa using h1, h2⟩
theorem AtL.get' {vs : List V} : ∀ {ds : List D}, AtL K G vs ds → ∀ {j : Nat} {v : V}, vs[j]? = some v → ∃ d, ds[j]? = some d ∧ At K G v d := by
  induction vs with
  | nil => intro ds h j d e; simp at e
  | cons v vs ih =>
    intro ds h j d e
    cases h with
    | cons a l =>
      cases j with
      | zero => simp at e; subst e; exact ⟨_, by simp, a⟩
      | succ j => simp at e; obtain ⟨u, h1, h2⟩ := ih l e; exact ⟨u, by simpa using h1, h2⟩
theorem AtL.append {vs : List V} : ∀ {ds : List D} {us : List V} {es : List D}, AtL K G vs ds → AtL K G us es → AtL K G (vs ++ us) (ds ++ es) := by
  induction vs with
  | nil => intro ds us es h k; cases h; exact k
  | cons v vs ih => intro ds us es h k; cases h with | cons a l => exact .cons a (ih l k)
theorem AtL.take {vs : List V} : ∀ {ds : List D} (n : Nat), AtL K G vs ds → AtL K G (vs.take n) (ds.take n) := by
  induction vs with
  | nil => intro ds n h; cases h; simp; exact .nil
  | cons v vs ih => intro ds n h; cases h with | cons a l => cases n with | zero => exact .nil | succ n => exact .cons a (ih n l)
theorem AtL.drop {vs : List V} : ∀ {ds : List D} (n : Nat), AtL K G vs ds → AtL K G (vs.drop n) (ds.drop n) := by
  induction vs with
  | nil => intro ds n h; cases h; simp; exact .nil
  | cons v vs ih => intro ds n h; cases h with | cons a l => cases n with | zero => exact .cons a l | succ n => exact ih n l
theorem AtF.look {fs : List (Str × V)} : ∀ {gs : List (Str × D)}, AtF K G fs gs → ∀ {f : Str} {d : D}, gs.lookup f = some d → ∃ v, fs.lookup f = some v ∧ At K G v d := by
  induction fs with
  | nil => intro gs h f d e; cases h; simp [List.lookup] at e
  | cons p fs ih =>
    intro gs h f d e
    cases h with
    | cons a l =>
      rename_i f0 v0 d0 ds0
      by_cases hf : (f == f0) = true
      · simp [List.lookup, hf] at e ⊢
        subst e
        exact a
      · have hf' : (f == f0) = false := by simpa using hf
        simp [List.lookup, hf'] at e ⊢
        exact ih l e

/-- the data grow from G to G', the heap from H to H'; what is new among the data was new -/
structure Grow (a : Option Addr) (G H G' H' : Hp) : Prop where
  g : Ext G G'
  h : ∀ b o, some b ≠ a → H b = some o → H' b = some o
  i : Ext G' H'
  n : ∀ b, G' b ≠ none → G b ≠ none ∨ H b = none
theorem Grow.refl {a : Option Addr} (i : Ext G H) : Grow a G H G H := ⟨Ext.rfl', fun _ _ _ h => h, i, fun _ h => .inl h⟩
/-- the drawing list stands at a (if there is one), at most n draws old -/
def Vial (a : Option Addr) (n : Nat) (G H : Hp) : Prop := ∀ b, a = some b → G b = none ∧ ∃ x y z : Int, H b = some (.lst [.int x, .int y, .int z]) ∧ 0 ≤ z ∧ z ≤ n ∧ n ≤ 1000000
theorem Grow.trans {a : Option Addr} {G1 H1 G2 H2 : Hp} {n : Nat} (v : Vial a n G1 H1) (x : Grow a G H G1 H1) (y : Grow a G1 H1 G2 H2) : Grow a G H G2 H2 := by
  refine ⟨x.g.trans y.g, fun b o e h => y.h b o e (x.h b o e h), y.i, fun b h => ?_⟩
  rcases y.n b h with h | h
  · exact x.n b h
  · refine .inr ?_
    cases q : H b with
    | none => rfl
    | some o =>
      by_cases hb : some b = a
      · obtain ⟨_, p, r, s, e, _⟩ := v b hb.symm
        rw [e] at h; cases h
      · rw [x.h b o hb q] at h; cases h
/-- pure growth is growth beside a drawing list, which stays -/
theorem Grow.any {a : Option Addr} (x : Grow none G H G' H') : Grow a G H G' H' := ⟨x.g, fun b o _ h => x.h b o (by simp) h, x.i, x.n⟩
theorem Vial.grow {a : Option Addr} {n : Nat} (v : Vial a n G H) (x : Grow none G H G' H') : Vial a n G' H' := fun b hb => by
  obtain ⟨g, p, q, r, e, h1, h2, h3⟩ := v b hb
  refine ⟨?_, p, q, r, x.h b _ (by simp) e, h1, h2, h3⟩
  cases k : G' b with
  | none => rfl
  | some o =>
    rcases x.n b (by rw [k]; simp) with h | h
    · exact absurd g h
    · rw [e] at h; cases h
theorem Vial.no {n : Nat} : Vial none n G H := fun b h => by cases h
theorem Grow.new {p : Addr} {o : HO} (i : Ext G H) (hp : H p = none) : Grow none G H (upd G p o) (upd H p o) := by
  have gp : G p = none := by
    cases k : G p with
    | none => rfl
    | some u => rw [i p u k] at hp; cases hp
  refine ⟨fun b u e => by rw [upd_ne (ne_of_none e gp)]; exact e, fun b u _ e => by rw [upd_ne (ne_of_none e hp)]; exact e, fun b u e => ?_, fun b h => ?_⟩
  · by_cases hb : b = p
    · subst hb; rw [upd_same] at e ⊢; exact e
    · rw [upd_ne hb] at e ⊢; exact i b u e
  · by_cases hb : b = p
    · subst hb; exact .inr hp
    · rw [upd_ne hb] at h; exact .inl h
/-- a new thing in the heap that is not told -/
theorem Grow.hid {p : Addr} {o : HO} (i : Ext G H) (hp : H p = none) : Grow none G H G (upd H p o) := by
  refine ⟨Ext.rfl', fun b u _ e => by rw [upd_ne (ne_of_none e hp)]; exact e, fun b u e => ?_, fun b h => .inl h⟩
  rw [upd_ne (ne_of_none (i b u e) hp)]
  exact i b u e

/-! ### environments -/
abbrev EnvD := List (Option D)
inductive AtS (K : PySem.W.Frag) (G : Hp) : L2.St → EnvD → Prop
  | nil : AtS K G [] []
  | any {o : Option V} {σ : L2.St} {Γ : EnvD} : AtS K G σ Γ → AtS K G (o :: σ) (none :: Γ)
  | val {v : V} {d : D} {σ : L2.St} {Γ : EnvD} : At K G v d → AtS K G σ Γ → AtS K G (some v :: σ) (some d :: Γ)
theorem AtS.mono (e : Ext G G') {σ : L2.St} : ∀ {Γ : EnvD}, AtS K G σ Γ → AtS K G' σ Γ := by
  induction σ with
  | nil => intro Γ h; cases h; exact .nil
  | cons o σ ih => intro Γ h; cases h with | any l => exact .any (ih l) | val a l => exact .val (a.mono e) (ih l)
theorem AtS.get {σ : L2.St} : ∀ {Γ : EnvD}, AtS K G σ Γ → ∀ {i : Nat} {d : D}, Γ[i]? = some (some d) → ∃ v, σ[i]? = some (some v) ∧ At K G v d := by
  induction σ with
  | nil => intro Γ h i d e; cases h; simp at e
  | cons o σ ih =>
    intro Γ h i d e
    cases h with
    | any l =>
      cases i with
      | zero => simp at e
      | succ i => simp at e; obtain ⟨v, h1, h2⟩ := ih l e; exact ⟨v, by simpa using h1, h2⟩
    | val a l =>
      cases i with
      | zero => simp at e; subst e; exact ⟨_, by simp, a⟩
      | succ i => simp at e; obtain ⟨v, h1, h2⟩ := ih l e; exact ⟨v, by simpa using h1, h2⟩
theorem AtS.set {σ : L2.St} : ∀ {Γ : EnvD} (i : Nat) {v : V} {d : D}, AtS K G σ Γ → At K G v d → AtS K G (σ.set i (some v)) (Γ.set i (some d)) := by
  induction σ with
  | nil => intro Γ i v d h a; cases h; exact .nil
  | cons o σ ih =>
    intro Γ i v d h a
    cases h with
    | any l => cases i with | zero => exact .val a l | succ i => exact .any (ih i l a)
    | val b l => cases i with | zero => exact .val a l | succ i => exact .val b (ih i l a)
theorem AtS.put {σ : L2.St} : ∀ {Γ : EnvD} (i : Nat) {o : Option V}, AtS K G σ Γ → AtS K G (σ.set i o) (Γ.set i none) := by
  induction σ with
  | nil => intro Γ i o h; cases h; exact .nil
  | cons o σ ih =>
    intro Γ i u h
    cases h with
    | any l => cases i with | zero => exact .any l | succ i => exact .any (ih i l)
    | val b l => cases i with | zero => exact .any l | succ i => exact .val b (ih i l)
theorem AtS.rep (n : Nat) : AtS K G (List.replicate n none) (List.replicate n none) := by
  induction n with
  | zero => exact .nil
  | succ n ih => exact .any ih
theorem AtS.app {vs : List V} : ∀ {ds : List D} {σ : L2.St} {Γ : EnvD}, AtL K G vs ds → AtS K G σ Γ → AtS K G (vs.map some ++ σ) (ds.map some ++ Γ) := by
  induction vs with
  | nil => intro ds σ Γ h k; cases h; exact k
  | cons v vs ih => intro ds σ Γ h k; cases h with | cons a l => exact .val a (ih l k)
def startD (N : List Str) (ds : List D) : EnvD := ds.map some ++ List.replicate (N.length - ds.length) none
theorem AtS.start {N : List Str} {vs : List V} {ds : List D} (h : AtL K G vs ds) : AtS K G (L2.start N vs) (startD N ds) := by
  unfold L2.start startD
  rw [h.length]
  exact AtS.app h (AtS.rep _)
theorem AtS.length {σ : L2.St} : ∀ {Γ : EnvD}, AtS K G σ Γ → σ.length = Γ.length := by
  induction σ with
  | nil => intro Γ h; cases h; rfl
  | cons o σ ih => intro Γ h; cases h with | any l => simp [ih l] | val _ l => simp [ih l]
end

/-! ### running on data -/
section
variable (K : PySem.W.Frag) (a : Option Addr)
def EvM (te : TE) (Γ : EnvD) (n : Nat) (Φ : D → Nat → Prop) : Prop := ∀ σ G H, AtS K G σ Γ → Ext G H → Vial a n G H →
  ∀ Q : VK, (∀ v d m G' H', Grow a G H G' H' → Vial a m G' H' → At K G' v d → Φ d m → Q v H') → te σ H Q
def AvM (ta : TA) (Γ : EnvD) (n : Nat) (Φ : List D → Nat → Prop) : Prop := ∀ σ G H, AtS K G σ Γ → Ext G H → Vial a n G H →
  ∀ Q : List V → Hp → Prop, (∀ vs ds m G' H', Grow a G H G' H' → Vial a m G' H' → AtL K G' vs ds → Φ ds m → Q vs H') → ta σ H Q
def TvM (tt : TT) (Γ : EnvD) (n : Nat) (Φ : Bool → Nat → Prop) : Prop := ∀ σ G H, AtS K G σ Γ → Ext G H → Vial a n G H →
  ∀ Q : Bool → Hp → Prop, (∀ b m G' H', Grow a G H G' H' → Vial a m G' H' → Φ b m → Q b H') → tt σ H Q
def SM (ts : TS) (Γ : EnvD) (n : Nat) (N : EnvD → Nat → Prop) (R : D → Nat → Prop) : Prop := ∀ σ G H, AtS K G σ Γ → Ext G H → Vial a n G H →
  ∀ Dn : Ends, (∀ σ' Γ' m G' H', Grow a G H G' H' → Vial a m G' H' → AtS K G' σ' Γ' → N Γ' m → Dn.nx σ' H') →
    (∀ v d m G' H', Grow a G H G' H' → Vial a m G' H' → At K G' v d → R d m → Dn.rt v H') → ts Dn σ H
/-- an operation on two values -/
def RM (r : R2) (x y : D) (n : Nat) (Φ : D → Nat → Prop) : Prop := ∀ G H u v, At K G u x → At K G v y → Ext G H → Vial a n G H →
  ∀ Q : VK, (∀ w d m G' H', Grow a G H G' H' → Vial a m G' H' → At K G' w d → Φ d m → Q w H') → r u v H Q
def CM (r : List V → Hp → VK → Prop) (xs : List D) (n : Nat) (Φ : D → Nat → Prop) : Prop := ∀ G H us, AtL K G us xs → Ext G H → Vial a n G H →
  ∀ Q : VK, (∀ w d m G' H', Grow a G H G' H' → Vial a m G' H' → At K G' w d → Φ d m → Q w H') → r us H Q
end
section
variable {K : PySem.W.Frag} {a : Option Addr} {Γ : EnvD} {n : Nat} {Φ Φ' : D → Nat → Prop} {ta tb te : TE} {tA tB' : TT} {ts tu tw : TS} {N : EnvD → Nat → Prop} {R : D → Nat → Prop} {d : D}
theorem em_mono (h : EvM K a te Γ n Φ) (k : ∀ d m, Φ d m → Φ' d m) : EvM K a te Γ n Φ' := fun σ G H S i v Q q => h σ G H S i v Q fun w d m G' H' g v' t p => q w d m G' H' g v' t (k d m p)
theorem em_var {i : Nat} (h : Γ[i]? = some (some d)) (k : Φ d n) : EvM K a (tVar i) Γ n Φ := fun σ G H S i v Q q => by
  obtain ⟨u, h1, h2⟩ := S.get h
  exact ⟨u, h1, q u d n G H (Grow.refl i) v h2 k⟩
theorem em_c {u : V} (h : ∀ G, At K G u d) (k : Φ d n) : EvM K a (tC u) Γ n Φ := fun σ G H S i v Q q => q u d n G H (Grow.refl i) v (h G) k
theorem em_int {i : Int} (k : Φ (.int i) n) : EvM K a (tC (.int i)) Γ n Φ := em_c (fun _ => .int i) k
theorem em_bl {i : Bool} (k : Φ (.bl i) n) : EvM K a (tC (.bl i)) Γ n Φ := em_c (fun _ => .bl i) k
theorem em_str {i : Str} (k : Φ (.str i) n) : EvM K a (tC (.str i)) Γ n Φ := em_c (fun _ => .str i) k
theorem em_non (k : Φ .non n) : EvM K a (tC .non) Γ n Φ := em_c (fun _ => .non) k
theorem em_op {r : R2} (h : EvM K a ta Γ n fun x m => EvM K a tb Γ m fun y l => RM K a r x y l Φ) : EvM K a (tOp r ta tb) Γ n Φ := fun σ G H S i v Q q =>
  h σ G H S i v _ fun x dx m G1 H1 g1 v1 t1 p1 => p1 σ G1 H1 (S.mono g1.g) g1.i v1 _ fun y dy l G2 H2 g2 v2 t2 p2 =>
    p2 G2 H2 x y (t1.mono g2.g) t2 g2.i v2 Q fun w d l' G3 H3 g3 v3 t3 p3 => q w d l' G3 H3 ((g1.trans v1 g2).trans v2 g3) v3 t3 p3
theorem em_un {r : V → Hp → VK → Prop} (h : EvM K a ta Γ n fun x m => CM K a (fun us H Q => ∃ u, us = [u] ∧ r u H Q) [x] m Φ) : EvM K a (tUn r ta) Γ n Φ := fun σ G H S i v Q q =>
  h σ G H S i v _ fun x dx m G1 H1 g1 v1 t1 p1 => by
    obtain ⟨u, e, z⟩ := p1 G1 H1 [x] (.cons t1 .nil) g1.i v1 Q fun w d l' G3 H3 g3 v3 t3 p3 => q w d l' G3 H3 (g1.trans v1 g3) v3 t3 p3
    cases e
    exact z
theorem am_nil {Φ : List D → Nat → Prop} (k : Φ [] n) : AvM K a tNil Γ n Φ := fun σ G H S i v Q q => q [] [] n G H (Grow.refl i) v .nil k
theorem am_cons {Φ : List D → Nat → Prop} {tr : TA} (h : EvM K a te Γ n fun x m => AvM K a tr Γ m fun xs l => Φ (x :: xs) l) : AvM K a (tCons te tr) Γ n Φ := fun σ G H S i v Q q =>
  h σ G H S i v _ fun x dx m G1 H1 g1 v1 t1 p1 => p1 σ G1 H1 (S.mono g1.g) g1.i v1 _ fun ys dys l G2 H2 g2 v2 t2 p2 => q (x :: ys) (dx :: dys) l G2 H2 (g1.trans v1 g2) v2 (.cons (t1.mono g2.g) t2) p2
theorem em_tup {t : TA} (h : AvM K a t Γ n fun ds m => ds.length ≤ 1000 ∧ Φ (.tup ds) m) : EvM K a (tTup t) Γ n Φ := fun σ G H S i v Q q =>
  h σ G H S i v _ fun xs ds m G1 H1 g1 v1 t1 ⟨hl, p1⟩ => ⟨by rw [t1.length]; exact Nat.le_trans hl (by decide), fun p hp => by
    have gn := Grow.new (G := G1) (o := .tup xs) g1.i hp
    exact q (.ref p) (.tup ds) m _ _ (g1.trans v1 gn.any) (v1.grow gn) (.tup (.inl (.inl upd_same)) (t1.mono gn.g)) p1⟩
theorem em_lst {t : TA} (h : AvM K a t Γ n fun ds m => ds.length ≤ 1000 ∧ Φ (.lst ds) m) : EvM K a (tLst t) Γ n Φ := fun σ G H S i v Q q =>
  h σ G H S i v _ fun xs ds m G1 H1 g1 v1 t1 ⟨hl, p1⟩ => ⟨by rw [t1.length]; exact Nat.le_trans hl (by decide), fun p hp => by
    have gn := Grow.new (G := G1) (o := .lst xs) g1.i hp
    exact q (.ref p) (.lst ds) m _ _ (g1.trans v1 gn.any) (v1.grow gn) (.lst upd_same (t1.mono gn.g)) p1⟩
theorem em_cb {r : List V → Hp → VK → Prop} {t : TA} (h : AvM K a t Γ n fun ds m => CM K a r ds m Φ) : EvM K a (tCB r t) Γ n Φ := fun σ G H S i v Q q =>
  h σ G H S i v _ fun xs ds m G1 H1 g1 v1 t1 p1 => p1 G1 H1 xs t1 g1.i v1 Q fun w d l' G3 H3 g3 v3 t3 p3 => q w d l' G3 H3 (g1.trans v1 g3) v3 t3 p3
theorem em_if {tc : TT} (h : TvM K a tc Γ n fun b m => (b = true → EvM K a ta Γ m Φ) ∧ (b = false → EvM K a tb Γ m Φ)) : EvM K a (tIf tc ta tb) Γ n Φ := fun σ G H S i v Q q =>
  h σ G H S i v _ fun b m G1 H1 g1 v1 p1 => by
    cases b with
    | true => exact p1.1 rfl σ G1 H1 (S.mono g1.g) g1.i v1 Q fun w d l' G3 H3 g3 v3 t3 p3 => q w d l' G3 H3 (g1.trans v1 g3) v3 t3 p3
    | false => exact p1.2 rfl σ G1 H1 (S.mono g1.g) g1.i v1 Q fun w d l' G3 H3 g3 v3 t3 p3 => q w d l' G3 H3 (g1.trans v1 g3) v3 t3 p3
/-! tests -/
theorem tm_test {Φ : Bool → Nat → Prop} (h : EvM K a te Γ n fun x m => ∃ b, x = .bl b ∧ Φ b m) : TvM K a (tTest te) Γ n Φ := fun σ G H S i v Q q =>
  h σ G H S i v _ fun x dx m G1 H1 g1 v1 t1 ⟨b, e, p⟩ => by subst e; cases t1; exact ⟨b, rfl, q b m G1 H1 g1 v1 p⟩
theorem tm_B {Φ : Bool → Nat → Prop} (h : EvM K a te Γ n fun x m => ∃ b, x = .bl b ∧ Φ b m) : TvM K a (tB te) Γ n Φ := fun σ G H S i v Q q =>
  h σ G H S i v _ fun x dx m G1 H1 g1 v1 t1 ⟨b, e, p⟩ => by subst e; cases t1; exact ⟨b, rfl, q b m G1 H1 g1 v1 p⟩
theorem tm_not {Φ : Bool → Nat → Prop} (h : TvM K a tA Γ n fun b m => Φ (!b) m) : TvM K a (tNot tA) Γ n Φ := fun σ G H S i v Q q => h σ G H S i v _ fun b m G1 H1 g1 v1 p => q (!b) m G1 H1 g1 v1 p
theorem tm_and {Φ : Bool → Nat → Prop} (h : TvM K a tA Γ n fun b m => (b = true → TvM K a tB' Γ m Φ) ∧ (b = false → Φ false m)) : TvM K a (tAnd tA tB') Γ n Φ := fun σ G H S i v Q q =>
  h σ G H S i v _ fun b m G1 H1 g1 v1 p1 => by
    cases b with
    | true => exact p1.1 rfl σ G1 H1 (S.mono g1.g) g1.i v1 Q fun w l' G3 H3 g3 v3 p3 => q w l' G3 H3 (g1.trans v1 g3) v3 p3
    | false => exact q false m G1 H1 g1 v1 (p1.2 rfl)
theorem tm_or {Φ : Bool → Nat → Prop} (h : TvM K a tA Γ n fun b m => (b = true → Φ true m) ∧ (b = false → TvM K a tB' Γ m Φ)) : TvM K a (tOr tA tB') Γ n Φ := fun σ G H S i v Q q =>
  h σ G H S i v _ fun b m G1 H1 g1 v1 p1 => by
    cases b with
    | true => exact q true m G1 H1 g1 v1 (p1.1 rfl)
    | false => exact p1.2 rfl σ G1 H1 (S.mono g1.g) g1.i v1 Q fun w l' G3 H3 g3 v3 p3 => q w l' G3 H3 (g1.trans v1 g3) v3 p3
theorem em_andV (h : EvM K a ta Γ n fun x m => ∃ b, x = .bl b ∧ (b = true → EvM K a tb Γ m Φ) ∧ (b = false → Φ (.bl false) m)) : EvM K a (tAndV ta tb) Γ n Φ := fun σ G H S i v Q q =>
  h σ G H S i v _ fun x dx m G1 H1 g1 v1 t1 ⟨b, e, p1, p2⟩ => by
    subst e; cases t1
    refine ⟨b, rfl, ?_⟩
    cases b with
    | true => exact p1 rfl σ G1 H1 (S.mono g1.g) g1.i v1 Q fun w d l' G3 H3 g3 v3 t3 p3 => q w d l' G3 H3 (g1.trans v1 g3) v3 t3 p3
    | false => exact q _ _ m G1 H1 g1 v1 (.bl false) (p2 rfl)
theorem em_orV (h : EvM K a ta Γ n fun x m => ∃ b, x = .bl b ∧ (b = true → Φ (.bl true) m) ∧ (b = false → EvM K a tb Γ m Φ)) : EvM K a (tOrV ta tb) Γ n Φ := fun σ G H S i v Q q =>
  h σ G H S i v _ fun x dx m G1 H1 g1 v1 t1 ⟨b, e, p1, p2⟩ => by
    subst e; cases t1
    refine ⟨b, rfl, ?_⟩
    cases b with
    | false => exact p2 rfl σ G1 H1 (S.mono g1.g) g1.i v1 Q fun w d l' G3 H3 g3 v3 t3 p3 => q w d l' G3 H3 (g1.trans v1 g3) v3 t3 p3
    | true => exact q _ _ m G1 H1 g1 v1 (.bl true) (p1 rfl)
theorem em_notV (h : EvM K a ta Γ n fun x m => ∃ b, x = .bl b ∧ Φ (.bl (!b)) m) : EvM K a (tNotV ta) Γ n Φ := fun σ G H S i v Q q =>
  h σ G H S i v _ fun x dx m G1 H1 g1 v1 t1 ⟨b, e, p⟩ => by subst e; cases t1; exact ⟨b, rfl, q _ _ m G1 H1 g1 v1 (.bl _) p⟩
theorem em_isN (h : EvM K a ta Γ n fun x m => (x = .non ∧ Φ (.bl true) m) ∨ (x ≠ .non ∧ Φ (.bl false) m)) : EvM K a (tIsN ta) Γ n Φ := fun σ G H S i v Q q =>
  h σ G H S i v _ fun x dx m G1 H1 g1 v1 t1 p => by
    rcases p with ⟨e, p⟩ | ⟨e, p⟩
    · subst e; cases t1; exact q _ _ m G1 H1 g1 v1 (.bl _) p
    · have hx : x ≠ .non := by intro z; subst z; cases t1; exact e rfl
      show Q (.bl (decide (x = .non))) H1
      rw [decide_eq_false hx]
      exact q _ _ m G1 H1 g1 v1 (.bl _) p
theorem em_notN (h : EvM K a ta Γ n fun x m => (x = .non ∧ Φ (.bl false) m) ∨ (x ≠ .non ∧ Φ (.bl true) m)) : EvM K a (tNotN ta) Γ n Φ := fun σ G H S i v Q q =>
  h σ G H S i v _ fun x dx m G1 H1 g1 v1 t1 p => by
    rcases p with ⟨e, p⟩ | ⟨e, p⟩
    · subst e; cases t1; exact q _ _ m G1 H1 g1 v1 (.bl _) p
    · have hx : x ≠ .non := by intro z; subst z; cases t1; exact e rfl
      show Q (.bl (!decide (x = .non))) H1
      rw [decide_eq_false hx]
      exact q _ _ m G1 H1 g1 v1 (.bl _) p
/-! operations -/
theorem rm_I0 {g : Int → Int → V} {i j : Int} {z : D} (hz : ∀ G, At K G (g i j) z) (k : Φ z n) : RM K a (rI0 g) (.int i) (.int j) n Φ := fun G H u v tu tv i v1 Q q => by
  cases tu; cases tv
  exact ⟨_, _, rfl, rfl, q _ _ n G H (Grow.refl i) v1 (hz G) k⟩
theorem rm_I {C : Int → Int → Prop} {g : Int → Int → V} {i j : Int} {z : D} (hc : C i j) (hz : ∀ G, At K G (g i j) z) (k : Φ z n) : RM K a (rI C g) (.int i) (.int j) n Φ := fun G H u v tu tv i v1 Q q => by
  cases tu; cases tv
  exact ⟨_, _, rfl, rfl, hc, q _ _ n G H (Grow.refl i) v1 (hz G) k⟩
/-- plain values as data -/
def ofV : V → D
  | .non => .non | .bl b => .bl b | .int i => .int i | .str s => .str s | _ => .non
theorem atI_of {vs : List V} {ds : List D} {G : Hp} (h : AtL K G vs ds) {i : Int} {x : D} (e : atI ds i = some x) : ∃ v, atI vs i = some v ∧ At K G v x := by
  unfold atI at e ⊢
  rw [h.length]
  cases q : ixN ds.length i with
  | none => rw [q] at e; cases e
  | some j =>
    rw [q] at e
    exact h.get e
theorem rm_ixT {ds : List D} {i : Int} {x : D} (h : atI ds i = some x) (k : Φ x n) : RM K a (rIxT K) (.tup ds) (.int i) n Φ := fun G H u v tu tv i v1 Q q => by
  cases tv
  cases tu with
  | tup hs l =>
    obtain ⟨w, e, t⟩ := atI_of l h
    exact ⟨_, _, _, w, rfl, rfl, hs.ext i, e, q w x n G H (Grow.refl i) v1 t k⟩
theorem rm_ixL {ds : List D} {i : Int} {x : D} (h : atI ds i = some x) (k : Φ x n) : RM K a (rIxL K) (.lst ds) (.int i) n Φ := fun G H u v tu tv i v1 Q q => by
  cases tv
  cases tu with
  | lst hs l =>
    obtain ⟨w, e, t⟩ := atI_of l h
    exact ⟨_, _, _, w, rfl, rfl, .inl (.inl (i _ _ hs)), e, q w x n G H (Grow.refl i) v1 t k⟩
mutual
def py : D → PyData
  | .non => .none | .bl b => .bool b | .int i => .int i | .str s => .str s | .adr _ => .none | .ty _ => .none | .scr _ => .none
  | .tup ds => .tuple (pyL ds) | .lst ds => .list (pyL ds) | .ins _ _ => .none
def pyL : List D → List PyData
  | [] => [] | d :: ds => py d :: pyL ds
end
mutual
def pur : D → Bool
  | .non | .bl _ | .int _ | .str _ => true
  | .adr _ | .ins _ _ | .ty _ | .scr _ => false
  | .tup ds | .lst ds => purL ds
def purL : List D → Bool
  | [] => true | d :: ds => pur d && purL ds
end
mutual
theorem At.dp {G H : Hp} (i : Ext G H) : ∀ (d : D) {v : V}, At K G v d → pur d = true → Dp K H v (py d)
  | .non, _, h, _ => by cases h; exact .non
  | .bl b, _, h, _ => by cases h; exact .bl b
  | .int b, _, h, _ => by cases h; exact .int b
  | .str b, _, h, _ => by cases h; exact .str b
  | .adr b, _, _, p => by simp [pur] at p
  | .ty b, _, _, p => by simp [pur] at p
  | .scr b, _, _, p => by simp [pur] at p
  | .ins _ _, _, _, p => by simp [pur] at p
  | .tup ds, _, h, p => by
    cases h with
    | tup hs l => exact .tup (hs.ext i) (AtL.dp i ds l (by simpa [pur] using p))
  | .lst ds, _, h, p => by
    cases h with
    | lst hs l => exact .lst (.inl (.inl (i _ _ hs))) (AtL.dp i ds l (by simpa [pur] using p))
theorem AtL.dp {G H : Hp} (i : Ext G H) : ∀ (ds : List D) {vs : List V}, AtL K G vs ds → purL ds = true → DpAll K H vs (pyL ds)
  | [], _, h, _ => by cases h; exact .nil
  | d :: ds, _, h, p => by
    cases h with
    | cons hd l =>
      have p' : pur d = true ∧ purL ds = true := by simpa [purL] using p
      exact .cons (At.dp i d hd p'.1) (AtL.dp i ds l p'.2)
end
theorem rm_eqD {x y : D} (hx : pur x = true) (hy : pur y = true) (sx : SeqAt.shaped (py x) = true) (sy : SeqAt.shaped (py y) = true) (k : Φ (.bl (PyData.eqv (py x) (py y))) n) : RM K a (rEqD K) x y n Φ := fun G H u v tu tv i v1 Q q =>
  ⟨py x, py y, tu.dp i x hx, tv.dp i y hy, sx, sy, q _ _ n G H (Grow.refl i) v1 (.bl _) k⟩
theorem rm_neD {x y : D} (hx : pur x = true) (hy : pur y = true) (sx : SeqAt.shaped (py x) = true) (sy : SeqAt.shaped (py y) = true) (k : Φ (.bl (!PyData.eqv (py x) (py y))) n) : RM K a (rNeD K) x y n Φ := fun G H u v tu tv i v1 Q q =>
  ⟨py x, py y, tu.dp i x hx, tv.dp i y hy, sx, sy, q _ _ n G H (Grow.refl i) v1 (.bl _) k⟩
/-! statements -/
theorem sm_seq (h : SM K a ts Γ n (fun Γ' m => SM K a tu Γ' m N R) R) : SM K a (tSeq ts tu) Γ n N R := fun σ G H S i v Dn hn hr =>
  h σ G H S i v { Dn with nx := tu Dn } (fun σ' Γ' m G1 H1 g1 v1 S1 p => p σ' G1 H1 S1 g1.i v1 Dn (fun σ2 Γ2 m2 G2 H2 g2 v2 S2 p2 => hn σ2 Γ2 m2 G2 H2 (g1.trans v1 g2) v2 S2 p2)
    fun w d m2 G2 H2 g2 v2 t2 p2 => hr w d m2 G2 H2 (g1.trans v1 g2) v2 t2 p2) fun w d m G1 H1 g1 v1 t1 p1 => hr w d m G1 H1 g1 v1 t1 p1
theorem sm_next (h : N Γ n) : SM K a tNext Γ n N R := fun σ G H S i v Dn hn _ => hn σ Γ n G H (Grow.refl i) v S h
theorem sm_asg {i : Nat} (h : EvM K a te Γ n fun d m => N (Γ.set i (some d)) m) : SM K a (tAsg te (gName i)) Γ n N R := fun σ G H S z v Dn hn _ =>
  h σ G H S z v _ fun w d m G1 H1 g1 v1 t1 p1 => hn _ _ m G1 H1 g1 v1 ((S.mono g1.g).set i t1) p1
theorem sm_drop (h : EvM K a te Γ n fun d m => N Γ m) : SM K a (tDrop te) Γ n N R := fun σ G H S z v Dn hn _ =>
  h σ G H S z v _ fun w d m G1 H1 g1 v1 t1 p1 => hn _ _ m G1 H1 g1 v1 (S.mono g1.g) p1
theorem sm_ret (h : EvM K a te Γ n R) : SM K a (tRet te) Γ n N R := fun σ G H S z v Dn _ hr =>
  h σ G H S z v _ fun w d m G1 H1 g1 v1 t1 p1 => hr w d m G1 H1 g1 v1 t1 p1
theorem sm_retN (h : R .non n) : SM K a tRetN Γ n N R := fun σ G H S z v Dn _ hr => hr .non .non n G H (Grow.refl z) v .non h
theorem sm_if {tc : TT} (h : TvM K a tc Γ n fun b m => (b = true → SM K a tu Γ m N R) ∧ (b = false → SM K a tw Γ m N R)) : SM K a (tIfS tc tu tw) Γ n N R := fun σ G H S z v Dn hn hr =>
  h σ G H S z v _ fun b m G1 H1 g1 v1 p1 => by
    cases b with
    | true => exact p1.1 rfl σ G1 H1 (S.mono g1.g) g1.i v1 Dn (fun σ2 Γ2 m2 G2 H2 g2 v2 S2 p2 => hn σ2 Γ2 m2 G2 H2 (g1.trans v1 g2) v2 S2 p2) fun w d m2 G2 H2 g2 v2 t2 p2 => hr w d m2 G2 H2 (g1.trans v1 g2) v2 t2 p2
    | false => exact p1.2 rfl σ G1 H1 (S.mono g1.g) g1.i v1 Dn (fun σ2 Γ2 m2 G2 H2 g2 v2 S2 p2 => hn σ2 Γ2 m2 G2 H2 (g1.trans v1 g2) v2 S2 p2) fun w d m2 G2 H2 g2 v2 t2 p2 => hr w d m2 G2 H2 (g1.trans v1 g2) v2 t2 p2
end
end DL

set_option linter.all false
set_option maxRecDepth 100000
set_option maxHeartbeats 4000000
namespace DL
open PySem PySem.Spec PyProof.Rows L2

/-! ### repr of data -/
def rRepr (K : PySem.W.Frag) : List V → Hp → VK → Prop := fun xs H Q => ∃ (b : Addr) (d : PyData), xs = [.ref b] ∧ Dp K H (.ref b) d ∧ d.showable = true ∧ d.hasDict = false ∧ d.depth ≤ 64 ∧ d.shown.length ≤ sizeLine ∧ Q (.str d.shown) H
theorem call_repr_data {X : Cx} (hg : X.A.guards = some []) (hu : X.A.units + 128 < cLine) : CallR X (.builtin "repr") (rRepr X.K) := by
  intro pins s σ H xs us Q I r h
  obtain ⟨b, d, rfl, hd, hs, hn, hdp, hsz, q⟩ := h
  obtain ⟨u, rfl, e⟩ := vals1 r
  obtain ⟨as, r1⟩ := Dp.reads I d _ u hd e
  cases e
  refine repr_of_reads' r1 hs (PyData.noDict_hsm hn) hg (by omega) (fun _ _ z => z) (fun h' u tk hk => ?_) hsz
  exact ⟨.str d.shown, H, I.kept hk, ⟨_, rfl⟩, q⟩

/-! ### defs that may ask repr: nothing is being shown around them -/
structure FnG (P : Program) (w : World) (K : PySem.W.Frag) (mg : Str → Option Value) (base : Heap) (CX : CXT) (k : Nat) (f : Addr) (fd : FuncData) (ps : List Str) (sp : Sp) : Prop where
  len : ∀ vs H Q E, sp vs H Q E → vs.length = ps.length
  run : ∀ (A : Around) (out : List Env) (s : Shared) (H : Hp) (ar : Args) (us : List Value) (vs : List V) (Q : VK) (E : XK), Room k A → A.guards = some [] → Env0 P w K mg base A out s H → BindsTo s fd ar (ps.zip us) → Vals vs us → sp vs H Q E →
    codeAny (model P w) A (.call (.ref f) ar) (CR CX out P w H s Q E) s
section
variable {P : Program} {w : World} {K : PySem.W.Frag} {mg : Str → Option Value} {base : Heap}
/-- such a def by its body, as a term of rules and its reading -/
theorem okG {x q : Str} {st : Stmt} {f : Addr} {fd : FuncData} {N ps : List Str} {k : Nat} {sp : Sp} (F : Fun K x q st f fd) (S : FnScope N ps (defScope st)) (len : ∀ vs H Q E, sp vs H Q E → vs.length = ps.length)
    (body : ∀ (cd : Value) (A : Around) (out : List Env) (s : Shared) (H : Hp) (vs : List V) (Q : VK) (E : XK), Room k (A.deeper (envOfC q (defScope st) s.heap.objs.size f cd)) → A.guards = some [] → sp vs H Q E →
      ∃ t, PSs (cxOf CX0 P w K mg base N q (defScope st) f cd A out s H E).nox (defBody st) t ∧ t { nx := fun _ H' => Q .non H', rt := Q } (start N vs) H) : FnG P w K mg base CX0 (k + 1) f fd ps sp := by
  obtain ⟨_, _, _, _, _, _, cd, _, _, rfl, at_f, code⟩ := F.ex
  constructor
  · exact len
  intro A out s H ar us vs Q E room calm e0 bind vals want
  have old : ∀ b o, base.get? b = some o → s.heap.get? b = some o := fun b o e => (e0.bs b o e).1
  have inK := e0.mod.kin.keeps old
  have slots : ∀ y ∈ ps.zip us, (defScope st).names.lookup y.1 = some .local ∨ ((defScope st).names.lookup y.1 = some .cell ∧ ((cellsFrom (s.heap.objs.size + 1) (defScope st).names []).lookup y.1).isSome = true) := by
    rintro ⟨y, v⟩ hy
    exact (S.par y (List.of_mem_zip hy).1).elim .inl fun c => .inr ⟨c, PySem.W.cellsFrom_some _ _ _ (.inl c)⟩
  refine codeAny_call_function room.depth (inK _ _ at_f) rfl S.co S.gen rfl (PySem.W.codeRec_of inK code) (bind _ _ _ _ (wpAny_newFunctionEnv_cells S.kind slots ?_))
  rintro env rfl s1 made
  refine ⟨(e0.mod.nolimit.keeps old).keeps made.toInCall.keep, codeAny_func ?_⟩
  obtain ⟨t, rules, reading⟩ := body cd A out s H vs Q E (room.deeper _) calm want
  have inv := inv_start (CX := CX0) (E := E) S room.hd e0 (len _ _ _ _ want) vals made
  refine wpAny_mono (rules.nox.run [] s1 (start N vs) H _ inv reading) ?_ fun _ _ z => z
  intro fl s2 z
  match fl, z with
  | .ret u, ⟨v, _, H2, J, rel, q⟩ => exact ⟨v, H2, J.os, J.bare, J.base, J.hok, rel, q⟩
  | .next, ⟨_, H2, J, q⟩ => exact ⟨V.non, H2, J.os, J.bare, J.base, J.hok, rfl, q⟩
  | .brk, ⟨_, _, _, q⟩ => exact q.elim
  | .cont, ⟨_, _, _, q⟩ => exact q.elim
end
section
variable {X : Cx} {k : Nat} {f : Addr} {fd : FuncData} {ps : List Str} {sp : Sp} {x : Str} {p pos : Pos} {e : Expr} {es : List Expr} {t : TA}
/-- f(e, ..), every parameter given -/
theorem pe_callG (F : FnG X.prog X.w X.K X.mg X.base CX0 k f fd ps sp) (room : Room k X.A) (calm : X.A.guards = some []) (hg : Gl X x) (hm : X.mg x = some (.ref f)) (hk : PySem.W.keepIn X.K (.ref f) = true) (hb : Binds X.K fd ps [])
    (ha : PA X (e :: es) t) (hdb : (x == ("__debug__" : Str)) = false := by decide) (he : starEach (e :: es) X.env = (false, eval e X.env) :: starEach es X.env := by rfl) (hpl : (backTo pos (starEach es X.env)).any (·.1) = false := by rfl) :
    PE X (.Call (.Name x p) (e :: es) [] pos) (tCall sp [] E0 t) := by
  constructor
  intro pins s σ H Q I reading
  refine wpAny_Call_Name_kw (ld_glob I hg hm (PySem.W.callWith_K (h₀ := X.base) I.ok.mod.kin hk (thn (ha.run pos pins s σ H _ I reading) ?_) he hpl) hdb)
  rintro us s1 ⟨vs, H1, I1, vals, want⟩
  refine ⟨I1.kIn, ?_⟩
  rw [List.append_nil] at want
  have bind : BindsTo s1 fd ⟨us, []⟩ (ps.zip us) := by
    have := hb s1 us I1.kIn (by rw [List.append_nil, ← vals.length]; exact F.len _ _ _ _ want)
    rwa [List.append_nil] at this
  refine wpAny_call (codeAny_mono (F.run X.A X.stack s1 H1 _ _ _ Q E0 room calm I1.env0 bind vals want) ?_)
  intro r s2 z
  match r, z with
  | .error _, z => exact z.elim
  | .ok (.ret _), z => exact I1.after z
end
/-- f(k = v, ..): keywords alone -/
theorem pe_callN0 {X : Cx} {CX : CXT} {k : Nat} {f : Addr} {fd : FuncData} {ps ks : List Str} {sp : Sp} {E : XK} {x : Str} {p pos : Pos} {kws : List Keyword} {tk : TA} {g : List Value → List Value → List Value} {gV : List V → List V → List V}
    (F : FnOk X.prog X.w X.K X.mg X.base CX k f fd ps sp) (hr : Room k X.A) (hg : Gl X x) (hm : X.mg x = some (.ref f)) (hk : PySem.W.keepIn X.K (.ref f) = true) (hb : KBn X.K fd ps 0 ks g gV) (hx : Passes CX X E)
    (hkw : PK X kws tk) (hall : (backToKw pos (keywordEach kws X.env)).all (·.1.isSome) = true := by rfl) (hks : (backToKw pos (keywordEach kws X.env)).filterMap (·.1) = ks := by rfl)
    (hdb : (x == ("__debug__" : Str)) = false := by decide)
    (hpl : ((backTo pos (starEach [] X.env)).any (·.1) || (backToKw pos (keywordEach kws X.env)).any (·.1.isNone)) = false := by rfl) :
    PE X (.Call (.Name x p) [] kws pos) (tCallN 0 ks.length sp gV E tNil tk) := by
  refine ⟨fun pins s σ H Q I h => ?_⟩
  refine wpAny_Call_Name_kw (ld_glob I hg hm ?_ hdb)
  refine PySem.W.callWith_KW0 (h₀ := X.base) I.ok.mod.kin hk hall ?_ hpl
  refine thn (hkw.run pos pins s σ H _ I h) fun ws s2 ⟨zs, H2, I2, rz, l1, l2, q2⟩ => ⟨I2.kIn, ?_⟩
  rw [hks]
  exact run_fnN (us := []) (vs := []) F hr hb hx I2 .nil rz rfl l2 q2

/-! ### keywords put into their places -/
def permV (ix : List Nat) (xs : List V) : List V := ix.map fun i => xs.getD i .non
def permU (ix : List Nat) (xs : List Value) : List Value := ix.map fun i => xs.getD i .none
def permD (ix : List Nat) (xs : List D) : List D := ix.map fun i => xs.getD i .non
theorem vals_getD {vs : List V} {us : List Value} (r : Vals vs us) (i : Nat) : RelV (vs.getD i .non) (us.getD i .none) := by
  induction r generalizing i with
  | nil => simp; rfl
  | cons h _ ih => cases i with | zero => simpa using h | succ i => simpa using ih i
theorem perm_rel {ix : List Nat} {vs : List V} {us : List Value} (r : Vals vs us) : Vals (permV ix vs) (permU ix us) := by
  unfold permV permU
  induction ix with
  | nil => exact .nil
  | cons i ix ih => exact .cons (vals_getD r i) ih
theorem atL_getD {K : PySem.W.Frag} {G : Hp} {vs : List V} : ∀ {ds : List D} (i : Nat), AtL K G vs ds → At K G (vs.getD i .non) (ds.getD i .non) := by
  induction vs with
  | nil => intro ds i h; cases h; simp; exact .non
  | cons v vs ih => intro ds i h; cases h with | cons a l => cases i with | zero => simpa using a | succ i => simpa using ih i l
theorem perm_at {K : PySem.W.Frag} {G : Hp} {ix : List Nat} {vs : List V} {ds : List D} (h : AtL K G vs ds) : AtL K G (permV ix vs) (permD ix ds) := by
  unfold permV permD
  induction ix with
  | nil => exact .nil
  | cons i ix ih => exact .cons (atL_getD i h) ih
theorem kbn {K : PySem.W.Frag} {x qual : Str} {st : Stmt} {f : Addr} {fd : FuncData} {ps ks : List Str} {n : Nat} (ix : List Nat) (F : Fun K x qual st f fd)
    (h : ∀ (kV doc pm : Value) (an : Option Addr) (cdv ct : Value) (us ws : List Value), us.length = n → ws.length = ks.length → bindArgs (PySem.W.fnOf x qual (defArgs st) (defBody st) (defScope st) .none kV doc pm an cdv ct) ⟨us, ks.zip ws⟩ = pure (ps.zip (permU ix (us ++ ws)))) :
    KBn K fd ps n ks (fun us ws => permU ix (us ++ ws)) (fun vs zs => permV ix (vs ++ zs)) := by
  obtain ⟨oc, od, kV, doc, pm, an, cdv, ct, osl, rfl, lk, hcd⟩ := F.ex
  exact ⟨fun s us ws _ h1 h2 => .of_eq (h kV doc pm an cdv ct us ws h1 h2), fun r rz => perm_rel (r.append rz)⟩

/-! ### promises on data -/
/-- pure: P tells, of the arguments, what must hold for the answer -/
def spP (K : PySem.W.Frag) (P : List D → (D → Prop) → Prop) : Sp := fun vs H Q _ => ∃ G ds Φ, Ext G H ∧ AtL K G vs ds ∧ P ds Φ ∧ ∀ v d G' H', Grow none G H G' H' → At K G' v d → Φ d → Q v H'
/-- with the drawing list ahead -/
def spV (K : PySem.W.Frag) (P : List D → Nat → (D → Nat → Prop) → Prop) : Sp := fun vs H Q _ => ∃ G a us n ds Φ, vs = .ref a :: us ∧ Ext G H ∧ Vial (some a) n G H ∧ AtL K G us ds ∧ P ds n Φ ∧
  ∀ v d m G' H', Grow (some a) G H G' H' → Vial (some a) m G' H' → At K G' v d → Φ d m → Q v H'
/-- __init__ -/
def spI (K : PySem.W.Frag) (C : Addr) (P : List D → (List (Str × D) → Prop) → Prop) : Sp := fun vs H Q _ => ∃ G x dx us ds Φ, vs = .ref x :: us ∧ Ext G H ∧ G x = none ∧ H x = some (.ins C dx []) ∧ AtL K G us ds ∧ P ds Φ ∧
  ∀ fs gs G' H', Grow (some x) G H G' H' → G' x = none → H' x = some (.ins C dx fs) → AtF K G' fs gs → Φ gs → Q .non H'
section
variable {K : PySem.W.Frag} {a : Option Addr} {Γ : EnvD} {n : Nat} {Φ : D → Nat → Prop} {ta tb te : TE} {t tk : TA} {E : XK}
theorem em_callP {P : List D → (D → Prop) → Prop} (h : AvM K a t Γ n fun ds m => P ds fun d => Φ d m) : EvM K a (tCall (spP K P) [] E t) Γ n Φ := fun σ G H S i v Q q =>
  h σ G H S i v _ fun vs ds m G1 H1 g1 v1 t1 p1 => by
    show spP K P (vs ++ []) H1 Q E
    rw [List.append_nil]
    exact ⟨G1, ds, _, g1.i, t1, p1, fun w d G2 H2 g2 t2 p2 => q w d m G2 H2 (g1.trans v1 g2.any) (v1.grow g2) t2 p2⟩
theorem em_callV {b : Addr} {P : List D → Nat → (D → Nat → Prop) → Prop} (h : AvM K (some b) t Γ n fun ds m => ∃ es, ds = .adr b :: es ∧ P es m Φ) : EvM K (some b) (tCall (spV K P) [] E t) Γ n Φ := fun σ G H S i v Q q =>
  h σ G H S i v _ fun vs ds m G1 H1 g1 v1 t1 ⟨es, e, p1⟩ => by
    show spV K P (vs ++ []) H1 Q E
    rw [List.append_nil]
    subst e
    cases t1 with
    | cons ha l =>
      cases ha
      exact ⟨G1, b, _, m, es, Φ, rfl, g1.i, v1, l, p1, fun w d m2 G2 H2 g2 v2 t2 p2 => q w d m2 G2 H2 (g1.trans v1 g2) v2 t2 p2⟩
theorem em_callN {P : List D → (D → Prop) → Prop} {ix : List Nat} {j l : Nat} (h : AvM K a t Γ n fun ds m => AvM K a tk Γ m fun es o => ds.length = j ∧ es.length = l ∧ P (permD ix (ds ++ es)) fun d => Φ d o) :
    EvM K a (tCallN j l (spP K P) (fun vs zs => permV ix (vs ++ zs)) E t tk) Γ n Φ := fun σ G H S i v Q q =>
  h σ G H S i v _ fun vs ds m G1 H1 g1 v1 t1 p1 => p1 σ G1 H1 (S.mono g1.g) g1.i v1 _ fun zs es o G2 H2 g2 v2 t2 ⟨l1, l2, p2⟩ =>
    ⟨by rw [t1.length]; exact l1, by rw [t2.length]; exact l2, G2, _, _, g2.i, perm_at ((t1.mono g2.g).append t2), p2, fun w d G3 H3 g3 t3 p3 => q w d o G3 H3 ((g1.trans v1 g2).trans v2 g3.any) (v2.grow g3) t3 p3⟩
/-- C(..) -/
theorem make_core {C : Addr} {P : List D → (List (Str × D) → Prop) → Prop} {n : Nat} {G1 H1 : Hp} {us : List V} {ds : List D} (i1 : Ext G1 H1) (v1 : Vial a n G1 H1) (t1 : AtL K G1 us ds) (p1 : P ds fun gs => Φ (.ins C gs) n) {Q : VK}
    (q : ∀ w d m G' H', Grow a G1 H1 G' H' → Vial a m G' H' → At K G' w d → Φ d m → Q w H') {x dx : Addr} (hx : H1 x = none) (hdx : H1 dx = none) (hne : dx ≠ x) :
    spI K C P (.ref x :: us) (upd (upd H1 dx (.own x)) x (.ins C dx [])) (fun v H2 => v = .non ∧ Q (.ref x) H2) E := by
  have ga := Grow.hid (o := .own x) i1 hdx
  have hx' : upd H1 dx (.own x) x = none := by rw [upd_ne (Ne.symm hne)]; exact hx
  have gb := Grow.hid (o := .ins C dx []) ga.i hx'
  have vno : Vial none 0 G1 (upd H1 dx (.own x)) := Vial.no
  have g := ga.trans vno gb
  have gx : G1 x = none := by
    cases k : G1 x with
    | none => rfl
    | some u => rw [i1 x u k] at hx; cases hx
  refine ⟨G1, x, dx, us, ds, _, rfl, g.i, gx, upd_same, t1, p1, fun fs gs G' H' g' gx' hx2 tf pf => ⟨rfl, ?_⟩⟩
  -- the made one is told
  have k1 : ∀ b o, H1 b = some o → H' b = some o := fun b o e => g'.h b o (by intro z; cases z; rw [hx] at e; cases e) (g.h b o (by simp) e)
  have gg : Grow none G1 H1 (upd G' x (.ins C dx fs)) H' := ⟨g'.g.trans (Ext.upd gx'), fun b o _ e => k1 b o e, fun b u e => by
      by_cases hb : b = x
      · subst hb; rw [upd_same] at e; cases e; exact hx2
      · rw [upd_ne hb] at e; exact g'.i b u e, fun b hb => by
    by_cases h2 : b = x
    · subst h2; exact .inr hx
    · rw [upd_ne h2] at hb
      rcases g'.n b hb with z | z
      · exact .inl z
      · refine .inr ?_
        cases e : H1 b with
        | none => rfl
        | some o => rw [g.h b o (by simp) e] at z; cases z⟩
  exact q _ _ n _ _ gg.any (v1.grow gg) (.ins upd_same (tf.mono (Ext.upd gx'))) pf
theorem em_make {C : Addr} {P : List D → (List (Str × D) → Prop) → Prop} (h : AvM K a t Γ n fun ds m => P ds fun gs => Φ (.ins C gs) m) : EvM K a (tMake C (spI K C P) [] E t) Γ n Φ := fun σ G H S i v Q q =>
  h σ G H S i v _ fun vs ds m G1 H1 g1 v1 t1 p1 x dx hx hdx hne => by
    rw [List.append_nil]
    exact make_core g1.i v1 t1 p1 (fun w d l G2 H2 g2 v2 t2 p2 => q w d l G2 H2 (g1.trans v1 g2) v2 t2 p2) hx hdx hne
end
end DL

set_option linter.all false
set_option maxRecDepth 100000
set_option maxHeartbeats 4000000
namespace DL
open PySem PySem.Spec PyProof.Rows L2

section
variable {K : PySem.W.Frag} {a : Option Addr} {Γ : EnvD} {n : Nat} {Φ : D → Nat → Prop} {ta tb te tl : TE} {t tk : TA} {E : XK} {N : EnvD → Nat → Prop} {R : D → Nat → Prop} {tu : TS} {d : D}
theorem em_ty {T : String} (k : Φ (.ty T) n) : EvM K a (tC (.ty T)) Γ n Φ := em_c (fun _ => .ty T) k
theorem em_adr {b : Addr} (k : Φ (.adr b) n) : EvM K a (tC (.ref b)) Γ n Φ := em_c (fun _ => .adr b) k
/-- a property that hands out a field -/
theorem em_prop {C : Addr} {f : Str} (h : EvM K a ta Γ n fun x m => ∃ gs d, x = .ins C gs ∧ gs.lookup f = some d ∧ Φ d m) : EvM K a (tProp C (getSp C f) [] E ta) Γ n Φ := fun σ G H S i v Q q =>
  h σ G H S i v _ fun x dd m G1 H1 g1 v1 t1 ⟨gs, d, e, el, p⟩ => by
    subst e
    cases t1 with
    | ins hs l =>
      obtain ⟨w, e1, e2⟩ := l.look el
      exact ⟨_, _, _, rfl, g1.i _ _ hs, _, _, _, w, rfl, g1.i _ _ hs, e1, q w d m G1 H1 g1 v1 e2 p⟩
/-- o.f, an attribute -/
theorem em_fld {C : Addr} {f : Str} (cl : Cls K C) (na : NoAttr K C f) (h : EvM K a ta Γ n fun x m => ∃ gs d, x = .ins C gs ∧ gs.lookup f = some d ∧ Φ d m) : EvM K a (tFld K ta f) Γ n Φ := fun σ G H S i v Q q =>
  h σ G H S i v _ fun x dd m G1 H1 g1 v1 t1 ⟨gs, d, e, el, p⟩ => by
    subst e
    cases t1 with
    | ins hs l =>
      obtain ⟨w, e1, e2⟩ := l.look el
      exact ⟨_, C, _, _, w, rfl, g1.i _ _ hs, cl, na, e1, q w d m G1 H1 g1 v1 e2 p⟩
/-! targets -/
def GM (K : PySem.W.Frag) (a : Option Addr) (g : TG) (d : D) (Γ : EnvD) (n : Nat) (N : EnvD → Nat → Prop) : Prop := ∀ σ G H v, AtS K G σ Γ → Ext G H → Vial a n G H → At K G v d →
  ∀ Q : L2.St → Hp → Prop, (∀ σ' Γ' m G' H', Grow a G H G' H' → Vial a m G' H' → AtS K G' σ' Γ' → N Γ' m → Q σ' H') → g v σ H Q
def GsM (K : PySem.W.Frag) (a : Option Addr) (g : TGs) (ds : List D) (Γ : EnvD) (n : Nat) (N : EnvD → Nat → Prop) : Prop := ∀ σ G H vs, AtS K G σ Γ → Ext G H → Vial a n G H → AtL K G vs ds →
  ∀ Q : L2.St → Hp → Prop, (∀ σ' Γ' m G' H', Grow a G H G' H' → Vial a m G' H' → AtS K G' σ' Γ' → N Γ' m → Q σ' H') → g vs σ H Q
theorem gm_name {i : Nat} (h : N (Γ.set i (some d)) n) : GM K a (gName i) d Γ n N := fun σ G H v S z w t Q q => q _ _ n G H (Grow.refl z) w (S.set i t) h
theorem gsm_nil (h : N Γ n) : GsM K a gNil [] Γ n N := fun σ G H vs S z w t Q q => by
  cases t
  exact ⟨rfl, q _ _ n G H (Grow.refl z) w S h⟩
theorem gsm_cons {g : TG} {gr : TGs} {ds : List D} (h : GM K a g d Γ n fun Γ' m => GsM K a gr ds Γ' m N) : GsM K a (gCons g gr) (d :: ds) Γ n N := fun σ G H vs S z w t Q q => by
  cases t with
  | cons t0 tr =>
    exact ⟨_, _, rfl, h σ G H _ S z w t0 _ fun σ1 Γ1 m G1 H1 g1 v1 S1 p1 => p1 σ1 G1 H1 _ S1 g1.i v1 (tr.mono g1.g) Q fun σ2 Γ2 m2 G2 H2 g2 v2 S2 p2 => q σ2 Γ2 m2 G2 H2 (g1.trans v1 g2) v2 S2 p2⟩
theorem gm_tup {k : Nat} {gs : TGs} {ds : List D} (hl : ds.length = k) (h : GsM K a gs ds Γ n N) : GM K a (gTup K k gs) (.tup ds) Γ n N := fun σ G H v S z w t Q q => by
  cases t with
  | tup hs l => exact ⟨_, _, rfl, hs.ext z, l.length.trans hl, h σ G H _ S z w l Q q⟩
theorem gm_unl {k : Nat} {gs : TGs} {ds : List D} (hl : ds.length = k) (h : GsM K a gs ds Γ n N) : GM K a (gUnl K k gs) (.lst ds) Γ n N := fun σ G H v S z w t Q q => by
  cases t with
  | lst hs l => exact ⟨_, _, rfl, .inl (.inl (z _ _ hs)), l.length.trans hl, h σ G H _ S z w l Q q⟩
theorem sm_asgG {g : TG} (h : EvM K a te Γ n fun d m => GM K a g d Γ m N) : SM K a (tAsg te g) Γ n N R := fun σ G H S z v Dn hn _ =>
  h σ G H S z v _ fun w d m G1 H1 g1 v1 t1 p1 => p1 σ G1 H1 w (S.mono g1.g) g1.i v1 t1 _ fun σ2 Γ2 m2 G2 H2 g2 v2 S2 p2 => hn σ2 Γ2 m2 G2 H2 (g1.trans v1 g2) v2 S2 p2
theorem sm_par {i j : Nat} (h : AvM K a t Γ n fun ds m => ∃ x y, ds = [x, y] ∧ N ((Γ.set i (some x)).set j (some y)) m) : SM K a (tPar i j t) Γ n N R := fun σ G H S z v Dn hn _ =>
  h σ G H S z v _ fun vs ds m G1 H1 g1 v1 t1 ⟨x, y, e, p⟩ => by
    subst e
    cases t1 with
    | cons ha l => cases l with | cons hb l2 => cases l2; exact ⟨_, _, rfl, hn _ _ m G1 H1 g1 v1 (((S.mono g1.g).set i ha).set j hb) p⟩
theorem ext_lst {G H : Hp} (z : Ext G H) {p : Addr} {vs : List V} (h : G p = some (.lst vs)) : SqL K H p vs := .inl (.inl (z _ _ h))
/-! loops -/
theorem sm_forL {g : TG} (h : EvM K a tl Γ n fun d m => ∃ ds, d = .lst ds ∧ ∃ I : Nat → EnvD → Nat → Prop, I 0 Γ m ∧ (∀ i x Γ' l, ds[i]? = some x → I i Γ' l → GM K a g x Γ' l fun Γ2 l2 => SM K a tu Γ2 l2 (I (i + 1)) R) ∧ ∀ Γ' l, I ds.length Γ' l → N Γ' l) :
    SM K a (tFor (iList K tl) g tu) Γ n N R := fun σ G H S z v Dn hn hr =>
  h σ G H S z v _ fun w d m G1 H1 g1 v1 t1 ⟨ds, e, I, p0, ps, pe⟩ => by
    subst e
    cases t1 with
    | @lst p vs _ hs l =>
    refine ⟨p, rfl, ⟨vs, ext_lst g1.i hs⟩, for_list (xs := vs) (fun i σ' H' => ∃ Γ' l' G', Grow a G1 H1 G' H' ∧ Vial a l' G' H' ∧ AtS K G' σ' Γ' ∧ I i Γ' l') ⟨Γ, m, G1, Grow.refl g1.i, v1, S.mono g1.g, p0⟩ (fun i σ' H' _ ⟨_, _, G', g', _⟩ => ext_lst g'.i (g'.g _ _ hs)) ?_ ?_⟩
    · rintro i x σ' H' hx ⟨Γ', l', G', g', v', S', p'⟩
      obtain ⟨dx, e1, e2⟩ := l.get' hx
      refine ps i dx Γ' l' e1 p' σ' G' H' x S' g'.i v' (e2.mono g'.g) _ fun σ2 Γ2 m2 G2 H2 g2 v2 S2 p2 => ?_
      exact p2 σ2 G2 H2 S2 g2.i v2 _ (fun σ3 Γ3 m3 G3 H3 g3 v3 S3 p3 => ⟨Γ3, m3, G3, (g'.trans v' g2).trans v2 g3, v3, S3, p3⟩)
        fun w d m3 G3 H3 g3 v3 t3 p3 => hr w d m3 G3 H3 (g1.trans v1 ((g'.trans v' g2).trans v2 g3)) v3 t3 p3
    · rintro σ' H' ⟨Γ', l', G', g', v', S', p'⟩
      rw [l.length] at p'
      exact hn σ' Γ' l' G' H' (g1.trans v1 g') v' S' (pe Γ' l' p')
theorem sm_forT {g : TG} (h : EvM K a tl Γ n fun d m => ∃ ds, d = .tup ds ∧ ∃ I : Nat → EnvD → Nat → Prop, I 0 Γ m ∧ (∀ i x Γ' l, ds[i]? = some x → I i Γ' l → GM K a g x Γ' l fun Γ2 l2 => SM K a tu Γ2 l2 (I (i + 1)) R) ∧ ∀ Γ' l, I ds.length Γ' l → N Γ' l) :
    SM K a (tFor (iTup K tl) g tu) Γ n N R := fun σ G H S z v Dn hn hr =>
  h σ G H S z v _ fun w d m G1 H1 g1 v1 t1 ⟨ds, e, I, p0, ps, pe⟩ => by
    subst e
    cases t1 with
    | @tup p vs _ hs l =>
    refine ⟨p, rfl, ⟨vs, hs.ext g1.i⟩, for_tup (xs := vs) (fun i σ' H' => ∃ Γ' l' G', Grow a G1 H1 G' H' ∧ Vial a l' G' H' ∧ AtS K G' σ' Γ' ∧ I i Γ' l') ⟨Γ, m, G1, Grow.refl g1.i, v1, S.mono g1.g, p0⟩ (fun i σ' H' _ ⟨_, _, G', g', _⟩ => (hs.ext g'.g).ext g'.i) ?_ ?_⟩
    · rintro i x σ' H' hx ⟨Γ', l', G', g', v', S', p'⟩
      obtain ⟨dx, e1, e2⟩ := l.get' hx
      refine ps i dx Γ' l' e1 p' σ' G' H' x S' g'.i v' (e2.mono g'.g) _ fun σ2 Γ2 m2 G2 H2 g2 v2 S2 p2 => ?_
      exact p2 σ2 G2 H2 S2 g2.i v2 _ (fun σ3 Γ3 m3 G3 H3 g3 v3 S3 p3 => ⟨Γ3, m3, G3, (g'.trans v' g2).trans v2 g3, v3, S3, p3⟩)
        fun w d m3 G3 H3 g3 v3 t3 p3 => hr w d m3 G3 H3 (g1.trans v1 ((g'.trans v' g2).trans v2 g3)) v3 t3 p3
    · rintro σ' H' ⟨Γ', l', G', g', v', S', p'⟩
      rw [l.length] at p'
      exact hn σ' Γ' l' G' H' (g1.trans v1 g') v' S' (pe Γ' l' p')
theorem sm_forR {g : TG} {c : Nat} (h : AvM K a t Γ n fun ds m => ds = [.int c] ∧ c ≤ 1000000 ∧ ∃ I : Nat → EnvD → Nat → Prop, I 0 Γ m ∧ (∀ i Γ' l, i < c → I i Γ' l → GM K a g (.int i) Γ' l fun Γ2 l2 => SM K a tu Γ2 l2 (I (i + 1)) R) ∧ ∀ Γ' l, I c Γ' l → N Γ' l) :
    SM K a (tFor (iRng1 t) g tu) Γ n N R := fun σ G H S z v Dn hn hr =>
  h σ G H S z v _ fun us ds m G1 H1 g1 v1 t1 ⟨e, hc, I, p0, ps, pe⟩ => by
    subst e
    cases t1 with | cons hd tl => ?_
    cases tl; cases hd
    refine ⟨_, rfl, by omega, by omega, ?_⟩
    rw [Int.toNat_natCast]
    refine for_range (n := c) (fun i σ' H' => ∃ Γ' l' G', Grow a G1 H1 G' H' ∧ Vial a l' G' H' ∧ AtS K G' σ' Γ' ∧ I i Γ' l') ⟨Γ, m, G1, Grow.refl g1.i, v1, S.mono g1.g, p0⟩ ?_ ?_
    · rintro i σ' H' hi ⟨Γ', l', G', g', v', S', p'⟩
      rw [Int.zero_add]
      refine ps i Γ' l' hi p' σ' G' H' _ S' g'.i v' (.int i) _ fun σ2 Γ2 m2 G2 H2 g2 v2 S2 p2 => ?_
      exact p2 σ2 G2 H2 S2 g2.i v2 _ (fun σ3 Γ3 m3 G3 H3 g3 v3 S3 p3 => ⟨Γ3, m3, G3, (g'.trans v' g2).trans v2 g3, v3, S3, p3⟩)
        fun w d m3 G3 H3 g3 v3 t3 p3 => hr w d m3 G3 H3 (g1.trans v1 ((g'.trans v' g2).trans v2 g3)) v3 t3 p3
    · rintro σ' H' ⟨Γ', l', G', g', v', S', p'⟩
      exact hn σ' Γ' l' G' H' (g1.trans v1 g') v' S' (pe Γ' l' p')
/-! comprehensions -/
/-- between two turns: the list at Dd has what acc tells -/
def LcI (K : PySem.W.Frag) (a : Option Addr) (G1 H1 : Hp) (Dd : Addr) (I : Nat → List D → Nat → Prop) (i : Nat) (H' : Hp) : Prop :=
  ∃ acc vs l G', Grow a G1 H1 G' H' ∧ Vial a l G' H' ∧ G' Dd = none ∧ H' Dd = some (.lst vs) ∧ AtL K G' vs acc ∧ vs.length = i ∧ I i acc l
theorem lc_turn {j : Nat} {G1 H1 : Hp} {Dd : Addr} {I : Nat → List D → Nat → Prop} {i : Nat} {H' : Hp} {σ : L2.St} {x : V} {dx : D} (hi : i < 1000) (hf : H1 Dd = none) (hD : some Dd ≠ a) (S : AtS K G1 σ Γ) (p : LcI K a G1 H1 Dd I i H') (hx : ∀ G', Ext G1 G' → At K G' x dx)
    (ps : ∀ acc l, I i acc l → EvM K a te ((Γ.set j none).set j (some dx)) l fun y l' => I (i + 1) (acc ++ [y]) l') :
    gName j x (wipe σ [j]) H' fun σ2 H2 => wipe σ2 [j] = wipe σ [j] ∧ tYes σ2 H2 fun b H3 => if b = true then te σ2 H3 fun y H4 => ∃ acc, H4 Dd = some (.lst acc) ∧ acc.length < sizeLine ∧ LcI K a G1 H1 Dd I (i + 1) (upd H4 Dd (.lst (acc ++ [y]))) else LcI K a G1 H1 Dd I (i + 1) H3 := by
  obtain ⟨acc, vs, l, G', g', v', gD, hDd, tl, el, pi⟩ := p
  refine ⟨?_, ?_⟩
  · show ((((σ.set j none).set j (some x)).set j none)) = σ.set j none
    rw [List.set_set, List.set_set]
  · simp only [tYes, ↓reduceIte]
    have S2 : AtS K G' ((wipe σ [j]).set j (some x)) ((Γ.set j none).set j (some dx)) := ((S.mono g'.g).put j).set j (hx G' g'.g)
    refine ps acc l pi _ G' H' S2 g'.i v' _ fun y dy l' G2 H2 g2 v2 t2 p2 => ?_
    have e2 : H2 Dd = some (.lst vs) := g2.h Dd _ hD hDd
    have gD2 : G2 Dd = none := by
      cases k : G2 Dd with
      | none => rfl
      | some o =>
        rcases g2.n Dd (by rw [k]; simp) with z | z
        · exact absurd gD z
        · rw [hDd] at z; cases z
    refine ⟨vs, e2, by rw [el]; exact Nat.lt_of_lt_of_le hi (by decide), acc ++ [dy], vs ++ [y], l', G2, ?_, ?_, gD2, upd_same, (tl.mono g2.g).append (.cons t2 .nil), by rw [List.length_append, el]; rfl, p2⟩
    · have gu : Grow none G2 H2 G2 H2 := Grow.refl g2.i
      have gt := g'.trans v' g2
      refine ⟨gt.g, fun b o hb e => ?_, fun b o e => ?_, gt.n⟩
      · by_cases hbD : b = Dd
        · subst hbD; rw [hf] at e; cases e
        · rw [upd_ne hbD]; exact gt.h b o hb e
      · by_cases hbD : b = Dd
        · subst hbD; rw [gD2] at e; cases e
        · rw [upd_ne hbD]; exact gt.i b o e
    · intro b hb
      obtain ⟨q1, q2, q3, q4, q5, q6⟩ := v2 b hb
      refine ⟨q1, q2, q3, q4, ?_, q6⟩
      rw [upd_ne (by intro z; subst z; exact hD hb.symm)]
      exact q5
theorem lc_start {G1 H1 : Hp} {Dd : Addr} {I : Nat → List D → Nat → Prop} {m : Nat} (i1 : Ext G1 H1) (v1 : Vial a m G1 H1) (hf : H1 Dd = none) (p0 : I 0 [] m) : LcI K a G1 H1 Dd I 0 (upd H1 Dd (.lst [])) := by
  have gD : G1 Dd = none := by
    cases k : G1 Dd with
    | none => rfl
    | some u => rw [i1 Dd u k] at hf; cases hf
  have gh := Grow.hid (o := .lst []) i1 hf
  exact ⟨[], [], m, G1, gh.any, v1.grow gh, gD, upd_same, .nil, rfl, p0⟩
theorem lc_end {G1 H1 : Hp} {Dd : Addr} {I : Nat → List D → Nat → Prop} {c : Nat} {H' : Hp} (hf : H1 Dd = none) (hD : some Dd ≠ a) (p : LcI K a G1 H1 Dd I c H') {Q : VK}
    (q : ∀ w d m G' H', Grow a G1 H1 G' H' → Vial a m G' H' → At K G' w d → Φ d m → Q w H') (k : ∀ acc l, acc.length = c → I c acc l → Φ (.lst acc) l) : Q (.ref Dd) H' := by
  obtain ⟨acc, vs, l, G', g', v', gD, hDd, tl, el, pi⟩ := p
  have gf : Grow a G1 H1 (upd G' Dd (.lst vs)) H' := ⟨g'.g.trans (Ext.upd gD), g'.h, fun b u e => by
      by_cases hb : b = Dd
      · subst hb; rw [upd_same] at e; cases e; exact hDd
      · rw [upd_ne hb] at e; exact g'.i b u e, fun b hb => by
    by_cases h2 : b = Dd
    · subst h2; exact .inr hf
    · rw [upd_ne h2] at hb; exact g'.n b hb⟩
  refine q _ _ l _ _ gf (fun b hb => ?_) (.lst upd_same (tl.mono (Ext.upd gD))) (k acc l (by rw [← tl.length, el]) pi)
  obtain ⟨q1, q2, q3, q4, q5, q6⟩ := v' b hb
  refine ⟨?_, q2, q3, q4, q5, q6⟩
  by_cases h2 : b = Dd
  · subst h2; exact absurd hb.symm hD
  · rw [upd_ne h2]; exact q1
theorem dne_of {G1 H1 : Hp} {m : Nat} {Dd : Addr} (v1 : Vial a m G1 H1) (hf : H1 Dd = none) : some Dd ≠ a := by
  intro e
  obtain ⟨_, p, q, r, z, _⟩ := v1 Dd e.symm
  rw [hf] at z; cases z
theorem em_lcL {j : Nat} (h : EvM K a tl Γ n fun d m => ∃ ds, d = .lst ds ∧ ds.length ≤ 1000 ∧ ∃ I : Nat → List D → Nat → Prop, I 0 [] m ∧
      (∀ i x acc l, ds[i]? = some x → I i acc l → EvM K a te ((Γ.set j none).set j (some x)) l fun y l' => I (i + 1) (acc ++ [y]) l') ∧ ∀ acc l, acc.length = ds.length → I ds.length acc l → Φ (.lst acc) l) :
    EvM K a (tLc (iList K tl) (gName j) tYes te [j]) Γ n Φ := fun σ G H S z v Q q =>
  h σ G H S z v _ fun w d m G1 H1 g1 v1 t1 ⟨ds, e, hlen, I, p0, ps, pe⟩ => by
    subst e
    cases t1 with
    | @lst p vs _ hs l =>
    refine ⟨p, rfl, ⟨vs, ext_lst g1.i hs⟩, fun Dd hf => ?_⟩
    have hD := dne_of v1 hf
    refine lc_list (xs := vs) (LcI K a G1 H1 Dd I) (lc_start g1.i v1 hf p0) (fun i H' _ ⟨_, _, _, G', g', _⟩ => ext_lst g'.i (g'.g _ _ hs)) (fun i x H' hx p' => ?_) fun H' p' => ?_
    · obtain ⟨dx, e1, e2⟩ := l.get' hx
      have hi : i < vs.length := (List.getElem?_eq_some_iff.mp hx).1
      exact lc_turn (by rw [l.length] at hi; omega) hf hD (S.mono g1.g) p' (fun G' e => e2.mono e) fun acc l' => ps i dx acc l' e1
    · exact lc_end hf hD p' (fun w d m2 G2 H2 g2 v2 t2 p2 => q w d m2 G2 H2 (g1.trans v1 g2) v2 t2 p2) fun acc l' e => by
        rw [l.length] at e ⊢
        exact pe acc l' e
theorem em_lcT {j : Nat} (h : EvM K a tl Γ n fun d m => ∃ ds, d = .tup ds ∧ ds.length ≤ 1000 ∧ ∃ I : Nat → List D → Nat → Prop, I 0 [] m ∧
      (∀ i x acc l, ds[i]? = some x → I i acc l → EvM K a te ((Γ.set j none).set j (some x)) l fun y l' => I (i + 1) (acc ++ [y]) l') ∧ ∀ acc l, acc.length = ds.length → I ds.length acc l → Φ (.lst acc) l) :
    EvM K a (tLc (iTup K tl) (gName j) tYes te [j]) Γ n Φ := fun σ G H S z v Q q =>
  h σ G H S z v _ fun w d m G1 H1 g1 v1 t1 ⟨ds, e, hlen, I, p0, ps, pe⟩ => by
    subst e
    cases t1 with
    | @tup p vs _ hs l =>
    refine ⟨p, rfl, ⟨vs, hs.ext g1.i⟩, fun Dd hf => ?_⟩
    have hD := dne_of v1 hf
    refine lc_tup (xs := vs) (LcI K a G1 H1 Dd I) (lc_start g1.i v1 hf p0) (fun i H' _ ⟨_, _, _, G', g', _⟩ => (hs.ext g'.g).ext g'.i) (fun i x H' hx p' => ?_) fun H' p' => ?_
    · obtain ⟨dx, e1, e2⟩ := l.get' hx
      have hi : i < vs.length := (List.getElem?_eq_some_iff.mp hx).1
      exact lc_turn (by rw [l.length] at hi; omega) hf hD (S.mono g1.g) p' (fun G' e => e2.mono e) fun acc l' => ps i dx acc l' e1
    · exact lc_end hf hD p' (fun w d m2 G2 H2 g2 v2 t2 p2 => q w d m2 G2 H2 (g1.trans v1 g2) v2 t2 p2) fun acc l' e => by
        rw [l.length] at e ⊢
        exact pe acc l' e
theorem em_lcR {j c : Nat} (h : AvM K a t Γ n fun ds m => ds = [.int c] ∧ c ≤ 1000 ∧ ∃ I : Nat → List D → Nat → Prop, I 0 [] m ∧
      (∀ i acc l, i < c → I i acc l → EvM K a te ((Γ.set j none).set j (some (.int i))) l fun y l' => I (i + 1) (acc ++ [y]) l') ∧ ∀ acc l, acc.length = c → I c acc l → Φ (.lst acc) l) :
    EvM K a (tLc (iRng1 t) (gName j) tYes te [j]) Γ n Φ := fun σ G H S z v Q q =>
  h σ G H S z v _ fun us ds m G1 H1 g1 v1 t1 ⟨e, hc, I, p0, ps, pe⟩ => by
    subst e
    cases t1 with | cons hd tl => ?_
    cases tl; cases hd
    refine ⟨_, rfl, by omega, by omega, fun Dd hf => ?_⟩
    have hD := dne_of v1 hf
    rw [Int.toNat_natCast]
    refine lc_range (n := c) (LcI K a G1 H1 Dd I) (lc_start g1.i v1 hf p0) (fun i H' hi p' => ?_) fun H' p' => ?_
    · rw [Int.zero_add]
      exact lc_turn (by omega) hf hD (S.mono g1.g) p' (fun G' e => .int _) fun acc l' => ps i acc l' hi
    · exact lc_end hf hD p' (fun w d m2 G2 H2 g2 v2 t2 p2 => q w d m2 G2 H2 (g1.trans v1 g2) v2 t2 p2) pe
theorem atl1 {G : Hp} {us : List V} {x : D} (h : AtL K G us [x]) : ∃ u, us = [u] ∧ At K G u x := by
  cases h with | cons a l => cases l; exact ⟨_, rfl, a⟩
theorem atl2 {G : Hp} {us : List V} {x y : D} (h : AtL K G us [x, y]) : ∃ u v, us = [u, v] ∧ At K G u x ∧ At K G v y := by
  cases h with | cons a l => obtain ⟨v, e, b⟩ := atl1 l; subst e; exact ⟨_, v, rfl, a, b⟩
theorem atl3 {G : Hp} {us : List V} {x y z : D} (h : AtL K G us [x, y, z]) : ∃ u v w, us = [u, v, w] ∧ At K G u x ∧ At K G v y ∧ At K G w z := by
  cases h with | cons a l => obtain ⟨v, w, e, b, c⟩ := atl2 l; subst e; exact ⟨_, v, w, rfl, a, b, c⟩
/-! truth -/
def truD : D → Option Bool
  | .non => some false | .bl b => some b | .int i => some (i != 0)
  | .tup ds => some !ds.isEmpty | .lst ds => some !ds.isEmpty | _ => none
theorem tm_tru {Φ : Bool → Nat → Prop} (h : EvM K a ta Γ n fun x m => ∃ b, truD x = some b ∧ Φ b m) : TvM K a (fun σ H Q => ta σ H fun x H' => ∃ k, TruV K x H' k ∧ Q k H') Γ n Φ := fun σ G H S i v Q q =>
  h σ G H S i v _ fun x dx m G1 H1 g1 v1 t1 ⟨b, e, p⟩ => by
    refine ⟨b, ?_, q b m G1 H1 g1 v1 p⟩
    cases t1 with
    | non => exact (Option.some.inj e).symm
    | bl c => exact (Option.some.inj e).symm
    | int c => exact (Option.some.inj e).symm
    | str c => simp [truD] at e
    | adr c => simp [truD] at e
    | ty c => simp [truD] at e
    | scr c => simp [truD] at e
    | ins _ _ => simp [truD] at e
    | @tup p vs ds hs l =>
      refine .inr (.inl ⟨vs, hs.ext g1.i, ?_⟩)
      rw [← Option.some.inj e]
      cases l <;> rfl
    | @lst p vs ds hs l =>
      refine .inl ⟨vs, ext_lst g1.i hs, ?_⟩
      rw [← Option.some.inj e]
      cases l <;> rfl
/-! isinstance against a built-in class -/
def tyD : D → Option String
  | .non => some "NoneType" | .bl _ => some "bool" | .int _ => some "int" | .str _ => some "str" | .tup _ => some "tuple" | .lst _ => some "list" | _ => none
theorem cm_isi {x : D} {T T' : String} {b : Bool} (hx : tyD x = some T) (hk : kitB T T' = some b) (hn : ∀ ds, x ≠ .tup ds) (k : Φ (.bl b) n) : CM K a (rIsi K) [x, .ty T'] n Φ := fun G H us l i v Q q => by
  obtain ⟨u1, u2, e, h1, h2⟩ := atl2 l
  subst e; cases h2
  refine ⟨_, _, .type T, .type T', b, rfl, .ty T', .base ?_, kit_ty hk, q _ _ n G H (Grow.refl i) v (.bl b) k⟩
  cases h1 with
  | non => simp [tyD] at hx; subst hx; exact .non
  | bl c => simp [tyD] at hx; subst hx; exact .bl c
  | int c => simp [tyD] at hx; subst hx; exact .int c
  | str c => simp [tyD] at hx; subst hx; exact .str c
  | adr c => simp [tyD] at hx
  | ty c => simp [tyD] at hx
  | scr c => simp [tyD] at hx
  | ins _ _ => simp [tyD] at hx
  | tup hs l => exact absurd rfl (hn _)
  | lst hs l => simp [tyD] at hx; subst hx; exact .lst (i _ _ hs)
/-- isinstance against an own class, of an instance of it -/
structure IsiC (K : PySem.W.Frag) (C : Addr) : Prop where
  cl : Cls K C
  ha : PySem.W.findIn K (.ref C) "__class__" = some (some (.builtin "object.__class__"))
  hn : PySem.W.specialIn K (.builtin "object.__class__") "__get__" = some (some (.builtin "getset_descriptor.__get__"))
  htk : PySem.W.takesIn K (.builtin "object.__class__") = some true
  hm : PySem.W.mroIn K C (.type "object") = some true
theorem cm_isiC {C : Addr} {gs : List (Str × D)} (T : IsiC K C) (k : Φ (.bl true) n) : CM K a (rIsi K) [.ins C gs, .adr C] n Φ := fun G H us l i v Q q => by
  obtain ⟨u1, u2, e, h1, h2⟩ := atl2 l
  subst e; cases h2
  cases h1 with
  | ins hs l =>
    refine ⟨_, _, .ref C, .ref C, true, rfl, .own C, .base (.ins (i _ _ hs) T.cl T.ha T.hn T.htk T.hm), ?_, q _ _ n G H (Grow.refl i) v (.bl true) k⟩
    unfold PySem.W.kitOne
    simp
theorem cm_repr {x : D} (hp : pur x = true) (hr : ∃ ds, x = .tup ds ∨ x = .lst ds) (hs : (py x).showable = true) (hn : (py x).hasDict = false) (hd : (py x).depth ≤ 64) (hl : (py x).shown.length ≤ sizeLine) (k : Φ (.str (py x).shown) n) : CM K a (rRepr K) [x] n Φ := fun G H us l i v Q q => by
  obtain ⟨u1, e, h1⟩ := atl1 l
  subst e
  have dp := h1.dp i x hp
  obtain ⟨ds, hr | hr⟩ := hr
  · subst hr
    cases h1
    exact ⟨_, _, rfl, dp, hs, hn, hd, hl, q _ _ n G H (Grow.refl i) v (.str _) k⟩
  · subst hr
    cases h1
    exact ⟨_, _, rfl, dp, hs, hn, hd, hl, q _ _ n G H (Grow.refl i) v (.str _) k⟩
end
end DL

set_option linter.all false
set_option maxRecDepth 100000
set_option maxHeartbeats 4000000
namespace DL
open PySem PySem.Spec PyProof.Rows L2

/-! ### == and != of two instances of a class with an own ==, both answers -/
structure EqC (K : PySem.W.Frag) (C f : Addr) : Prop where
  eqF : PySem.W.findIn K (.ref C) "__eq__" = some (some (.ref f))
  isF : PySem.W.isFn K (.ref f) = true
  cls : ∃ (nm q : Str) (Ns : Addr) (bs : List Value) (hd : Bool) (sn : List Str) (sub : List Value) (ab : Bool) (col : Option Bool) (dd : Option Addr) (k0 k1 k2 k3 k5 : Option Value) (newId : String),
    K.lookup C = some (excClassObj nm q C Ns bs [.type "object"] hd sn sub ab col dd k0 k1 k2 k3 k5 newId) ∧ PySem.W.nsOkIn K Ns = true ∧ PySem.W.nsIn K Ns "__eq__" = some (some (.ref f)) ∧ PySem.W.nsIn K Ns "__ne__" = some none
theorem ns_get {K : PySem.W.Frag} {h : Heap} {B : Addr} {m : Str → Option Value} {x : Str} {v : Value} (X : K.In h) (hm : h.Ns B m) (e : PySem.W.nsIn K B x = some (some v)) : m x = some v := by
  obtain ⟨o, es, ep, ho, hd, _, look⟩ := hm
  unfold PySem.W.nsIn at e
  cases k : K.lookup B with
  | none => rw [k] at e; cases e
  | some ob =>
    have eq := X _ _ k
    rw [ho] at eq
    cases Option.some.inj eq
    obtain ⟨c, dd, dat, sl⟩ := o
    cases hd
    rw [k] at e
    simp only at e
    rw [← look]
    unfold nsFind findBy
    rw [← Array.find?_toList]
    cases z : List.find? (fun en => en.key.isStr x) es.toList with
    | none => rw [z] at e; simp only at e; split at e <;> cases e
    | some en =>
      rw [z] at e
      have := Option.some.inj (Option.some.inj e)
      simp only [Value.isStrOf] at *
      first | (rw [z]; exact congrArg some this) | (simp_all)
def rOwn (C : Addr) (sp : Sp) (neg : Bool) : R2 := fun x y H Q => ∃ a b dx dy fs gs, x = .ref a ∧ y = .ref b ∧ H a = some (.ins C dx fs) ∧ H b = some (.ins C dy gs) ∧ sp [x, y] H (fun v H' => ∃ c, v = .bl c ∧ Q (.bl (neg != c)) H') fun _ _ _ => False
section
variable {X : Cx} {n : Nat} {C f : Addr} {fd : FuncData} {ps : List Str} {sp : Sp}
theorem own_run {pins : List (Addr × Obj)} {σ : L2.St} {H : Hp} {s : Shared} {A : Around} {a b : Addr} {Q : VK} {R : Value → Shared → Prop} {neg : Bool} (F : FnOk X.prog X.w X.K X.mg X.base CX0 n f fd ps sp) (hb : Binds X.K fd ps []) (hrm : Room n A) (hfr : A.frames = X.A.frames)
    (I : Inv X pins σ H s) (h : sp [.ref a, .ref b] H (fun v H' => ∃ c, v = .bl c ∧ Q (.bl (neg != c)) H') fun _ _ _ => False)
    (k : ∀ c s', EP X pins σ Q (.bool (neg != c)) s' → R (.bool c) s') : wpAny (model X.prog X.w) A (call (.ref f) [.ref a, .ref b]) R X.xe s := by
  have e0 : Env0 X.prog X.w X.K X.mg X.base A X.stack s H := by
    have e := I.env0
    exact ⟨by rw [hfr]; exact e.frames, e.mod, e.bs, e.bsz, e.funs, e.frf, e.hok, e.bare⟩
  have hl := F.len _ _ _ _ h
  have r2 : Vals [V.ref a, V.ref b] [Value.ref a, Value.ref b] := .cons rfl (.cons rfl .nil)
  have bb : BindsTo s fd ⟨[.ref a, .ref b], []⟩ (ps.zip [.ref a, .ref b]) := by
    have := hb s [.ref a, .ref b] I.kIn (by simpa using hl)
    simpa using this
  refine wpAny_call (codeAny_mono (F.run A X.stack s H _ _ _ _ _ hrm e0 bb r2 h) fun r s' hq => ?_)
  match r, hq with
  | .error e, hq => exact hq.elim
  | .ok (.ret w), hq =>
    obtain ⟨z, H', I', rz, c, ez, q⟩ := I.after hq
    subst ez
    cases rz
    exact k c s' ⟨.bl (neg != c), H', I', rfl, q⟩
theorem op_eqOwn (T : EqC X.K C f) (F : FnOk X.prog X.w X.K X.mg X.base CX0 n f fd ps sp) (hb : Binds X.K fd ps []) (hr : Room n X.A) : OpR X (compareOp .Eq) (rOwn C sp false) := by
  intro pins s σ H x y v u Q I rx ry h
  obtain ⟨a, b, dx, dy, fs, gs, rfl, rfl, ha, hb', hsp⟩ := h
  cases rx
  cases ry
  obtain ⟨mA, J, _⟩ := ins_get I.hok ha
  obtain ⟨mB, J', _⟩ := ins_get I.hok hb'
  obtain ⟨od, J, _⟩ := J.look
  obtain ⟨od', J', _⟩ := J'.look
  obtain ⟨m, hF⟩ := I.fr
  show wpAny (model X.prog X.w) X.A (richCompare .Eq (.ref a) (.ref b)) _ _ _
  refine PySem.W.cmp_K (op := .Eq) (tb := .ref C) hr.units0 hF I.ok.mod.kin J J'.type (by simp [PySem.W.notFirst]) T.eqF T.isF ?_
  refine own_run (neg := false) F hb hr rfl I hsp fun c s' q => ?_
  cases c <;> exact q
theorem op_neOwn (T : EqC X.K C f) (F : FnOk X.prog X.w X.K X.mg X.base CX0 n f fd ps sp) (hb : Binds X.K fd ps []) (hr : Room (n + 1) X.A) : OpR X (compareOp .NotEq) (rOwn C sp true) := by
  intro pins s σ H x y v u Q I rx ry h
  obtain ⟨a, b, dx, dy, fs, gs, rfl, rfl, ha, hb', hsp⟩ := h
  cases rx
  cases ry
  obtain ⟨mA, J, _⟩ := ins_get I.hok ha
  obtain ⟨mB, J', _⟩ := ins_get I.hok hb'
  obtain ⟨nm, q, Ns, bs, hd, sn, sub, ab, col, dd, k0, k1, k2, k3, k5, newId, hC, hok, he, hne⟩ := T.cls
  obtain ⟨hp, g, dr, tk, os⟩ := s
  have KI : X.K.In hp := I.kIn
  have tF := T.isF
  have hf : ∃ of : Obj, hp.get? f = some of ∧ of.cls = .type "function" := by
    have tG : (X.K.lookup f).map (·.cls) = some (.type "function") := by simpa [PySem.W.isFn, PySem.W.typeIn] using tF
    cases e : X.K.lookup f with
    | none => rw [e] at tG; cases tG
    | some o => rw [e] at tG; exact ⟨o, KI _ _ e, Option.some.inj tG⟩
  obtain ⟨of, hfo, hfc⟩ := hf
  obtain ⟨oa, ha1, ha2⟩ : ∃ o : Obj, hp.get? a = some o ∧ o.cls = .ref C := by
    obtain ⟨_, _, _, e, _⟩ := I.hok a _ ha
    exact ⟨_, e, rfl⟩
  obtain ⟨ob, hb1, hb2⟩ : ∃ o : Obj, hp.get? b = some o ∧ o.cls = .ref C := by
    obtain ⟨_, _, _, e, _⟩ := I.hok b _ hb'
    exact ⟨_, e, rfl⟩
  have own : hp.OwnEqNoNe a C f "object" [.type "object"] :=
    ⟨oa, of, nm, q, Ns, bs, hd, sn, sub, ab, col, dd, k0, k1, k2, k3, k5, newId, hp.nsMap Ns, _, ha1, ha2, KI _ _ hC, .of_isNs (PySem.W.isNs_of_in KI hok), ns_get KI (.of_isNs (PySem.W.isNs_of_in KI hok)) he, hfo, hfc, PySem.F.mro_object, by rw [typeLookup_type]; rfl, PySem.W.nsMap_none_of_in KI hok hne⟩
  refine compareOp_ne_ownEq PySem.F.cmp_object own hb1 hb2 (by have := hr.un; omega) ?_
  refine own_run (neg := true) F hb (hr.in1) rfl I hsp fun c s' q => ⟨c, rfl, ?_⟩
  cases c <;> exact q
end
section
variable {K : PySem.W.Frag} {a : Option Addr} {n : Nat} {Φ : D → Nat → Prop}
theorem rm_own {C : Addr} {neg : Bool} {gs hs : List (Str × D)} {P : List D → (D → Prop) → Prop} (h : P [.ins C gs, .ins C hs] fun d => ∃ c, d = .bl c ∧ Φ (.bl (neg != c)) n) : RM K a (rOwn C (spP K P) neg) (.ins C gs) (.ins C hs) n Φ := fun G H u v tu tv i v1 Q q => by
  have l : AtL K G [u, v] [.ins C gs, .ins C hs] := .cons tu (.cons tv .nil)
  cases tu with
  | ins h1 _ =>
    cases tv with
    | ins h2 _ =>
      exact ⟨_, _, _, _, _, _, rfl, rfl, i _ _ h1, i _ _ h2, G, _, _, i, l, h, fun w d G' H' g t ⟨c, e, p⟩ => by
        subst e; cases t
        exact ⟨c, rfl, q _ _ n G' H' g.any (v1.grow g) (.bl _) p⟩⟩
end
end DL

set_option linter.all false
set_option maxRecDepth 100000
set_option maxHeartbeats 4000000
namespace DL
open PySem PySem.Spec PyProof.Rows L2

section
variable {K : PySem.W.Frag} {a : Option Addr} {Γ : EnvD} {n : Nat} {Φ : D → Nat → Prop} {N : EnvD → Nat → Prop} {R : D → Nat → Prop}
theorem rm_eqI {i j : Int} (k : Φ (.bl (decide (i = j))) n) : RM K a rEq (.int i) (.int j) n Φ := fun G H u v tu tv z v1 Q q => by
  cases tu; cases tv
  refine ⟨rfl, ?_⟩
  have e : decide (V.int i = V.int j) = decide (i = j) := decide_eq_decide.mpr ⟨fun h => by injection h, fun h => by rw [h]⟩
  rw [e]
  exact q _ _ n G H (Grow.refl z) v1 (.bl _) k
theorem rm_neI {i j : Int} (k : Φ (.bl (!decide (i = j))) n) : RM K a rNe (.int i) (.int j) n Φ := fun G H u v tu tv z v1 Q q => by
  cases tu; cases tv
  refine ⟨rfl, ?_⟩
  have e : decide (V.int i = V.int j) = decide (i = j) := decide_eq_decide.mpr ⟨fun h => by injection h, fun h => by rw [h]⟩
  rw [e]
  exact q _ _ n G H (Grow.refl z) v1 (.bl _) k
theorem rm_eqS {i j : Str} (k : Φ (.bl (decide (i = j))) n) : RM K a rEq (.str i) (.str j) n Φ := fun G H u v tu tv z v1 Q q => by
  cases tu; cases tv
  refine ⟨rfl, ?_⟩
  have e : decide (V.str i = V.str j) = decide (i = j) := decide_eq_decide.mpr ⟨fun h => by injection h, fun h => by rw [h]⟩
  rw [e]
  exact q _ _ n G H (Grow.refl z) v1 (.bl _) k
theorem rm_neS {i j : Str} (k : Φ (.bl (!decide (i = j))) n) : RM K a rNe (.str i) (.str j) n Φ := fun G H u v tu tv z v1 Q q => by
  cases tu; cases tv
  refine ⟨rfl, ?_⟩
  have e : decide (V.str i = V.str j) = decide (i = j) := decide_eq_decide.mpr ⟨fun h => by injection h, fun h => by rw [h]⟩
  rw [e]
  exact q _ _ n G H (Grow.refl z) v1 (.bl _) k
theorem rm_lt {g : Int → Int → Bool} {i j : Int} (k : Φ (.bl (g i j)) n) : RM K a (rI0 fun i j => .bl (g i j)) (.int i) (.int j) n Φ := rm_I0 (fun _ => .bl _) k
theorem rm_add {i j : Int} (k : Φ (.int (i + j)) n) : RM K a (rI0 fun i j => .int (i + j)) (.int i) (.int j) n Φ := rm_I0 (fun _ => .int _) k
theorem rm_sub {i j : Int} (k : Φ (.int (i - j)) n) : RM K a (rI0 fun i j => .int (i - j)) (.int i) (.int j) n Φ := rm_I0 (fun _ => .int _) k
theorem rm_C {C : Int → Int → Prop} {g : Int → Int → Int} {i j : Int} (hc : C i j) (k : Φ (.int (g i j)) n) : RM K a (rI C fun i j => .int (g i j)) (.int i) (.int j) n Φ := rm_I hc (fun _ => .int _) k
theorem cm_neg {i : Int} (k : Φ (.int (-i)) n) : CM K a (fun us H Q => ∃ u, us = [u] ∧ rU (fun i => .int (-i)) u H Q) [.int i] n Φ := fun G H us l z v Q q => by
  obtain ⟨u, e, h⟩ := atl1 l
  subst e; cases h
  exact ⟨_, rfl, i, rfl, q _ _ n G H (Grow.refl z) v (.int _) k⟩
theorem atl_ints {G : Hp} : ∀ {is : List Int} {us : List V}, AtL K G us (is.map D.int) → us = is.map V.int
  | [], us, h => by cases h; rfl
  | i :: is, us, h => by
    cases h with
    | cons a l => cases a; rw [atl_ints l]; rfl
theorem inV_ints (i : Int) : ∀ is : List Int, inV (V.int i) (is.map V.int) = is.any fun j => decide (j = i)
  | [] => rfl
  | j :: is => by
    have ih := inV_ints i is
    unfold inV at ih ⊢
    rw [List.map_cons, List.any_cons, List.any_cons, ih]
    congr 1
theorem flat_ints : ∀ is : List Int, (is.map V.int).all flatV = true
  | [] => rfl
  | j :: is => by rw [List.map_cons, List.all_cons, flat_ints is]; rfl
theorem rm_in {neg : Bool} {i : Int} (is : List Int) {ds : List D} (e : ds = is.map D.int) (k : Φ (.bl (if neg then !(is.any fun j => decide (j = i)) else is.any fun j => decide (j = i))) n) : RM K a (rIn K neg) (.int i) (.tup ds) n Φ := fun G H u v tu tv z v1 Q q => by
  subst e
  cases tu
  cases tv with
  | tup hs l =>
    have eu := atl_ints l
    subst eu
    refine ⟨_, _, rfl, .inr (hs.ext z), rfl, flat_ints is, ?_⟩
    rw [inV_ints]
    exact q _ _ n G H (Grow.refl z) v1 (.bl _) k
theorem cm_len {x : D} {ds : List D} (hx : x = .lst ds ∨ x = .tup ds) (k : Φ (.int ds.length) n) : CM K a (fun xs H Q => ∃ p ys, xs = [.ref p] ∧ (SqL K H p ys ∨ SqT K H p ys) ∧ Q (.int ys.length) H) [x] n Φ := fun G H us l z v Q q => by
  obtain ⟨u, e, h⟩ := atl1 l
  subst e
  rcases hx with hx | hx
  · subst hx
    cases h with
    | lst hs l => exact ⟨_, _, rfl, .inl (ext_lst z hs), by rw [l.length]; exact q _ _ n G H (Grow.refl z) v (.int _) k⟩
  · subst hx
    cases h with
    | tup hs l => exact ⟨_, _, rfl, .inr (hs.ext z), by rw [l.length]; exact q _ _ n G H (Grow.refl z) v (.int _) k⟩
theorem cm_int1 {i : Int} (k : Φ (.int i) n) : CM K a (fun xs H Q => (∃ i, xs = [.int i] ∧ Q (.int i) H) ∨ ∃ k, xs = [.bl k] ∧ Q (.int (if k then 1 else 0)) H) [.int i] n Φ := fun G H us l z v Q q => by
  obtain ⟨u, e, h⟩ := atl1 l
  subst e; cases h
  exact .inl ⟨i, rfl, q _ _ n G H (Grow.refl z) v (.int _) k⟩
theorem cm_abs {i : Int} (k : Φ (.int (if i < 0 then -i else i)) n) : CM K a (fun xs H Q => ∃ i, xs = [.int i] ∧ Q (.int (if i < 0 then -i else i)) H) [.int i] n Φ := fun G H us l z v Q q => by
  obtain ⟨u, e, h⟩ := atl1 l
  subst e; cases h
  exact ⟨i, rfl, q _ _ n G H (Grow.refl z) v (.int _) k⟩
theorem atl_bools {G : Hp} : ∀ {is : List Bool} {us : List V}, AtL K G us (is.map D.bl) → us = is.map V.bl
  | [], us, h => by cases h; rfl
  | i :: is, us, h => by
    cases h with
    | cons a l => cases a; rw [atl_bools l]; rfl
theorem cm_all (bs : List Bool) {x : D} (hx : x = .lst (bs.map D.bl)) (k : Φ (.bl (bs.all id)) n) : CM K a (rAll K) [x] n Φ := fun G H us l z v Q q => by
  subst hx
  obtain ⟨u, e, h⟩ := atl1 l
  subst e
  cases h with
  | lst hs l =>
    have eu := atl_bools l
    subst eu
    exact ⟨_, bs, rfl, ext_lst z hs, q _ _ n G H (Grow.refl z) v (.bl _) k⟩
/-- a body that returns, without a drawing list -/
theorem body_P {P : List D → (D → Prop) → Prop} {t : TS} {Ns : List Str} {vs : List V} {H : Hp} {Q : VK} {E : XK} (h : spP K P vs H Q E) (k : ∀ ds Φ, P ds Φ → SM K none t (startD Ns ds) 0 (fun _ _ => Φ .non) fun d _ => Φ d) : t { nx := fun _ H' => Q .non H', rt := Q } (start Ns vs) H := by
  obtain ⟨G, ds, Φ, i, l, p, q⟩ := h
  exact k ds Φ p _ G H (AtS.start l) i Vial.no _ (fun σ' Γ' m G' H' g _ _ z => q .non .non G' H' g .non z) fun v d m G' H' g _ t z => q v d G' H' g t z
theorem len_P {P : List D → (D → Prop) → Prop} {c : Nat} {vs : List V} {H : Hp} {Q : VK} {E : XK} (h : spP K P vs H Q E) (k : ∀ ds Φ, P ds Φ → ds.length = c) : vs.length = c := by
  obtain ⟨G, ds, Φ, i, l, p, q⟩ := h
  rw [l.length]
  exact k ds Φ p
theorem body_V {P : List D → Nat → (D → Nat → Prop) → Prop} {t : TS} {Ns : List Str} {vs : List V} {H : Hp} {Q : VK} {E : XK} (h : spV K P vs H Q E) (k : ∀ b ds m Φ, m ≤ 1000000 → P ds m Φ → SM K (some b) t (startD Ns (.adr b :: ds)) m (fun _ l => Φ .non l) Φ) : t { nx := fun _ H' => Q .non H', rt := Q } (start Ns vs) H := by
  obtain ⟨G, b, us, m, ds, Φ, e, i, v, l, p, q⟩ := h
  subst e
  obtain ⟨_, _, _, _, _, _, _, hm⟩ := v b rfl
  exact k b ds m Φ hm p _ G H (AtS.start (.cons (.adr b) l)) i v _ (fun σ' Γ' m G' H' g v' _ z => q .non .non m G' H' g v' .non z) fun v d m G' H' g v' t z => q v d m G' H' g v' t z
theorem len_V {P : List D → Nat → (D → Nat → Prop) → Prop} {c : Nat} {vs : List V} {H : Hp} {Q : VK} {E : XK} (h : spV K P vs H Q E) (k : ∀ ds m Φ, P ds m Φ → ds.length + 1 = c) : vs.length = c := by
  obtain ⟨G, b, us, m, ds, Φ, e, i, v, l, p, q⟩ := h
  subst e
  rw [List.length_cons, l.length]
  exact k ds m Φ p
end
end DL

set_option linter.all false
set_option maxRecDepth 100000
set_option maxHeartbeats 4000000
namespace DL
open PySem PySem.Spec PyProof.Rows L2
section
variable {K : PySem.W.Frag} {C : Addr}
theorem ats3 {G : Hp} {σ : L2.St} {x : Addr} {d1 d2 : D} (S : AtS K G σ [some (.adr x), some d1, some d2]) : ∃ u1 u2, σ = [some (.ref x), some u1, some u2] ∧ At K G u1 d1 ∧ At K G u2 d2 := by
  cases S with | val h0 S => cases S with | val h1 S => cases S with | val h2 S => cases S; cases h0; exact ⟨_, _, rfl, h1, h2⟩
/-- an __init__ that looks at its two arguments and stores them -/
theorem init2 {f1 f2 : Str} {t1 t2 : TS} (cl : Cls K C) (n1 : NoAttr K C f1) (n2 : NoAttr K C f2) (hne : f1 ≠ f2) {P : List D → (List (Str × D) → Prop) → Prop} {vs : List V} {H : Hp} {Q : VK} {E : XK} (h : spI K C P vs H Q E)
    (hP : ∀ ds Φ, P ds Φ → ∃ d1 d2, ds = [d1, d2] ∧ Φ [(f1, d1), (f2, d2)] ∧ ∀ x, SM K none t1 [some (.adr x), some d1, some d2] 0 (fun Γ' m => SM K none t2 Γ' m (fun Γ2 _ => Γ2 = [some (.adr x), some d1, some d2]) fun _ _ => False) fun _ _ => False) {Ns : List Str} (hN : Ns.length = 3) :
    (tSeq t1 (tSeq t2 (tSeq (sFld K (tVar 0) (tVar 1) f1) (sFld K (tVar 0) (tVar 2) f2)))) { nx := fun _ H' => Q .non H', rt := Q } (start Ns vs) H := by
  obtain ⟨G, x, dx, us, ds, Φ, e, i, gx, hx, l, p, k⟩ := h
  obtain ⟨d1, d2, e2, pf, hs⟩ := hP ds Φ p
  subst e e2
  have S : AtS K G (start Ns (.ref x :: us)) [some (.adr x), some d1, some d2] := by
    have := AtS.start (N := Ns) (AtL.cons (At.adr x) l)
    have e3 : startD Ns (.adr x :: [d1, d2]) = [some (.adr x), some d1, some d2] := by
      unfold startD
      rw [hN]
      rfl
    rw [e3] at this
    exact this
  refine hs x _ G H S i Vial.no _ (fun σ1 Γ1 m1 G1 H1 g1 v1 S1 p1 => ?_) fun v d m G' H' _ _ _ z => z.elim
  refine p1 σ1 G1 H1 S1 g1.i v1 _ (fun σ2 Γ2 m2 G2 H2 g2 v2 S2 p2 => ?_) fun v d m G' H' _ _ _ z => z.elim
  subst p2
  have g := g1.trans v1 g2
  obtain ⟨u1, u2, es, h1, h2⟩ := ats3 S2
  subst es
  have hx2 : H2 x = some (.ins C dx []) := g.h x _ (by simp) hx
  have gx2 : G2 x = none := by
    cases q : G2 x with
    | none => rfl
    | some o =>
      rcases g.n x (by rw [q]; simp) with z | z
      · exact absurd gx z
      · rw [hx] at z; cases z
  refine ⟨u1, rfl, .ref x, rfl, x, C, dx, [], rfl, hx2, cl, n1, by decide, ?_⟩
  refine ⟨u2, rfl, .ref x, rfl, x, C, dx, _, rfl, upd_same, cl, n2, by show 1 < 1000; decide, ?_⟩
  have ef : putF f2 u2 (putF f1 u1 []) = [(f1, u1), (f2, u2)] := by
    show (if f1 = f2 then _ else (f1, u1) :: putF f2 u2 []) = _
    rw [if_neg hne]
    rfl
  refine k [(f1, u1), (f2, u2)] [(f1, d1), (f2, d2)] G2 _ ⟨g.g, fun b o hb e => ?_, fun b o e => ?_, g.n⟩ gx2 (by rw [upd_same, ef]) (.cons h1 (.cons h2 .nil)) pf
  · have hb' : b ≠ x := fun z => hb (by rw [z])
    rw [upd_ne hb', upd_ne hb']
    exact g.h b o (by simp) e
  · have hb' : b ≠ x := fun z => by rw [z, gx2] at e; cases e
    rw [upd_ne hb', upd_ne hb']
    exact g.i b o e
theorem len_I {P : List D → (List (Str × D) → Prop) → Prop} {c : Nat} {vs : List V} {H : Hp} {Q : VK} {E : XK} (h : spI K C P vs H Q E) (k : ∀ ds Φ, P ds Φ → ds.length + 1 = c) : vs.length = c := by
  obtain ⟨G, x, dx, us, ds, Φ, e, i, gx, hx, l, p, q⟩ := h
  subst e
  rw [List.length_cons, l.length]
  exact k ds Φ p
end
end DL

set_option linter.all false
set_option maxRecDepth 100000
set_option maxHeartbeats 4000000
namespace DL
open PySem PySem.Spec PyProof.Rows L2
theorem units128 {A : Around} {k : Nat} (hr : Room k A) : A.units + 128 < cLine := by have := hr.un; omega
section
variable {K : PySem.W.Frag} {a : Option Addr} {Γ : EnvD} {n : Nat} {Φ : D → Nat → Prop} {N : EnvD → Nat → Prop} {R : D → Nat → Prop} {te ta tb : TE} {t : TA} {E : XK}
def OvM (K : PySem.W.Frag) (a : Option Addr) (to : TO) (Γ : EnvD) (n : Nat) (Φ : Option Int → Nat → Prop) : Prop := ∀ σ G H, AtS K G σ Γ → Ext G H → Vial a n G H →
  ∀ Q : Option Int → Hp → Prop, (∀ o m G' H', Grow a G H G' H' → Vial a m G' H' → Φ o m → Q o H') → to σ H Q
theorem om_none {Φ : Option Int → Nat → Prop} (k : Φ none n) : OvM K a tNoPart Γ n Φ := fun σ G H S i v Q q => q none n G H (Grow.refl i) v k
theorem om_some {Φ : Option Int → Nat → Prop} (h : EvM K a te Γ n fun x m => ∃ i, x = .int i ∧ Φ (some i) m) : OvM K a (tPart te) Γ n Φ := fun σ G H S i v Q q =>
  h σ G H S i v _ fun w d m G1 H1 g1 v1 t1 ⟨j, e, p⟩ => by subst e; cases t1; exact ⟨j, rfl, q (some j) m G1 H1 g1 v1 p⟩
def cutD (ds : List D) (lo hi : Option Int) : List D := (ds.drop (HT.sIx ds.length 0 lo)).take (HT.sIx ds.length ds.length hi - HT.sIx ds.length 0 lo)
theorem cut_at {G : Hp} {vs : List V} {ds : List D} (l : AtL K G vs ds) (lo hi : Option Int) : AtL K G (cutV vs lo hi) (cutD ds lo hi) := by
  unfold cutV cutD
  rw [l.length]
  exact (l.drop _).take _
theorem atl_of_ints {G : Hp} : ∀ ns : List Int, AtL K G (ns.map V.int) (ns.map D.int)
  | [] => .nil
  | i :: ns => .cons (.int i) (atl_of_ints ns)
/-- what a list, or the script, holds -/
def lstOf : D → Option (List D)
  | .lst ds => some ds | .scr ns => some (ns.map D.int) | _ => none
theorem at_lst {G H : Hp} (i : Ext G H) {v : V} {d : D} (h : At K G v d) {ds : List D} (e : lstOf d = some ds) : ∃ p vs, v = .ref p ∧ SqL K H p vs ∧ AtL K G vs ds := by
  cases h with
  | lst hs l => cases e; exact ⟨_, _, rfl, ext_lst i hs, l⟩
  | scr hs => cases e; exact ⟨_, _, rfl, (hs.ext i).seq, atl_of_ints _⟩
  | _ => cases e
theorem em_slL {tl th : TO} (h : EvM K a te Γ n fun x m => ∃ ds, lstOf x = some ds ∧ OvM K a tl Γ m fun lo l => OvM K a th Γ l fun hi k => Φ (.lst (cutD ds lo hi)) k) : EvM K a (tSl (rSlL K) te tl th) Γ n Φ := fun σ G H S i v Q q =>
  h σ G H S i v _ fun w d m G1 H1 g1 v1 t1 ⟨ds, e, p1⟩ => p1 σ G1 H1 (S.mono g1.g) g1.i v1 _ fun lo m2 G2 H2 g2 v2 p2 => p2 σ G2 H2 ((S.mono g1.g).mono g2.g) g2.i v2 _ fun hi m3 G3 H3 g3 v3 p3 => by
    obtain ⟨p, vs, ew, hs, l⟩ := at_lst g3.i ((t1.mono g2.g).mono g3.g) e
    subst ew
    refine ⟨p, vs, rfl, hs, fun q0 hq => ?_⟩
    have gn := Grow.new (G := G3) (o := .lst (cutV vs lo hi)) g3.i hq
    exact q _ _ m3 _ _ (((g1.trans v1 g2).trans v2 g3).trans v3 gn.any) (v3.grow gn) (.lst upd_same ((cut_at l lo hi).mono gn.g)) p3
theorem rm_ixS {x : D} {ds : List D} {i : Int} {y : D} (e : lstOf x = some ds) (h : atI ds i = some y) (k : Φ y n) : RM K a (rIxL K) x (.int i) n Φ := fun G H u v tu tv z v1 Q q => by
  cases tv
  obtain ⟨p, vs, ew, hs, l⟩ := at_lst z tu e
  subst ew
  obtain ⟨w, e1, t⟩ := atI_of l h
  exact ⟨p, vs, i, w, rfl, rfl, hs, e1, q w y n G H (Grow.refl z) v1 t k⟩
theorem cm_lenS {x : D} {ds : List D} (hx : lstOf x = some ds) (k : Φ (.int ds.length) n) : CM K a (fun xs H Q => ∃ p ys, xs = [.ref p] ∧ (SqL K H p ys ∨ SqT K H p ys) ∧ Q (.int ys.length) H) [x] n Φ := fun G H us l z v Q q => by
  obtain ⟨u, e, h⟩ := atl1 l
  subst e
  obtain ⟨p, vs, ew, hs, l2⟩ := at_lst z h hx
  subst ew
  exact ⟨p, vs, rfl, .inl hs, by rw [l2.length]; exact q _ _ n G H (Grow.refl z) v (.int _) k⟩
theorem rm_rep {ds : List D} {k : Int} (h0 : 0 ≤ k) (h1 : k ≤ 1000) (h2 : ds.length ≤ 1000) (p : Φ (.lst (List.replicate k.toNat ds).flatten) n) : RM K a rRep (.lst ds) (.int k) n Φ := fun G H u v tu tv z v1 Q q => by
  cases tv
  cases tu with
  | @lst pp vs _ hs l =>
    refine ⟨pp, k, vs, rfl, rfl, z _ _ hs, by omega, by omega, ?_, fun b hb => ?_⟩
    · rw [l.length]
      exact Nat.le_trans (Nat.mul_le_mul h2 (show k.toNat ≤ 1000 by omega)) (by decide)
    · have gn := Grow.new (G := G) (o := .lst (List.replicate k.toNat vs).flatten) z hb
      refine q _ _ n _ _ gn.any (v1.grow gn) (.lst upd_same (AtL.mono gn.g ?_)) p
      generalize k.toNat = c
      induction c with
      | zero => exact .nil
      | succ c ih => rw [List.replicate_succ, List.replicate_succ, List.flatten_cons, List.flatten_cons]; exact l.append ih
theorem rm_cat {xs ys : List D} (h : xs.length + ys.length ≤ 1000) (p : Φ (.lst (xs ++ ys)) n) : RM K a rCat (.lst xs) (.lst ys) n Φ := fun G H u v tu tv z v1 Q q => by
  cases tu with
  | @lst p1 us _ hs l =>
    cases tv with
    | @lst p2 vs _ ht k =>
      refine ⟨p1, p2, us, vs, rfl, rfl, z _ _ hs, z _ _ ht, by rw [l.length, k.length]; exact Nat.le_trans h (by decide), fun b hb => ?_⟩
      have gn := Grow.new (G := G) (o := .lst (us ++ vs)) z hb
      exact q _ _ n _ _ gn.any (v1.grow gn) (.lst upd_same ((l.append k).mono gn.g)) p
/-! the drawing list -/
/-- a def that makes the drawing list of the script -/
def spM (K : PySem.W.Frag) : Sp := fun vs H Q _ => ∃ (b : Addr) (ns : List Int) (i : Nat), vs = [.ref b, .int i] ∧ i ≤ 10 ∧ Sc K H b ns ∧ ns.length ≤ 63 ∧
  ∀ (p : Addr) (x y : Int) (H' : Hp), H p = none → Ext H H' → H' p = some (.lst [.int x, .int y, .int 0]) → Q (.ref p) H'
theorem body_M {t : TS} {Ns : List Str} {vs : List V} {H : Hp} {Q : VK} {E : XK} (h : spM K vs H Q E) (k : ∀ (ns : List Int) (i : Nat), ns.length ≤ 63 → i ≤ 10 → SM K none t (startD Ns [.scr ns, .int i]) 0 (fun _ _ => False) fun d _ => ∃ x y : Int, d = .lst [.int x, .int y, .int 0]) : t { nx := fun _ H' => Q .non H', rt := Q } (start Ns vs) H := by
  obtain ⟨b, ns, i, e, hi, hs, hl, q⟩ := h
  subst e
  -- of all that stands only the script is told
  have key : ∃ G : Hp, Ext G H ∧ Sc K G b ns ∧ ∀ p ys, G p ≠ none → ∀ G', Ext G G' → G' p ≠ some (.lst ys) := by
    rcases hs with ⟨o, hs⟩ | hs
    · refine ⟨fun c => if c = b then H c else none, fun c u e => ?_, .inl ⟨o, ?_⟩, fun p ys hp G' eg z => ?_⟩
      · have e : (if c = b then H c else none) = some u := e
        by_cases hc : c = b
        · rw [if_pos hc] at e; exact e
        · rw [if_neg hc] at e; cases e
      · show (if b = b then H b else none) = _
        rw [if_pos rfl]; exact hs
      · by_cases hc : p = b
        · subst hc
          have := eg p _ (show (if p = p then H p else none) = some _ by rw [if_pos rfl]; exact hs)
          rw [z] at this; cases this
        · exact hp (if_neg hc)
    · exact ⟨fun _ => none, fun c u e => (by cases e), Or.inr hs, fun p ys hp => absurd rfl hp⟩
  obtain ⟨G, iG, hsG, hno⟩ := key
  refine k ns i hl hi _ G H (AtS.start (.cons (.scr hsG) (.cons (.int _) .nil))) iG Vial.no _ (fun _ _ _ _ _ _ _ _ z => z.elim) fun v d m G' H' g _ tv ⟨x, y, e⟩ => ?_
  subst e
  cases tv with
  | @lst p us _ hp l =>
    obtain ⟨u1, u2, u3, eu, h1, h2, h3⟩ := atl3 l
    subst eu
    cases h1; cases h2; cases h3
    have hpn : H p = none := by
      rcases g.n p (by rw [hp]; simp) with z | z
      · exact absurd hp (hno p _ z G' g.g)
      · exact z
    exact q p x y H' hpn (fun c o e => g.h c o (by simp) e) (g.i p _ hp)
theorem ix3 (x y z : V) (i : Nat) (hi : i < 3) : atI [x, y, z] (i : Int) = [x, y, z][i]? := by
  match i, hi with
  | 0, _ => rfl
  | 1, _ => rfl
  | 2, _ => rfl
/-- v[i], v the drawing list: some int -/
theorem rm_v {b : Addr} (i : Nat) (hi : i < 3) (k : ∀ x : Int, (i = 2 → 0 ≤ x ∧ x ≤ n ∧ n ≤ 1000000) → Φ (.int x) n) : RM K (some b) (rIxL K) (.adr b) (.int i) n Φ := fun G H u v tu tv z v1 Q q => by
  cases tu; cases tv
  obtain ⟨gb, x, y, w, e, h1, h2, h3⟩ := v1 b rfl
  match i, hi, k with
  | 0, _, k => exact ⟨b, _, 0, .int x, rfl, rfl, .inl (.inl e), rfl, q _ _ n G H (Grow.refl z) v1 (.int x) (k x (by simp))⟩
  | 1, _, k => exact ⟨b, _, 1, .int y, rfl, rfl, .inl (.inl e), rfl, q _ _ n G H (Grow.refl z) v1 (.int y) (k y (by simp))⟩
  | 2, _, k => exact ⟨b, _, 2, .int w, rfl, rfl, .inl (.inl e), rfl, q _ _ n G H (Grow.refl z) v1 (.int w) (k w fun _ => ⟨h1, h2, h3⟩)⟩
theorem vial_upd {G H : Hp} {b : Addr} {m : Nat} {xs : List V} {o : HO} (i : Ext G H) (gb : G b = none) : Grow (some b) G H G (upd H b o) :=
  ⟨Ext.rfl', fun c u hc e => by rw [upd_ne (fun z => hc (by rw [z]))]; exact e, fun c u e => by rw [upd_ne (fun z => by rw [z, gb] at e; cases e)]; exact i c u e, fun c hc => .inl hc⟩
/-- v[i] = x, i 0 or 1 -/
theorem gm_v01 {b : Addr} {to ti : TE} (i up : Nat) (hi : i < 2) {x : Int} (h : EvM K (some b) to Γ n fun d m => EvM K (some b) ti Γ m fun j l => d = .adr b ∧ j = .int i ∧ l + up ≤ 1000000 ∧ N Γ (l + up)) : GM K (some b) (gSub to ti rSetL) (.int x) Γ n N := fun σ G H v S z w t Q q =>
  h σ G H S z w _ fun u d m G1 H1 g1 v1 t1 p1 => p1 σ G1 H1 (S.mono g1.g) g1.i v1 _ fun u2 j l G2 H2 g2 v2 t2 ⟨e1, e2, e3, p2⟩ => by
    subst e1 e2
    cases t1; cases t2; cases t
    obtain ⟨gb, x0, y0, z0, e, h1, h2, h3⟩ := v2 b rfl
    have gu := vial_upd (m := l) (xs := []) (o := .lst ([V.int x0, .int y0, .int z0].set i (.int x))) g2.i gb
    refine ⟨b, _, i, i, rfl, rfl, e, ?_, q σ Γ (l + up) G2 _ ((g1.trans v1 g2).trans v2 gu) (fun c hc => ?_) ((S.mono g1.g).mono g2.g) p2⟩
    · match i, hi with
      | 0, _ => rfl
      | 1, _ => rfl
    · cases hc
      match i, hi with
      | 0, _ => exact ⟨gb, x, y0, z0, upd_same, h1, by omega, e3⟩
      | 1, _ => exact ⟨gb, x0, x, z0, upd_same, h1, by omega, e3⟩
/-- v[2] = x: the number of draws -/
theorem gm_v2 {b : Addr} {to ti : TE} {x : Int} {m' : Nat} (h0 : 0 ≤ x) (h1 : x ≤ m') (h2 : m' ≤ 1000000) (h : EvM K (some b) to Γ n fun d m => EvM K (some b) ti Γ m fun j l => d = .adr b ∧ j = .int 2 ∧ N Γ m') : GM K (some b) (gSub to ti rSetL) (.int x) Γ n N := fun σ G H v S z w t Q q =>
  h σ G H S z w _ fun u d m G1 H1 g1 v1 t1 p1 => p1 σ G1 H1 (S.mono g1.g) g1.i v1 _ fun u2 j l G2 H2 g2 v2 t2 ⟨e1, e2, p2⟩ => by
    subst e1 e2
    cases t1; cases t2; cases t
    obtain ⟨gb, x0, y0, z0, e, _⟩ := v2 b rfl
    have gu := vial_upd (m := l) (xs := []) (o := .lst ([V.int x0, .int y0, .int z0].set 2 (.int x))) g2.i gb
    exact ⟨b, _, 2, 2, rfl, rfl, e, rfl, q σ Γ m' G2 _ ((g1.trans v1 g2).trans v2 gu) (fun c hc => by cases hc; exact ⟨gb, x0, y0, x, upd_same, h0, h1, h2⟩) ((S.mono g1.g).mono g2.g) p2⟩
theorem cm_divmod {i j : Int} (h0 : 0 < j) (h1 : j < 1073741824) (k : Φ (.tup [.int (i / j), .int (i % j)]) n) : CM K a (fun xs H Q => ∃ i j, xs = [.int i, .int j] ∧ CDiv i j ∧ ∀ p, H p = none → Q (.ref p) (upd H p (.tup [.int (i / j), .int (i % j)]))) [.int i, .int j] n Φ := fun G H us l z v Q q => by
  obtain ⟨u1, u2, e, t1, t2⟩ := atl2 l
  subst e; cases t1; cases t2
  refine ⟨i, j, rfl, ⟨h0, h1⟩, fun p hp => ?_⟩
  have gn := Grow.new (G := G) (o := .tup [.int (i / j), .int (i % j)]) z hp
  exact q _ _ n _ _ gn.any (v.grow gn) (.tup (.inl (.inl upd_same)) (.cons (.int _) (.cons (.int _) .nil))) k
/-- right(vial(script, i)) -/
theorem em_fresh {P : List D → Nat → (D → Nat → Prop) → Prop} {E' : XK} (h : AvM K none t Γ n fun ds m => ∃ (ns : List Int) (i : Nat), ds = [.scr ns, .int i] ∧ i ≤ 10 ∧ ns.length ≤ 63 ∧ P [] 0 fun d _ => Φ d m) :
    EvM K none (tCall (spV K P) [] E (tCons (tCall (spM K) [] E' t) tNil)) Γ n Φ := fun σ G H S z v Q q =>
  h σ G H S z v _ fun us ds m G1 H1 g1 v1 t1 ⟨ns, i, e, hi, hl, hp⟩ => by
    subst e
    obtain ⟨u1, u2, eu, h1, h2⟩ := atl2 t1
    subst eu
    cases h2
    cases h1 with
    | @scr b _ hs =>
      show spM K ([V.ref b, V.int i] ++ []) H1 _ E'
      refine ⟨b, ns, i, rfl, hi, hs.ext g1.i, hl, fun p x y H2 hpn e2 e3 => ?_⟩
      show spV K P ([V.ref p] ++ []) H2 Q E
      have gp : G1 p = none := by
        cases k : G1 p with
        | none => rfl
        | some o => rw [g1.i p o k] at hpn; cases hpn
      refine ⟨G1, p, [], 0, [], _, rfl, g1.i.trans e2, fun b hb => ?_, .nil, hp, fun w d l G3 H3 g3 v3 t3 p3 => q w d m G3 H3 ?_ Vial.no t3 p3⟩
      · cases hb
        exact ⟨gp, x, y, 0, e3, by omega, by omega, by omega⟩
      · refine ⟨g1.g.trans g3.g, fun b o _ e => ?_, g3.i, fun b hb => ?_⟩
        · have e1 := g1.h b o (by simp) e
          refine g3.h b o (fun z => ?_) (e2 b o e1)
          cases z
          rw [hpn] at e1; cases e1
        · rcases g3.n b hb with z | z
          · exact g1.n b z
          · refine .inr ?_
            cases k : H b with
            | none => rfl
            | some o => rw [e2 b o (g1.h b o (by simp) k)] at z; cases z
end
end DL

set_option linter.all false
set_option maxRecDepth 100000
set_option maxHeartbeats 4000000
namespace DL
open PySem PySem.Spec PyProof.Rows L2
mutual
def big : D → Nat
  | .int _ => 1921 | .non => 4 | .bl _ => 5 | .tup ds => bigL ds + 3 | .lst ds => bigL ds + 3
  | .str _ => 0 | .adr _ => 0 | .ty _ => 0 | .scr _ => 0 | .ins _ _ => 0
def bigL : List D → Nat
  | [] => 0 | d :: ds => big d + 2 + bigL ds
end
mutual
def okD : D → Prop
  | .int i => i.natAbs < 10 ^ 200 | .non => True | .bl _ => True | .tup ds => okL ds | .lst ds => okL ds
  | .str _ => False | .adr _ => False | .ty _ => False | .scr _ => False | .ins _ _ => False
def okL : List D → Prop
  | [] => True | d :: ds => okD d ∧ okL ds
end
mutual
def dep : D → Nat
  | .int _ => 0 | .non => 0 | .bl _ => 0 | .tup ds => depL ds + 1 | .lst ds => depL ds + 1
  | .str _ => 0 | .adr _ => 0 | .ty _ => 0 | .scr _ => 0 | .ins _ _ => 0
def depL : List D → Nat
  | [] => 0 | d :: ds => max (dep d) (depL ds)
end
set_option exponentiation.threshold 3000 in
theorem log_lt {x : Nat} (h : x < 10 ^ 200) : x.log2 < 700 := by
  by_cases h0 : x = 0
  · subst h0; decide
  · rw [Nat.log2_lt h0]
    exact Nat.lt_trans h (by decide)
structure ShD (d : D) (p : PyData) (b k : Nat) : Prop where
  sh : p.showable = true
  ln : p.shown.length ≤ b
  nd : p.hasDict = false
  pu : pur d = true
  dp : p.depth = k
structure ShL (ds : List D) (ps : List PyData) (b k : Nat) : Prop where
  sh : PyData.showableAll ps = true
  ln : ((PyData.shownAll ps).map (·.length)).sum + 2 * (PyData.shownAll ps).length ≤ b
  nd : PyData.hasDictAll ps = false
  pu : purL ds = true
  dp : PyData.depthAll ps = k
mutual
theorem shown_le : ∀ d : D, okD d → ShD d (py d) (big d) (dep d)
  | .int i, h => by
    have h' : i.natAbs < 10 ^ 200 := h
    refine ⟨?_, ?_, rfl, rfl, rfl⟩
    · show decide (i.natAbs.log2 < 1920) = true
      exact decide_eq_true (Nat.lt_trans (log_lt h') (by decide))
    · exact int_text_len_1921 (Nat.lt_trans (log_lt h') (by decide))
  | .non, _ => ⟨rfl, (by show (Str.ofString "None").length ≤ 4; decide +kernel), rfl, rfl, rfl⟩
  | .bl b, _ => ⟨rfl, (by cases b; (show (Str.ofString "False").length ≤ 5; decide +kernel); (show (Str.ofString "True").length ≤ 5; decide +kernel)), rfl, rfl, rfl⟩
  | .tup ds, h => by
    obtain ⟨h1, h2, h3, h4, h5⟩ := shownL_le ds h
    refine ⟨h1, ?_, h3, h4, by show PyData.depthAll (pyL ds) + 1 = depL ds + 1; rw [h5]⟩
    exact Nat.le_trans (tupleText_len_le _) (Nat.add_le_add_right h2 3)
  | .lst ds, h => by
    obtain ⟨h1, h2, h3, h4, h5⟩ := shownL_le ds h
    refine ⟨h1, ?_, h3, h4, by show PyData.depthAll (pyL ds) + 1 = depL ds + 1; rw [h5]⟩
    exact Nat.le_trans (listText_len_le _) (Nat.add_le_add_right h2 3)
  | .str _, h => h.elim
  | .adr _, h => h.elim
  | .ty _, h => h.elim
  | .scr _, h => h.elim
  | .ins _ _, h => h.elim
theorem shownL_le : ∀ ds : List D, okL ds → ShL ds (pyL ds) (bigL ds) (depL ds)
  | [], _ => ⟨rfl, Nat.le_refl _, rfl, rfl, rfl⟩
  | d :: ds, h => by
    obtain ⟨h1, h2, h3, h4, h5⟩ := shown_le d h.1
    obtain ⟨k1, k2, k3, k4, k5⟩ := shownL_le ds h.2
    refine ⟨?_, ?_, ?_, ?_, ?_⟩
    · show (PyData.showable (py d) && PyData.showableAll (pyL ds)) = true
      rw [h1, k1]; rfl
    · show (((py d).shown :: PyData.shownAll (pyL ds)).map (·.length)).sum + 2 * ((py d).shown :: PyData.shownAll (pyL ds)).length ≤ big d + 2 + bigL ds
      rw [List.map_cons, List.sum_cons, List.length_cons]
      omega
    · show (PyData.hasDict (py d) || PyData.hasDictAll (pyL ds)) = false
      rw [h3, k3]; rfl
    · show (pur d && purL ds) = true
      rw [h4, k4]; rfl
    · show max (PyData.depth (py d)) (PyData.depthAll (pyL ds)) = max (dep d) (depL ds)
      rw [h5, k5]
end
theorem sz24 : (16777216 : Nat) = sizeLine := by rw [sizeLine_eq]
section
variable {K : PySem.W.Frag} {a : Option Addr} {n : Nat} {Φ : D → Nat → Prop}
theorem cm_reprD {x : D} (ho : okD x) (hr : ∃ ds, x = .tup ds ∨ x = .lst ds) (hb : big x ≤ 16777216) (hd : dep x ≤ 64) (k : Φ (.str (py x).shown) n) : CM K a (rRepr K) [x] n Φ := by
  obtain ⟨h1, h2, h3, h4, h5⟩ := shown_le x ho
  exact cm_repr h4 hr h1 h3 (by rw [h5]; exact hd) (by rw [← sz24]; exact Nat.le_trans h2 hb) k
theorem sm_seqI {Γ : EnvD} {ts tu : TS} {N : EnvD → Nat → Prop} {R : D → Nat → Prop} (h : ∀ N' : EnvD → Nat → Prop, (∀ Γ' m, SM K a tu Γ' m N R → N' Γ' m) → SM K a ts Γ n N' R) : SM K a (tSeq ts tu) Γ n N R := sm_seq (h _ fun _ _ z => z)
end
end DL

set_option linter.all false
set_option maxRecDepth 100000
set_option maxHeartbeats 4000000
namespace DL
open PySem PySem.Spec PyProof.Rows L2
/-- the law's own promise: the script in, True out -/
def P_law : List D → (D → Prop) → Prop := fun ds Φ => ∃ ns : List Int, ds = [.scr ns] ∧ ns.length ≤ 63 ∧ Φ (.bl true)
section
variable {P : Program} {w : World} {K : PySem.W.Frag} {mg mb : Str → Option Value} {k : Nat} {fa a : Addr} {fd : FuncData} {x : Str} {s : Shared} {vs : List Value} {ns : List Int}
/-- the law, called on a heap of which the abstract heap H tells the script alone (or nothing) -/
theorem start_at (KX : K.In s.heap) (hns : s.heap.Ns mainGlobals mg) (hb : s.heap.Ns builtinsNs mb) (hbb : ∀ x : Str, x ≠ "__name__" → mb x = bootBuiltins x) (hlim : s.heap.NoLimit) (hg : s.gens = #[])
    (ha : s.heap.get? a = some { cls := .type "list", data := .seq vs.toArray }) (hl : ns.length ≤ 63) (hr : Room k callerA)
    (F : ∀ base : Heap, K.In base → base.Ns mainGlobals mg → FnG P w K mg base CX0 k fa fd [x] (spP K P_law)) (hbind : ∀ (s : Shared) (u : Value), BindsTo s fd ⟨[u], []⟩ [(x, u)])
    (H : Hp) (hok : HOk P w H s.heap) (hA : ∀ b, H b ≠ none → b = a) (hK : H a ≠ none → K.lookup a = none) (hf : ∀ b o, H b = some o → ∃ ob, o = .frz ob (.lst (ns.map V.int))) (hS : Sc K H a ns) :
    codeAny (model P w) callerA (.call (.ref fa) ⟨[.ref a], []⟩) (fun r s' => r = .ok (.ret (.bool true)) ∧ OldK s.heap s'.heap ∧ s'.os = s.os ∧ AllBare s'.gens) s := by
  have free : ∀ b, b ≠ a → H b = none := fun b hne => Classical.byContradiction fun z => hne (hA b z)
  -- what is no list like the script stays in the hidden heap
  have kept : ∀ {b : Addr} {o : Obj}, s.heap.get? b = some o → (∀ es ep, o.data ≠ .dict es ep → True) → (b = a → H a = none) → (hidT s.heap H).get? b = some o := fun {b o} e _ z => by
    refine hidT_get e ?_
    by_cases hba : b = a
    · rw [hba]; exact z hba
    · exact free b hba
  have isdict : ∀ {b : Addr} {m : Str → Option Value}, s.heap.Ns b m → (hidT s.heap H).Ns b m := fun {b m} hN => by
    obtain ⟨o, es, ep, e, d, rest⟩ := hN
    refine ⟨o, es, ep, kept e (fun _ _ _ => trivial) (fun hba => ?_), d, rest⟩
    rw [hba, ha] at e
    cases Option.some.inj e
    cases d
  have inB : K.In (hidT s.heap H) := fun b o e => kept (KX b o e) (fun _ _ _ => trivial) fun hba => Classical.byContradiction fun z => by
    rw [hba, hK z] at e
    cases e
  have md : Mod K mg (hidT s.heap H) := ⟨inB, isdict hns, ⟨mb, isdict hb, hbb⟩, by obtain ⟨mc, q1, q2⟩ := hlim; exact ⟨mc, isdict q1, q2⟩⟩
  have e0 : Env0 P w K mg (hidT s.heap H) callerA [] s H :=
    ⟨rfl, md, fun _ _ e => of_hidT e, Nat.le_of_eq (hidT_size _ _), trivial, fun _ hb => (List.not_mem_nil hb).elim, hok, .of_eq hg⟩
  have prom : spP K P_law [.ref a] H (fun v _ => v = .bl true) (fun _ _ _ => False) :=
    ⟨H, [.scr ns], fun d => d = .bl true, Ext.rfl', .cons (.scr hS) .nil, ⟨ns, rfl, hl, rfl⟩, fun v d G' H' _ t e => by subst e; cases t; rfl⟩
  have run := (F _ inB (isdict hns)).run callerA [] s H ⟨[.ref a], []⟩ [.ref a] [.ref a] _ _ hr rfl e0 (hbind s (.ref a)) (.cons rfl .nil) prom
  refine codeAny_mono run fun r s' z => ?_
  match r, z with
  | .error e, z => exact z.elim
  | .ok (.ret u), z =>
    obtain ⟨v, H', os, bare, un, hok', rv, q⟩ := z
    subst q
    cases (show u = Value.bool true from rv)
    refine ⟨rfl, OldK.of_keep fun b o e => ?_, os, bare⟩
    cases q : H b with
    | none => exact un.keep b o e q (fun y => (List.not_mem_nil y).elim) (List.not_mem_nil)
    | some u =>
      obtain ⟨ob, eu⟩ := hf b u q
      subst eu
      have after := hok' b _ (un.frzs b ob _ q)
      have before := hok b _ q
      have : some o = some ob := e.symm.trans before.1
      cases this
      exact after.1
theorem start_law (KX : K.In s.heap) (hns : s.heap.Ns mainGlobals mg) (hb : s.heap.Ns builtinsNs mb) (hbb : ∀ x : Str, x ≠ "__name__" → mb x = bootBuiltins x) (hlim : s.heap.NoLimit) (hg : s.gens = #[])
    (ha : s.heap.get? a = some { cls := .type "list", data := .seq vs.toArray }) (hi : IntsAre vs ns) (hl : ns.length ≤ 63) (hr : Room k callerA)
    (F : ∀ base : Heap, K.In base → base.Ns mainGlobals mg → FnG P w K mg base CX0 k fa fd [x] (spP K P_law)) (hbind : ∀ (s : Shared) (u : Value), BindsTo s fd ⟨[u], []⟩ [(x, u)]) :
    codeAny (model P w) callerA (.call (.ref fa) ⟨[.ref a], []⟩) (fun r s' => r = .ok (.ret (.bool true)) ∧ OldK s.heap s'.heap ∧ s'.os = s.os ∧ AllBare s'.gens) s := by
  have rv := vals_ints hi
  have line : ns.length ≤ sizeLine := Nat.le_trans hl (by decide)
  cases hk : K.lookup a with
  | some o =>
    have e := KX a o hk
    rw [ha] at e
    cases Option.some.inj e
    refine start_at KX hns hb hbb hlim hg ha hl hr F hbind (fun _ => none) (fun b u z => by cases z) (fun b z => absurd rfl z) (fun z => absurd rfl z) (fun b o z => by cases z) (.inr fun H' => .inr ⟨_, vs.toArray, _, hk, rfl, rfl, rfl, ?_, by simpa using rv⟩)
    rw [List.size_toArray, hi.length]
    exact line
  | none =>
    let T : HO := .frz { cls := .type "list", data := .seq vs.toArray } (.lst (ns.map V.int))
    have at_a : (fun b => if b = a then some T else none) a = some T := if_pos rfl
    refine start_at KX hns hb hbb hlim hg ha hl hr F hbind (fun b => if b = a then some T else none) (fun b u z => ?_) (fun b z => ?_) (fun _ => hk) (fun b o z => ?_) (.inl ⟨_, at_a⟩)
    · have z : (if b = a then some T else none) = some u := z
      by_cases hba : b = a
      · rw [if_pos hba] at z
        cases Option.some.inj z
        subst hba
        exact ⟨ha, by rw [List.length_map]; exact line, vs, _, rv, ha⟩
      · rw [if_neg hba] at z; cases z
    · exact Classical.byContradiction fun hba => z (if_neg hba)
    · have z : (if b = a then some T else none) = some o := z
      by_cases hba : b = a
      · rw [if_pos hba] at z
        exact ⟨_, (Option.some.inj z).symm⟩
      · rw [if_neg hba] at z; cases z
end
/-- what the head leaves of a law, from its def's promise -/
theorem walkG {l : PySem.W.OpenLaw} {k : Nat} {q : Program} {loose : List Str} {XP : (Str → Option Value) → Heap → Prop} {YP : World → Heap → Prop} {d : DefRec} {K : Params → PySem.W.Frag} {x : Str}
    (hn : l.most = some 63) (hdf : d.params.defaults = []) (hr : Room k callerA) (hY : ∀ (w : World) (h : Heap), YP w h → (K w.params).In h)
    (F : ∀ (w : World) (mg : Str → Option Value) (fa : Addr) (h : Heap), (K w.params).In h → h.Ns mainGlobals mg → mg d.name = some (.ref fa) →
      ∃ fd : FuncData, (∀ (s : Shared) (u : Value), BindsTo s fd ⟨[u], []⟩ [(x, u)]) ∧ ∀ base : Heap, (K w.params).In base → base.Ns mainGlobals mg → FnG l.prog w (K w.params) mg base CX0 k fa fd [x] (spP (K w.params) P_law)) :
    PySem.W.WalkO q loose XP YP l.row.toRowW d [] (fun f vs => PySem.call f vs) := by
  refine Att.attach_call hn hdf fun w s₀ s₁ mg mb fa o pm cd doc a vs ns G Y ho hd hcd hmg hobj hints hlen hg => ?_
  obtain ⟨fd, hbd, hF⟩ := F w mg fa _ (hY w _ Y) G.T.g hmg
  exact start_law (hY w _ Y) G.T.g G.T.b G.T.builtins G.T.nolimit hg hobj hints hlen hr hF hbd
end DL

set_option linter.all false
set_option maxRecDepth 100000
set_option maxHeartbeats 4000000
namespace DL
open PySem PySem.Spec PyProof.Rows L2
theorem units65 {A : Around} {k : Nat} (hr : Room k A) : A.units + 65 < cLine := by have := hr.un; omega
section
variable {K : PySem.W.Frag} {a : Option Addr} {Γ : EnvD} {n : Nat} {Φ : D → Nat → Prop} {N : EnvD → Nat → Prop} {R : D → Nat → Prop} {te : TE} {t : TA} {tu : TS}
theorem rm_eqB {i j : Bool} (k : Φ (.bl (decide (i = j))) n) : RM K a rEq (.bl i) (.bl j) n Φ := fun G H u v tu tv z v1 Q q => by
  cases tu; cases tv
  refine ⟨rfl, ?_⟩
  have e : decide (V.bl i = V.bl j) = decide (i = j) := decide_eq_decide.mpr ⟨fun h => by injection h, fun h => by rw [h]⟩
  rw [e]
  exact q _ _ n G H (Grow.refl z) v1 (.bl _) k
theorem rm_inD {x : D} {ds : List D} (hx : pur x = true) (hy : pur (.lst ds) = true) (sx : SeqAt.shaped (py x) = true) (sy : SeqAt.shaped (py (.lst ds)) = true) (k : Φ (.bl ((pyL ds).any fun z => PyData.eqv z (py x))) n) : RM K a (rInD K) x (.lst ds) n Φ := fun G H u v tu tv i v1 Q q =>
  ⟨py x, pyL ds, tu.dp i x hx, tv.dp i (.lst ds) hy, sx, sy, q _ _ n G H (Grow.refl i) v1 (.bl _) k⟩
theorem cm_max2 {i j : Int} (k : Φ (.int (if j > i then j else i)) n) : CM K a (fun xs H Q => ∃ i j, xs = [.int i, .int j] ∧ Q (.int (if j > i then j else i)) H) [.int i, .int j] n Φ := fun G H us l z v Q q => by
  obtain ⟨u1, u2, e, h1, h2⟩ := atl2 l
  subst e; cases h1; cases h2
  exact ⟨i, j, rfl, q _ _ n G H (Grow.refl z) v (.int _) k⟩
theorem sm_par3 {i j l : Nat} (h : AvM K a t Γ n fun ds m => ∃ x y z, ds = [x, y, z] ∧ N (((Γ.set i (some x)).set j (some y)).set l (some z)) m) : SM K a (tPar3 i j l t) Γ n N R := fun σ G H S z v Dn hn _ =>
  h σ G H S z v _ fun vs ds m G1 H1 g1 v1 t1 ⟨x, y, w, e, p⟩ => by
    subst e
    obtain ⟨u1, u2, u3, e, h1, h2, h3⟩ := atl3 t1
    subst e
    exact ⟨_, _, _, rfl, hn _ _ m G1 H1 g1 v1 ((((S.mono g1.g).set i h1).set j h2).set l h3) p⟩
/-- range(lo, hi) -/
theorem sm_forR2 {g : TG} {lo hi : Int} (h : AvM K a t Γ n fun ds m => ds = [.int lo, .int hi] ∧ -1000000 ≤ lo ∧ lo ≤ hi ∧ hi ≤ 1000000 ∧ ∃ I : Nat → EnvD → Nat → Prop, I 0 Γ m ∧ (∀ i Γ' l, i < (hi - lo).toNat → I i Γ' l → GM K a g (.int (lo + i)) Γ' l fun Γ2 l2 => SM K a tu Γ2 l2 (I (i + 1)) R) ∧ ∀ Γ' l, I (hi - lo).toNat Γ' l → N Γ' l) :
    SM K a (tFor (iRng2 t) g tu) Γ n N R := fun σ G H S z v Dn hn hr =>
  h σ G H S z v _ fun us ds m G1 H1 g1 v1 t1 ⟨e, b1, b2, b3, I, p0, ps, pe⟩ => by
    subst e
    obtain ⟨u1, u2, e, h1, h2⟩ := atl2 t1
    subst e; cases h1; cases h2
    refine ⟨lo, hi, rfl, ⟨by omega, by omega, by omega, by omega⟩, ?_⟩
    refine for_range (n := (hi - lo).toNat) (fun i σ' H' => ∃ Γ' l' G', Grow a G1 H1 G' H' ∧ Vial a l' G' H' ∧ AtS K G' σ' Γ' ∧ I i Γ' l') ⟨Γ, m, G1, Grow.refl g1.i, v1, S.mono g1.g, p0⟩ ?_ ?_
    · rintro i σ' H' hi ⟨Γ', l', G', g', v', S', p'⟩
      refine ps i Γ' l' hi p' σ' G' H' _ S' g'.i v' (.int _) _ fun σ2 Γ2 m2 G2 H2 g2 v2 S2 p2 => ?_
      exact p2 σ2 G2 H2 S2 g2.i v2 _ (fun σ3 Γ3 m3 G3 H3 g3 v3 S3 p3 => ⟨Γ3, m3, G3, (g'.trans v' g2).trans v2 g3, v3, S3, p3⟩)
        fun w d m3 G3 H3 g3 v3 t3 p3 => hr w d m3 G3 H3 (g1.trans v1 ((g'.trans v' g2).trans v2 g3)) v3 t3 p3
    · rintro σ' H' ⟨Γ', l', G', g', v', S', p'⟩
      exact hn σ' Γ' l' G' H' (g1.trans v1 g') v' S' (pe Γ' l' p')
theorem em_lcR2 {j : Nat} {lo hi : Int} (h : AvM K a t Γ n fun ds m => ds = [.int lo, .int hi] ∧ -1000000 ≤ lo ∧ lo ≤ hi ∧ hi ≤ lo + 1000 ∧ ∃ I : Nat → List D → Nat → Prop, I 0 [] m ∧
      (∀ i acc l, i < (hi - lo).toNat → I i acc l → EvM K a te ((Γ.set j none).set j (some (.int (lo + i)))) l fun y l' => I (i + 1) (acc ++ [y]) l') ∧ ∀ acc l, acc.length = (hi - lo).toNat → I (hi - lo).toNat acc l → Φ (.lst acc) l) (hhi : hi ≤ 1000000) :
    EvM K a (tLc (iRng2 t) (gName j) tYes te [j]) Γ n Φ := fun σ G H S z v Q q =>
  h σ G H S z v _ fun us ds m G1 H1 g1 v1 t1 ⟨e, b1, b2, b3, I, p0, ps, pe⟩ => by
    subst e
    obtain ⟨u1, u2, e, h1, h2⟩ := atl2 t1
    subst e; cases h1; cases h2
    refine ⟨lo, hi, rfl, ⟨by omega, by omega, by omega, by omega⟩, fun Dd hf => ?_⟩
    have hD := dne_of v1 hf
    refine lc_range (n := (hi - lo).toNat) (LcI K a G1 H1 Dd I) (lc_start g1.i v1 hf p0) (fun i H' hi p' => ?_) fun H' p' => ?_
    · exact lc_turn (by omega) hf hD (S.mono g1.g) p' (fun G' e => .int _) fun acc l' => ps i acc l' hi
    · exact lc_end hf hD p' (fun w d m2 G2 H2 g2 v2 t2 p2 => q w d m2 G2 H2 (g1.trans v1 g2) v2 t2 p2) pe
end
end DL

set_option linter.all false
set_option maxRecDepth 100000
set_option maxHeartbeats 4000000
namespace Sl
open PySem PySem.Spec PyProof.Rows L2 DL
def top (i : Nat) : Stmt := PySem.Challenge.pw_pressworlds_k33_whole_slides_alike_roots.main.body.getD i (.Pass ⟨0, 0, 0, 0⟩)

abbrev s_is_integer : Stmt := top 7
abbrev n_is_integer : List Str := ["value"]
theorem sc_is_integer : FnScope n_is_integer ["value"] (defScope s_is_integer) := ⟨rfl, rfl, rfl, by decide +kernel, rfl, by decide +kernel, by decide +kernel⟩
abbrev s_check_number : Stmt := top 8
abbrev n_check_number : List Str := ["value"]
theorem sc_check_number : FnScope n_check_number ["value"] (defScope s_check_number) := ⟨rfl, rfl, rfl, by decide +kernel, rfl, by decide +kernel, by decide +kernel⟩
abbrev s_check_degree : Stmt := top 9
abbrev n_check_degree : List Str := ["value"]
theorem sc_check_degree : FnScope n_check_degree ["value"] (defScope s_check_degree) := ⟨rfl, rfl, rfl, by decide +kernel, rfl, by decide +kernel, by decide +kernel⟩
abbrev s_Slide_init : Stmt := inClass (top 21) 0
abbrev n_Slide_init : List Str := ["self", "side", "shift"]
theorem sc_Slide_init : FnScope n_Slide_init ["self", "side", "shift"] (defScope s_Slide_init) := ⟨rfl, rfl, rfl, by decide +kernel, rfl, by decide +kernel, by decide +kernel⟩
abbrev s_Slide_side : Stmt := inClass (top 21) 2
abbrev n_Slide_side : List Str := ["self"]
theorem sc_Slide_side : FnScope n_Slide_side ["self"] (defScope s_Slide_side) := ⟨rfl, rfl, rfl, by decide +kernel, rfl, by decide +kernel, by decide +kernel⟩
abbrev s_Slide_shift : Stmt := inClass (top 21) 3
abbrev n_Slide_shift : List Str := ["self"]
theorem sc_Slide_shift : FnScope n_Slide_shift ["self"] (defScope s_Slide_shift) := ⟨rfl, rfl, rfl, by decide +kernel, rfl, by decide +kernel, by decide +kernel⟩
abbrev s_Slide_eq : Stmt := inClass (top 21) 5
abbrev n_Slide_eq : List Str := ["self", "other"]
theorem sc_Slide_eq : FnScope n_Slide_eq ["self", "other"] (defScope s_Slide_eq) := ⟨rfl, rfl, rfl, by decide +kernel, rfl, by decide +kernel, by decide +kernel⟩
abbrev s_check_slide : Stmt := top 22
abbrev n_check_slide : List Str := ["value"]
theorem sc_check_slide : FnScope n_check_slide ["value"] (defScope s_check_slide) := ⟨rfl, rfl, rfl, by decide +kernel, rfl, by decide +kernel, by decide +kernel⟩
abbrev s_check_slides : Stmt := top 23
abbrev n_check_slides : List Str := ["one", "other"]
theorem sc_check_slides : FnScope n_check_slides ["one", "other"] (defScope s_check_slides) := ⟨rfl, rfl, rfl, by decide +kernel, rfl, by decide +kernel, by decide +kernel⟩
abbrev s_slide_then : Stmt := top 24
abbrev n_slide_then : List Str := ["one", "other"]
theorem sc_slide_then : FnScope n_slide_then ["one", "other"] (defScope s_slide_then) := ⟨rfl, rfl, rfl, by decide +kernel, rfl, by decide +kernel, by decide +kernel⟩
abbrev s_slide_often : Stmt := top 25
abbrev n_slide_often : List Str := ["one", "times"]
theorem sc_slide_often : FnScope n_slide_often ["one", "times"] (defScope s_slide_often) := ⟨rfl, rfl, rfl, by decide +kernel, rfl, by decide +kernel, by decide +kernel⟩
abbrev s_slide_alike : Stmt := top 27
abbrev n_slide_alike : List Str := ["one", "other", "apart"]
theorem sc_slide_alike : FnScope n_slide_alike ["one", "other"] (defScope s_slide_alike) := ⟨rfl, rfl, rfl, by decide +kernel, rfl, by decide +kernel, by decide +kernel⟩
abbrev s_is_slide_alike : Stmt := top 26
abbrev n_is_slide_alike : List Str := ["one", "other"]
theorem sc_is_slide_alike : FnScope n_is_slide_alike ["one", "other"] (defScope s_is_slide_alike) := ⟨rfl, rfl, rfl, by decide +kernel, rfl, by decide +kernel, by decide +kernel⟩
abbrev s_do_slides_commute : Stmt := top 28
abbrev n_do_slides_commute : List Str := ["one", "other"]
theorem sc_do_slides_commute : FnScope n_do_slides_commute ["one", "other"] (defScope s_do_slides_commute) := ⟨rfl, rfl, rfl, by decide +kernel, rfl, by decide +kernel, by decide +kernel⟩
abbrev s_slide_root : Stmt := top 29
abbrev n_slide_root : List Str := ["one", "degree"]
theorem sc_slide_root : FnScope n_slide_root ["one", "degree"] (defScope s_slide_root) := ⟨rfl, rfl, rfl, by decide +kernel, rfl, by decide +kernel, by decide +kernel⟩
abbrev s_l_vial : Stmt := top 31
abbrev n_l_vial : List Str := ["_law_script", "_law_turn", "_law_mixed", "_law_cell", "_law_own"]
theorem sc_l_vial : FnScope n_l_vial ["_law_script", "_law_turn"] (defScope s_l_vial) := ⟨rfl, rfl, rfl, by decide +kernel, rfl, by decide +kernel, by decide +kernel⟩
abbrev s_l_nip : Stmt := top 32
abbrev n_l_nip : List Str := ["_law_vial_here", "_law_most", "_law_mixed", "_law_figure"]
theorem sc_l_nip : FnScope n_l_nip ["_law_vial_here", "_law_most"] (defScope s_l_nip) := ⟨rfl, rfl, rfl, by decide +kernel, rfl, by decide +kernel, by decide +kernel⟩
abbrev s_l_opt : Stmt := top 33
abbrev n_l_opt : List Str := ["_law_vial_here", "_law_menu"]
theorem sc_l_opt : FnScope n_l_opt ["_law_vial_here", "_law_menu"] (defScope s_l_opt) := ⟨rfl, rfl, rfl, by decide +kernel, rfl, by decide +kernel, by decide +kernel⟩
abbrev s_l_pair : Stmt := top 34
abbrev n_l_pair : List Str := ["_law_vial_here", "_law_far"]
theorem sc_l_pair : FnScope n_l_pair ["_law_vial_here"] (defScope s_l_pair) := ⟨rfl, rfl, rfl, by decide +kernel, rfl, by decide +kernel, by decide +kernel⟩
abbrev s_l_then : Stmt := top 35
abbrev n_l_then : List Str := ["_law_near", "_law_late"]
theorem sc_l_then : FnScope n_l_then ["_law_near", "_law_late"] (defScope s_l_then) := ⟨rfl, rfl, rfl, by decide +kernel, rfl, by decide +kernel, by decide +kernel⟩
abbrev s_l_undone : Stmt := top 36
abbrev n_l_undone : List Str := ["_law_near"]
theorem sc_l_undone : FnScope n_l_undone ["_law_near"] (defScope s_l_undone) := ⟨rfl, rfl, rfl, by decide +kernel, rfl, by decide +kernel, by decide +kernel⟩
abbrev s_l_kept : Stmt := top 37
abbrev n_l_kept : List Str := ["_law_mine"]
theorem sc_l_kept : FnScope n_l_kept ["_law_mine"] (defScope s_l_kept) := ⟨rfl, rfl, rfl, by decide +kernel, rfl, by decide +kernel, by decide +kernel⟩
abbrev s_l_often : Stmt := top 40
abbrev n_l_often : List Str := ["_law_near", "_law_many"]
theorem sc_l_often : FnScope n_l_often ["_law_near", "_law_many"] (defScope s_l_often) := ⟨rfl, rfl, rfl, by decide +kernel, rfl, by decide +kernel, by decide +kernel⟩
abbrev s_l_put : Stmt := top 38
abbrev n_l_put : List Str := ["_law_how", "_law_near"]
theorem sc_l_put : FnScope n_l_put ["_law_how", "_law_near"] (defScope s_l_put) := ⟨rfl, rfl, rfl, by decide +kernel, rfl, by decide +kernel, by decide +kernel⟩
abbrev s_l_is_like : Stmt := top 39
abbrev n_l_is_like : List Str := ["_law_near", "_law_late", "_law_far"]
theorem sc_l_is_like : FnScope n_l_is_like ["_law_near", "_law_late"] (defScope s_l_is_like) := ⟨rfl, rfl, rfl, by decide +kernel, rfl, by decide +kernel, by decide +kernel⟩
abbrev s_l_has_root : Stmt := top 41
abbrev n_l_has_root : List Str := ["_law_near", "_law_many", "_law_some", "_law_far", "_law_each"]
theorem sc_l_has_root : FnScope n_l_has_root ["_law_near", "_law_many"] (defScope s_l_has_root) := ⟨rfl, rfl, rfl, by decide +kernel, rfl, by decide +kernel, by decide +kernel⟩
abbrev s_l_pair_right : Stmt := top 42
abbrev n_l_pair_right : List Str := ["_law_near", "_law_late", "_law_mine", "_law_mate", "_law_due", "_law_how"]
theorem sc_l_pair_right : FnScope n_l_pair_right ["_law_near", "_law_late"] (defScope s_l_pair_right) := ⟨rfl, rfl, rfl, by decide +kernel, rfl, by decide +kernel, by decide +kernel⟩
abbrev s_l_root_right : Stmt := top 43
abbrev n_l_root_right : List Str := ["_law_near", "_law_many", "_law_mine", "_law_found"]
theorem sc_l_root_right : FnScope n_l_root_right ["_law_near", "_law_many"] (defScope s_l_root_right) := ⟨rfl, rfl, rfl, by decide +kernel, rfl, by decide +kernel, by decide +kernel⟩
abbrev s_l_right : Stmt := top 44
abbrev n_l_right : List Str := ["_law_vial_here", "_law_lap", "_law_near", "_law_late", "_law_how", "_law_like", "_law_pair_here", "_law_many", "_law_small", "_law_each", "_law_power"]
theorem sc_l_right : FnScope n_l_right ["_law_vial_here"] (defScope s_l_right) := ⟨rfl, rfl, rfl, by decide +kernel, rfl, by decide +kernel, by decide +kernel⟩
abbrev s_law : Stmt := top 45
abbrev n_law : List Str := ["_law_script", "_law_turn"]
theorem sc_law : FnScope n_law ["_law_script"] (defScope s_law) := ⟨rfl, rfl, rfl, by decide +kernel, rfl, by decide +kernel, by decide +kernel⟩
structure Tx (K : PySem.W.Frag) (mg : Str → Option Value) where
  C : Addr
  f_is_integer : Addr
  d_is_integer : FuncData
  F_is_integer : Fun K "is_integer" "is_integer" s_is_integer f_is_integer d_is_integer
  b_is_integer : Binds K d_is_integer ["value"] []
  mg_is_integer : mg "is_integer" = some (.ref f_is_integer)
  f_check_number : Addr
  d_check_number : FuncData
  F_check_number : Fun K "check_number" "check_number" s_check_number f_check_number d_check_number
  b_check_number : Binds K d_check_number ["value"] []
  mg_check_number : mg "check_number" = some (.ref f_check_number)
  f_check_degree : Addr
  d_check_degree : FuncData
  F_check_degree : Fun K "check_degree" "check_degree" s_check_degree f_check_degree d_check_degree
  b_check_degree : Binds K d_check_degree ["value"] []
  mg_check_degree : mg "check_degree" = some (.ref f_check_degree)
  f_Slide_init : Addr
  d_Slide_init : FuncData
  F_Slide_init : Fun K "__init__" "Slide.__init__" s_Slide_init f_Slide_init d_Slide_init
  b_Slide_init : Binds K d_Slide_init ["self", "side", "shift"] []
  f_Slide_side : Addr
  d_Slide_side : FuncData
  F_Slide_side : Fun K "side" "Slide.side" s_Slide_side f_Slide_side d_Slide_side
  b_Slide_side : Binds K d_Slide_side ["self"] []
  f_Slide_shift : Addr
  d_Slide_shift : FuncData
  F_Slide_shift : Fun K "shift" "Slide.shift" s_Slide_shift f_Slide_shift d_Slide_shift
  b_Slide_shift : Binds K d_Slide_shift ["self"] []
  f_Slide_eq : Addr
  d_Slide_eq : FuncData
  F_Slide_eq : Fun K "__eq__" "Slide.__eq__" s_Slide_eq f_Slide_eq d_Slide_eq
  b_Slide_eq : Binds K d_Slide_eq ["self", "other"] []
  f_check_slide : Addr
  d_check_slide : FuncData
  F_check_slide : Fun K "check_slide" "check_slide" s_check_slide f_check_slide d_check_slide
  b_check_slide : Binds K d_check_slide ["value"] []
  mg_check_slide : mg "check_slide" = some (.ref f_check_slide)
  f_check_slides : Addr
  d_check_slides : FuncData
  F_check_slides : Fun K "check_slides" "check_slides" s_check_slides f_check_slides d_check_slides
  b_check_slides : Binds K d_check_slides ["one", "other"] []
  mg_check_slides : mg "check_slides" = some (.ref f_check_slides)
  f_slide_then : Addr
  d_slide_then : FuncData
  F_slide_then : Fun K "slide_then" "slide_then" s_slide_then f_slide_then d_slide_then
  b_slide_then : Binds K d_slide_then ["one", "other"] []
  mg_slide_then : mg "slide_then" = some (.ref f_slide_then)
  f_slide_often : Addr
  d_slide_often : FuncData
  F_slide_often : Fun K "slide_often" "slide_often" s_slide_often f_slide_often d_slide_often
  b_slide_often : Binds K d_slide_often ["one", "times"] []
  mg_slide_often : mg "slide_often" = some (.ref f_slide_often)
  f_slide_alike : Addr
  d_slide_alike : FuncData
  F_slide_alike : Fun K "slide_alike" "slide_alike" s_slide_alike f_slide_alike d_slide_alike
  b_slide_alike : Binds K d_slide_alike ["one", "other"] []
  mg_slide_alike : mg "slide_alike" = some (.ref f_slide_alike)
  f_is_slide_alike : Addr
  d_is_slide_alike : FuncData
  F_is_slide_alike : Fun K "is_slide_alike" "is_slide_alike" s_is_slide_alike f_is_slide_alike d_is_slide_alike
  b_is_slide_alike : Binds K d_is_slide_alike ["one", "other"] []
  mg_is_slide_alike : mg "is_slide_alike" = some (.ref f_is_slide_alike)
  f_do_slides_commute : Addr
  d_do_slides_commute : FuncData
  F_do_slides_commute : Fun K "do_slides_commute" "do_slides_commute" s_do_slides_commute f_do_slides_commute d_do_slides_commute
  b_do_slides_commute : Binds K d_do_slides_commute ["one", "other"] []
  mg_do_slides_commute : mg "do_slides_commute" = some (.ref f_do_slides_commute)
  f_slide_root : Addr
  d_slide_root : FuncData
  F_slide_root : Fun K "slide_root" "slide_root" s_slide_root f_slide_root d_slide_root
  b_slide_root : Binds K d_slide_root ["one", "degree"] []
  mg_slide_root : mg "slide_root" = some (.ref f_slide_root)
  f_l_vial : Addr
  d_l_vial : FuncData
  F_l_vial : Fun K "_law_vial" "_law_vial" s_l_vial f_l_vial d_l_vial
  b_l_vial : Binds K d_l_vial ["_law_script", "_law_turn"] []
  mg_l_vial : mg "_law_vial" = some (.ref f_l_vial)
  f_l_nip : Addr
  d_l_nip : FuncData
  F_l_nip : Fun K "_law_nip" "_law_nip" s_l_nip f_l_nip d_l_nip
  b_l_nip : Binds K d_l_nip ["_law_vial_here", "_law_most"] []
  mg_l_nip : mg "_law_nip" = some (.ref f_l_nip)
  f_l_opt : Addr
  d_l_opt : FuncData
  F_l_opt : Fun K "_law_opt" "_law_opt" s_l_opt f_l_opt d_l_opt
  b_l_opt : Binds K d_l_opt ["_law_vial_here", "_law_menu"] []
  mg_l_opt : mg "_law_opt" = some (.ref f_l_opt)
  f_l_pair : Addr
  d_l_pair : FuncData
  F_l_pair : Fun K "_law_pair" "_law_pair" s_l_pair f_l_pair d_l_pair
  b_l_pair : Binds K d_l_pair ["_law_vial_here"] []
  mg_l_pair : mg "_law_pair" = some (.ref f_l_pair)
  f_l_then : Addr
  d_l_then : FuncData
  F_l_then : Fun K "_law_then" "_law_then" s_l_then f_l_then d_l_then
  b_l_then : Binds K d_l_then ["_law_near", "_law_late"] []
  mg_l_then : mg "_law_then" = some (.ref f_l_then)
  f_l_undone : Addr
  d_l_undone : FuncData
  F_l_undone : Fun K "_law_undone" "_law_undone" s_l_undone f_l_undone d_l_undone
  b_l_undone : Binds K d_l_undone ["_law_near"] []
  mg_l_undone : mg "_law_undone" = some (.ref f_l_undone)
  f_l_kept : Addr
  d_l_kept : FuncData
  F_l_kept : Fun K "_law_kept" "_law_kept" s_l_kept f_l_kept d_l_kept
  b_l_kept : Binds K d_l_kept ["_law_mine"] []
  mg_l_kept : mg "_law_kept" = some (.ref f_l_kept)
  f_l_often : Addr
  d_l_often : FuncData
  F_l_often : Fun K "_law_often" "_law_often" s_l_often f_l_often d_l_often
  b_l_often : Binds K d_l_often ["_law_near", "_law_many"] []
  mg_l_often : mg "_law_often" = some (.ref f_l_often)
  f_l_put : Addr
  d_l_put : FuncData
  F_l_put : Fun K "_law_put" "_law_put" s_l_put f_l_put d_l_put
  b_l_put : Binds K d_l_put ["_law_how", "_law_near"] []
  mg_l_put : mg "_law_put" = some (.ref f_l_put)
  f_l_is_like : Addr
  d_l_is_like : FuncData
  F_l_is_like : Fun K "_law_is_like" "_law_is_like" s_l_is_like f_l_is_like d_l_is_like
  b_l_is_like : Binds K d_l_is_like ["_law_near", "_law_late"] []
  mg_l_is_like : mg "_law_is_like" = some (.ref f_l_is_like)
  f_l_has_root : Addr
  d_l_has_root : FuncData
  F_l_has_root : Fun K "_law_has_root" "_law_has_root" s_l_has_root f_l_has_root d_l_has_root
  b_l_has_root : Binds K d_l_has_root ["_law_near", "_law_many"] []
  mg_l_has_root : mg "_law_has_root" = some (.ref f_l_has_root)
  f_l_pair_right : Addr
  d_l_pair_right : FuncData
  F_l_pair_right : Fun K "_law_pair_right" "_law_pair_right" s_l_pair_right f_l_pair_right d_l_pair_right
  b_l_pair_right : Binds K d_l_pair_right ["_law_near", "_law_late"] []
  mg_l_pair_right : mg "_law_pair_right" = some (.ref f_l_pair_right)
  f_l_root_right : Addr
  d_l_root_right : FuncData
  F_l_root_right : Fun K "_law_root_right" "_law_root_right" s_l_root_right f_l_root_right d_l_root_right
  b_l_root_right : Binds K d_l_root_right ["_law_near", "_law_many"] []
  mg_l_root_right : mg "_law_root_right" = some (.ref f_l_root_right)
  f_l_right : Addr
  d_l_right : FuncData
  F_l_right : Fun K "_law_right" "_law_right" s_l_right f_l_right d_l_right
  b_l_right : Binds K d_l_right ["_law_vial_here"] []
  mg_l_right : mg "_law_right" = some (.ref f_l_right)
  f_law : Addr
  d_law : FuncData
  F_law : Fun K "law" "law" s_law f_law d_law
  b_law : Binds K d_law ["_law_script"] []
  mg_law : mg "law" = some (.ref f_law)
  mg_Slide : mg "Slide" = some (.ref C)
  cl_Slide : Cls K C
  mk_Slide : Mk K C f_Slide_init
  p1 : Addr
  p2 : Addr
  pr_Slide_side : PropOf K C "side" p1 f_Slide_side
  pr_Slide_shift : PropOf K C "shift" p2 f_Slide_shift
  eqC : EqC K C f_Slide_eq
  na_side : NoAttr K C "_side"
  na_shift : NoAttr K C "_shift"
  isi : IsiC K C
  t1 : Tok
  t2 : Tok
  c_AHEAD : mg "AHEAD" = some (.int 1 t1)
  c_TURNED : mg "TURNED" = some (.int (-1) t2)
  n_int : mg "int" = none
  n_bool : mg "bool" = none
  n_isinstance : mg "isinstance" = none
  n_len : mg "len" = none
  n_abs : mg "abs" = none
  n_repr : mg "repr" = none
  n_all : mg "all" = none
  n_range : mg "range" = none
  n_divmod : mg "divmod" = none
  n_max : mg "max" = none
/-! ### a step on data -/
local macro_rules | `(tactic| walk_at "dl") => `(tactic| first
  | walk_at "dlx"
  | with_reducible apply sm_ret)
local macro_rules | `(tactic| walk_at "dlx") => `(tactic| first
  | (with_reducible refine sm_seqI fun _ _ => ?_)
  | with_reducible apply sm_next
  | with_reducible apply sm_asg
  | with_reducible apply sm_drop
  | with_reducible apply sm_if
  | with_reducible apply sm_asgG
  | with_reducible apply sm_par
  | with_reducible apply em_op
  | with_reducible apply em_un
  | with_reducible apply em_tup
  | with_reducible apply em_lst
  | with_reducible apply em_cb
  | with_reducible apply em_if
  | with_reducible apply em_andV
  | with_reducible apply em_orV
  | with_reducible apply em_notV
  | with_reducible apply em_isN
  | with_reducible apply em_notN
  | with_reducible apply em_prop
  | with_reducible apply em_callP
  | with_reducible apply em_callN
  | with_reducible apply em_make
  | with_reducible apply em_int
  | with_reducible apply em_str
  | with_reducible apply em_bl
  | with_reducible apply em_non
  | with_reducible apply em_ty
  | with_reducible apply em_adr
  | with_reducible apply am_cons
  | with_reducible apply am_nil
  | with_reducible apply tm_test
  | with_reducible apply tm_B
  | with_reducible apply tm_not
  | with_reducible apply tm_and
  | with_reducible apply tm_or
  | with_reducible apply rm_add
  | with_reducible apply rm_sub
  | with_reducible apply rm_eqI
  | with_reducible apply rm_neI
  | with_reducible apply cm_neg
  | with_reducible apply rm_lt
  | with_reducible apply cm_int1
  | with_reducible apply cm_abs
  | with_reducible apply cm_max2
  | with_reducible apply rm_eqB
  | with_reducible apply sm_par3
  | ((with_reducible show EvM _ _ (tSl (rSlL _) _ _ _) _ _ _); apply em_slL)
  | ((with_reducible show RM _ _ (rIxT _) (D.tup _) (D.int _) _ _); refine rm_ixT rfl ?_)
  | ((with_reducible show RM _ _ (rIxL _) (D.lst _) (D.int _) _ _); refine rm_ixL rfl ?_)
  | ((with_reducible show GM _ _ (gTup _ _ _) (D.tup _) _ _ _); refine gm_tup rfl ?_)
  | ((with_reducible show GM _ _ (gUnl _ _ _) (D.lst _) _ _ _); refine gm_unl rfl ?_)
  | with_reducible apply om_none
  | with_reducible apply om_some
  | (refine rm_C (C := CMul) (Or.inl ⟨by decide, by decide⟩) ?_)
  | (refine rm_C (C := CMul) (Or.inr ⟨by decide, by decide⟩) ?_)
  | (refine rm_C (C := CPow) ⟨by decide, by decide, by decide⟩ ?_)
  | (refine rm_C (C := fun (_ : Int) (j : Int) => 0 < j) (by decide) ?_)
  | with_reducible apply gsm_nil
  | with_reducible apply gsm_cons
  | with_reducible apply gm_name
  | (with_reducible refine em_var rfl ?_)
  | (refine And.intro (show List.length _ ≤ 1000 from by simp) ?_)
  | (with_reducible refine (‹∀ Γ' m, SM _ _ _ Γ' m _ _ → _› : ∀ Γ' m, SM _ _ _ Γ' m _ _ → _) _ _ ?_)
  | (with_reducible dsimp only))
abbrev sl (C : Addr) (s x : Int) : D := .ins C [("_side", .int s), ("_shift", .int x)]
def Sd (s : Int) : Prop := s = 1 ∨ s = -1
theorem look_side (s x : Int) : List.lookup ("_side" : Str) [(("_side" : Str), D.int s), (("_shift" : Str), D.int x)] = some (.int s) := by rfl
theorem look_shift (s x : Int) : List.lookup ("_shift" : Str) [(("_side" : Str), D.int s), (("_shift" : Str), D.int x)] = some (.int x) := by rfl
section
variable {P : Program} {w : World} {K : PySem.W.Frag} {mg : Str → Option Value} {base : Heap}
def P_is_integer : List D → (D → Prop) → Prop := fun ds Φ => ∃ i, ds = [.int i] ∧ Φ (.bl true)
theorem ok_is_integer (T : Tx K mg) : FnOk P w K mg base CX0 1 T.f_is_integer T.d_is_integer ["value"] (spP K P_is_integer) := by
  refine T.F_is_integer.ok sc_is_integer (fun vs H Q E h => len_P h fun ds Φ ⟨i, e, _⟩ => by subst e; rfl) (fun cdv A outer s H vs Q E hr h => ?_)
  refine ⟨_, (pss_one (ps_ret (pe_and (pe_callB call_isi rfl T.n_isinstance boot_isinstance (pa_cons (pv 0) (pa_cons (pe_bltn (v := .ty "int") rfl T.n_int boot_int rfl) pa_nil))) (pe_one (pe_not (pe_callB call_isi rfl T.n_isinstance boot_isinstance (pa_cons (pv 0) (pa_cons (pe_bltn (v := .ty "bool") rfl T.n_bool boot_bool rfl) pa_nil)))))))), ?_⟩
  refine body_P h fun ds Φ ⟨i, e, p⟩ => ?_
  subst e
  repeat walk_at "dl"
  refine cm_isi (T := "int") rfl (by decide +kernel) (fun _ => by simp) ⟨true, rfl, fun _ => ?_, (fun z => by cases z)⟩
  repeat walk_at "dl"
  exact cm_isi (T := "int") rfl (by decide +kernel) (fun _ => by simp) ⟨false, rfl, p⟩
def P_check_number : List D → (D → Prop) → Prop := fun ds Φ => ∃ i, ds = [.int i] ∧ Φ .non
theorem ok_check_number (T : Tx K mg) : FnOk P w K mg base CX0 2 T.f_check_number T.d_check_number ["value"] (spP K P_check_number) := by
  refine T.F_check_number.ok sc_check_number (fun vs H Q E h => len_P h fun ds Φ ⟨i, e, _⟩ => by subst e; rfl) (fun cdv A outer s H vs Q E hr h => ?_)
  refine ⟨_, (pss_one (ps_if (pt_not (pt_val (pe_call (ok_is_integer T) (hr.mono (by decide)) rfl T.mg_is_integer T.F_is_integer.kp T.b_is_integer .nil pass0 (pa_cons (pv 0) pa_nil)))) (pss_one ps_never) pss_nil)), ?_⟩
  refine body_P h fun ds Φ ⟨i, e, p⟩ => ?_
  subst e
  repeat walk_at "dl"
  exact ⟨i, rfl, true, rfl, (fun z => by cases z), fun _ => sm_next p⟩
def P_init : List D → (List (Str × D) → Prop) → Prop := fun ds Φ => ∃ s x, ds = [.int s, .int x] ∧ Sd s ∧ Φ [("_side", .int s), ("_shift", .int x)]
theorem ok_Slide_init (T : Tx K mg) : FnOk P w K mg base CX0 3 T.f_Slide_init T.d_Slide_init ["self", "side", "shift"] (spI K T.C P_init) := by
  refine T.F_Slide_init.ok sc_Slide_init (fun vs H Q E h => len_I h fun ds Φ ⟨s, x, e, _⟩ => by subst e; rfl) (fun cdv A outer s H vs Q E hr h => ?_)
  refine ⟨_, (pss_cons (ps_if (PW.pt (pw_or (pt_not (pt_val (pe_call (ok_is_integer T) (hr.mono (by decide)) rfl T.mg_is_integer T.F_is_integer.kp T.b_is_integer .nil pass0 (pa_cons (pv 1) pa_nil)))) (pw_or1 (pt_cmpR op_notIn_seq (pv 1) (pe_tup (pa_cons (pe_glob (v := .int (1)) rfl T.c_AHEAD ⟨_, rfl⟩) (pa_cons (pe_glob (v := .int (-1)) rfl T.c_TURNED ⟨_, rfl⟩) pa_nil))) (by with_unfolding_all rfl))))) (pss_one ps_never) pss_nil) (pss_cons (ps_expr (pe_call (ok_check_number T) (hr.mono (by decide)) rfl T.mg_check_number T.F_check_number.kp T.b_check_number .nil pass0 (pa_cons (pv 2) pa_nil))) (pss_cons (ps_fld (pv 0) (pv 1) rfl) (pss_one (ps_fld (pv 0) (pv 2) rfl))))), ?_⟩
  refine init2 T.cl_Slide T.na_side T.na_shift (by decide) h (fun ds Φ ⟨s, x, e, hs, p⟩ => ⟨.int s, .int x, e, p, fun b => ?_⟩) rfl
  repeat walk_at "dl"
  refine ⟨s, rfl, true, rfl, (fun z => by cases z), fun _ => ?_⟩
  repeat walk_at "dl"
  refine rm_in [1, -1] rfl ?_
  refine ⟨_, rfl, fun z => ?_, fun _ => ?_⟩
  · rcases hs with hs | hs <;> (subst hs; exact absurd z (by decide))
  · repeat walk_at "dl"
    exact ⟨x, rfl, rfl⟩
theorem ok_Slide_side (T : Tx K mg) : FnOk P w K mg base CX0 1 T.f_Slide_side T.d_Slide_side ["self"] (getSp T.C "_side") := by
  refine T.F_Slide_side.ok sc_Slide_side (fun vs H Q E h => by obtain ⟨a, dx, fs, v, e, _⟩ := h; rw [e]; rfl) (fun cdv A outer s H vs Q E hr h => ?_)
  obtain ⟨a, dx, fs, v, e, ha, hl, q⟩ := h
  subst e
  exact ⟨_, (pss_one (ps_ret (pe_fld (pv 0) rfl))), .ref a, rfl, a, T.C, dx, fs, v, rfl, ha, T.cl_Slide, T.na_side, hl, q⟩
theorem ok_Slide_shift (T : Tx K mg) : FnOk P w K mg base CX0 1 T.f_Slide_shift T.d_Slide_shift ["self"] (getSp T.C "_shift") := by
  refine T.F_Slide_shift.ok sc_Slide_shift (fun vs H Q E h => by obtain ⟨a, dx, fs, v, e, _⟩ := h; rw [e]; rfl) (fun cdv A outer s H vs Q E hr h => ?_)
  obtain ⟨a, dx, fs, v, e, ha, hl, q⟩ := h
  subst e
  exact ⟨_, (pss_one (ps_ret (pe_fld (pv 0) rfl))), .ref a, rfl, a, T.C, dx, fs, v, rfl, ha, T.cl_Slide, T.na_shift, hl, q⟩
def P_eq (C : Addr) : List D → (D → Prop) → Prop := fun ds Φ => ∃ s x t y, ds = [sl C s x, sl C t y] ∧ Φ (.bl (decide (s = t) && decide (x = y)))
theorem ok_Slide_eq (T : Tx K mg) : FnOk P w K mg base CX0 1 T.f_Slide_eq T.d_Slide_eq ["self", "other"] (spP K (P_eq T.C)) := by
  refine T.F_Slide_eq.ok sc_Slide_eq (fun vs H Q E h => len_P h fun ds Φ ⟨s, x, t, y, e, _⟩ => by subst e; rfl) (fun cdv A outer s H vs Q E hr h => ?_)
  refine ⟨_, (pss_one (ps_ret (pe_and (pe_callB call_isi rfl T.n_isinstance boot_isinstance (pa_cons (pv 1) (pa_cons (pe_glob (v := .ref T.C) rfl T.mg_Slide rfl) pa_nil))) (pe_and (pe_cmpR op_eq (pe_fld (pv 0) rfl) (pe_fld (pv 1) rfl) (nomark _)) (pe_one (pe_cmpR op_eq (pe_fld (pv 0) rfl) (pe_fld (pv 1) rfl) (nomark _))))))), ?_⟩
  refine body_P h fun ds Φ ⟨s, x, t, y, e, p⟩ => ?_
  subst e
  repeat walk_at "dl"
  refine cm_isiC T.isi ⟨true, rfl, fun _ => ?_, (fun z => by cases z)⟩
  repeat walk_at "dl"
  refine em_fld T.cl_Slide T.na_side ?_
  repeat walk_at "dl"
  refine ⟨_, _, rfl, look_side _ _, ?_⟩
  refine em_fld T.cl_Slide T.na_side ?_
  repeat walk_at "dl"
  refine ⟨_, _, rfl, look_side _ _, ?_⟩
  repeat walk_at "dl"
  refine ⟨_, rfl, fun z => ?_, fun z => ?_⟩
  · repeat walk_at "dl"
    refine em_fld T.cl_Slide T.na_shift ?_
    repeat walk_at "dl"
    refine ⟨_, _, rfl, look_shift _ _, ?_⟩
    refine em_fld T.cl_Slide T.na_shift ?_
    repeat walk_at "dl"
    refine ⟨_, _, rfl, look_shift _ _, ?_⟩
    repeat walk_at "dl"
    rw [z] at p
    exact p
  · rw [z] at p
    exact p
def P_check (C : Addr) : List D → (D → Prop) → Prop := fun ds Φ => ∃ s x, ds = [sl C s x] ∧ Φ .non
theorem ok_check_slide (T : Tx K mg) : FnOk P w K mg base CX0 1 T.f_check_slide T.d_check_slide ["value"] (spP K (P_check T.C)) := by
  refine T.F_check_slide.ok sc_check_slide (fun vs H Q E h => len_P h fun ds Φ ⟨s, x, e, _⟩ => by subst e; rfl) (fun cdv A outer s H vs Q E hr h => ?_)
  refine ⟨_, (pss_one (ps_if (pt_not (pt_val (pe_callB call_isi rfl T.n_isinstance boot_isinstance (pa_cons (pv 0) (pa_cons (pe_glob (v := .ref T.C) rfl T.mg_Slide rfl) pa_nil))))) (pss_one ps_never) pss_nil)), ?_⟩
  refine body_P h fun ds Φ ⟨s, x, e, p⟩ => ?_
  subst e
  repeat walk_at "dl"
  exact cm_isiC T.isi ⟨true, rfl, (fun z => by cases z), fun _ => sm_next p⟩
def P_check2 (C : Addr) : List D → (D → Prop) → Prop := fun ds Φ => ∃ s x t y, ds = [sl C s x, sl C t y] ∧ Φ .non
theorem ok_check_slides (T : Tx K mg) : FnOk P w K mg base CX0 2 T.f_check_slides T.d_check_slides ["one", "other"] (spP K (P_check2 T.C)) := by
  refine T.F_check_slides.ok sc_check_slides (fun vs H Q E h => len_P h fun ds Φ ⟨s, x, t, y, e, _⟩ => by subst e; rfl) (fun cdv A outer s H vs Q E hr h => ?_)
  refine ⟨_, (pss_cons (ps_expr (pe_call (ok_check_slide T) (hr.mono (by decide)) rfl T.mg_check_slide T.F_check_slide.kp T.b_check_slide .nil pass0 (pa_cons (pv 0) pa_nil))) (pss_one (ps_expr (pe_call (ok_check_slide T) (hr.mono (by decide)) rfl T.mg_check_slide T.F_check_slide.kp T.b_check_slide .nil pass0 (pa_cons (pv 1) pa_nil))))), ?_⟩
  refine body_P h fun ds Φ ⟨s, x, t, y, e, p⟩ => ?_
  subst e
  repeat walk_at "dl"
  refine ⟨s, x, rfl, ?_⟩
  repeat walk_at "dl"
  exact ⟨t, y, rfl, p⟩
/-- not too great to be multiplied -/
def Bd (x : Int) : Prop := x.natAbs < 10 ^ 200
set_option exponentiation.threshold 3000 in
theorem log_lt {x : Nat} (h : x < 10 ^ 200) : x.log2 < 700 := by
  by_cases h0 : x = 0
  · subst h0; decide
  · rw [Nat.log2_lt h0]
    exact Nat.lt_trans h (by decide)
theorem mulW {x y : Int} (hx : Bd x) (hy : Bd y) : CMulW x y := by
  have h1 := log_lt hx
  have h2 := log_lt hy
  unfold CMulW
  omega
theorem Sd.bd {s : Int} (h : Sd s) : Bd s := by
  rcases h with h | h <;> (subst h; unfold Bd; decide)
theorem Sd.mul {s t : Int} (h : Sd s) (k : Sd t) : Sd (s * t) := by
  rcases h with h | h <;> rcases k with k | k <;> (subst h k; unfold Sd; decide)
def P_then (C : Addr) : List D → (D → Prop) → Prop := fun ds Φ => ∃ s x t y, ds = [sl C s x, sl C t y] ∧ Sd s ∧ Sd t ∧ Bd y ∧ Φ (sl C (s * t) (x + s * y))
theorem ok_slide_then (T : Tx K mg) : FnOk P w K mg base CX0 5 T.f_slide_then T.d_slide_then ["one", "other"] (spP K (P_then T.C)) := by
  refine T.F_slide_then.ok sc_slide_then (fun vs H Q E h => len_P h fun ds Φ ⟨s, x, t, y, e, _⟩ => by subst e; rfl) (fun cdv A outer s H vs Q E hr h => ?_)
  refine ⟨_, (pss_cons (ps_expr (pe_call (ok_check_slides T) (hr.mono (by decide)) rfl T.mg_check_slides T.F_check_slides.kp T.b_check_slides .nil pass0 (pa_cons (pv 0) (pa_cons (pv 1) pa_nil)))) (pss_one (ps_ret (pe_make T.mk_Slide (ok_Slide_init T) (hr.mono (by decide)) rfl T.mg_Slide T.b_Slide_init .nil pass0 (pa_cons (pe_op op_mulW (pe_prop (pv 0) T.cl_Slide T.pr_Slide_side (ok_Slide_side T) (hr.mono (by decide)) T.b_Slide_side .nil pass0 rfl) (pe_prop (pv 1) T.cl_Slide T.pr_Slide_side (ok_Slide_side T) (hr.mono (by decide)) T.b_Slide_side .nil pass0 rfl)) (pa_cons (pe_op op_add (pe_prop (pv 0) T.cl_Slide T.pr_Slide_shift (ok_Slide_shift T) (hr.mono (by decide)) T.b_Slide_shift .nil pass0 rfl) (pe_op op_mulW (pe_prop (pv 0) T.cl_Slide T.pr_Slide_side (ok_Slide_side T) (hr.mono (by decide)) T.b_Slide_side .nil pass0 rfl) (pe_prop (pv 1) T.cl_Slide T.pr_Slide_shift (ok_Slide_shift T) (hr.mono (by decide)) T.b_Slide_shift .nil pass0 rfl))) pa_nil)))))), ?_⟩
  refine body_P h fun ds Φ ⟨s, x, t, y, e, hs, ht, hy, p⟩ => ?_
  subst e
  repeat walk_at "dl"
  refine ⟨s, x, t, y, rfl, ?_⟩
  repeat walk_at "dl"
  refine ⟨_, _, rfl, look_side _ _, ?_⟩
  repeat walk_at "dl"
  refine ⟨_, _, rfl, look_side _ _, ?_⟩
  refine rm_C (mulW hs.bd ht.bd) ?_
  repeat walk_at "dl"
  refine ⟨_, _, rfl, look_shift _ _, ?_⟩
  repeat walk_at "dl"
  refine ⟨_, _, rfl, look_side _ _, ?_⟩
  repeat walk_at "dl"
  refine ⟨_, _, rfl, look_shift _ _, ?_⟩
  refine rm_C (mulW hs.bd hy) ?_
  repeat walk_at "dl"
  exact ⟨_, _, rfl, hs.mul ht, p⟩
theorem Sd.neg {s : Int} (h : Sd s) : Sd (-s) := by
  rcases h with h | h <;> (subst h; unfold Sd; decide)
theorem Sd.abs {s : Int} (h : Sd s) (x : Int) : (s * x).natAbs = x.natAbs := by
  rcases h with h | h <;> (subst h; omega)
theorem Sd.sq {s : Int} (h : Sd s) : s * s = 1 := by
  rcases h with h | h <;> (subst h; rfl)
/-- half as great -/
def Sm (x : Int) : Prop := x.natAbs < 10 ^ 100
theorem Sm.bd {x : Int} (h : Sm x) : Bd x := by
  unfold Sm at h; unfold Bd; omega
theorem Sm.smul {s x : Int} (hs : Sd s) (h : Sm x) : Sm (s * x) := by
  unfold Sm at h ⊢; rw [hs.abs]; exact h
theorem Sm.add {x y : Int} (h : Sm x) (k : Sm y) : Bd (x + y) := by
  unfold Sm at h k; unfold Bd; omega
def oft (C : Addr) (s x m : Int) : D := if s = 1 then sl C 1 (m * x) else if m % 2 = 0 then sl C 1 0 else sl C s x
def P_often (C : Addr) : List D → (D → Prop) → Prop := fun ds Φ => ∃ s x m, ds = [sl C s x, .int m] ∧ Sd s ∧ Bd x ∧ Bd m ∧ Φ (oft C s x m)
theorem ok_slide_often (T : Tx K mg) : FnOk P w K mg base CX0 5 T.f_slide_often T.d_slide_often ["one", "times"] (spP K (P_often T.C)) := by
  refine T.F_slide_often.ok sc_slide_often (fun vs H Q E h => len_P h fun ds Φ ⟨s, x, m, e, _⟩ => by subst e; rfl) (fun cdv A outer s H vs Q E hr h => ?_)
  refine ⟨_, (pss_cons (ps_expr (pe_call (ok_check_slide T) (hr.mono (by decide)) rfl T.mg_check_slide T.F_check_slide.kp T.b_check_slide .nil pass0 (pa_cons (pv 0) pa_nil))) (pss_cons (ps_expr (pe_call (ok_check_number T) (hr.mono (by decide)) rfl T.mg_check_number T.F_check_number.kp T.b_check_number .nil pass0 (pa_cons (pv 1) pa_nil))) (pss_cons (ps_if (pt_cmpR op_eq (pe_prop (pv 0) T.cl_Slide T.pr_Slide_side (ok_Slide_side T) (hr.mono (by decide)) T.b_Slide_side .nil pass0 rfl) (pe_glob (v := .int (1)) rfl T.c_AHEAD ⟨_, rfl⟩) (nomark _)) (pss_one (ps_ret (pe_make T.mk_Slide (ok_Slide_init T) (hr.mono (by decide)) rfl T.mg_Slide T.b_Slide_init .nil pass0 (pa_cons (pe_glob (v := .int (1)) rfl T.c_AHEAD ⟨_, rfl⟩) (pa_cons (pe_op op_mulW (pv 1) (pe_prop (pv 0) T.cl_Slide T.pr_Slide_shift (ok_Slide_shift T) (hr.mono (by decide)) T.b_Slide_shift .nil pass0 rfl)) pa_nil))))) pss_nil) (pss_one (ps_ret (pe_ifExp (pt_truth (pe_op op_mod (pv 1) pe_int) (fun _ => rfl)) (pv 0) (pe_make T.mk_Slide (ok_Slide_init T) (hr.mono (by decide)) rfl T.mg_Slide T.b_Slide_init .nil pass0 (pa_cons (pe_glob (v := .int (1)) rfl T.c_AHEAD ⟨_, rfl⟩) (pa_cons pe_int pa_nil))))))))), ?_⟩
  refine body_P h fun ds Φ ⟨s, x, m, e, hs, hx, hm, p⟩ => ?_
  subst e
  repeat walk_at "dl"
  refine ⟨s, x, rfl, ?_⟩
  repeat walk_at "dl"
  refine ⟨m, rfl, ?_⟩
  repeat walk_at "dl"
  refine ⟨_, _, rfl, look_side _ _, ?_⟩
  repeat walk_at "dl"
  refine ⟨_, rfl, fun z => ?_, fun z => ?_⟩
  · have z' : s = 1 := of_decide_eq_true z
    repeat walk_at "dl"
    refine ⟨_, _, rfl, look_shift _ _, ?_⟩
    refine rm_C (mulW hm hx) ?_
    repeat walk_at "dl"
    refine ⟨_, _, rfl, .inl rfl, ?_⟩
    unfold oft at p
    rw [if_pos z'] at p
    exact p
  · have z' : ¬ s = 1 := of_decide_eq_false z
    unfold oft at p
    rw [if_neg z'] at p
    repeat walk_at "dl"
    refine tm_tru ?_
    repeat walk_at "dl"
    refine ⟨_, rfl, fun y => ?_, fun y => ?_⟩
    · have y' : ¬ m % 2 = 0 := by simpa using y
      rw [if_neg y'] at p
      repeat walk_at "dl"
      exact p
    · have y' : m % 2 = 0 := by simpa using y
      rw [if_pos y'] at p
      repeat walk_at "dl"
      exact ⟨_, _, rfl, .inl rfl, p⟩
def P_check_degree : List D → (D → Prop) → Prop := fun ds Φ => ∃ i : Int, ds = [.int i] ∧ 1 ≤ i ∧ Φ .non
theorem ok_check_degree (T : Tx K mg) : FnOk P w K mg base CX0 2 T.f_check_degree T.d_check_degree ["value"] (spP K P_check_degree) := by
  refine T.F_check_degree.ok sc_check_degree (fun vs H Q E h => len_P h fun ds Φ ⟨i, e, _⟩ => by subst e; rfl) (fun cdv A outer s H vs Q E hr h => ?_)
  refine ⟨_, (pss_one (ps_if (PW.pt (pw_or (pt_not (pt_val (pe_call (ok_is_integer T) (hr.mono (by decide)) rfl T.mg_is_integer T.F_is_integer.kp T.b_is_integer .nil pass0 (pa_cons (pv 0) pa_nil)))) (pw_or1 (pt_cmpR op_lt (pv 0) pe_int (nomark _))))) (pss_one ps_never) pss_nil)), ?_⟩
  refine body_P h fun ds Φ ⟨i, e, h1, p⟩ => ?_
  subst e
  repeat walk_at "dl"
  refine ⟨i, rfl, true, rfl, (fun z => by cases z), fun _ => ?_⟩
  repeat walk_at "dl"
  refine ⟨_, rfl, fun z => absurd (of_decide_eq_true z) (by omega), fun _ => sm_next p⟩
def alk (C : Addr) (s x t y : Int) : D := if s = t then (if s = -1 then (if (y - x) % 2 = 0 then sl C 1 ((y - x) / 2) else .non) else if y - x = 0 then sl C 1 0 else if y = -x then sl C (-1) 0 else .non) else .non
def P_alike (C : Addr) : List D → (D → Prop) → Prop := fun ds Φ => ∃ s x t y, ds = [sl C s x, sl C t y] ∧ Sd s ∧ Sd t ∧ Φ (alk C s x t y)
theorem ok_slide_alike (T : Tx K mg) : FnOk P w K mg base CX0 5 T.f_slide_alike T.d_slide_alike ["one", "other"] (spP K (P_alike T.C)) := by
  refine T.F_slide_alike.ok sc_slide_alike (fun vs H Q E h => len_P h fun ds Φ ⟨s, x, t, y, e, _⟩ => by subst e; rfl) (fun cdv A outer s H vs Q E hr h => ?_)
  refine ⟨_, (pss_cons (ps_expr (pe_call (ok_check_slides T) (hr.mono (by decide)) rfl T.mg_check_slides T.F_check_slides.kp T.b_check_slides .nil pass0 (pa_cons (pv 0) (pa_cons (pv 1) pa_nil)))) (pss_cons (ps_if (pt_cmpR op_ne (pe_prop (pv 0) T.cl_Slide T.pr_Slide_side (ok_Slide_side T) (hr.mono (by decide)) T.b_Slide_side .nil pass0 rfl) (pe_prop (pv 1) T.cl_Slide T.pr_Slide_side (ok_Slide_side T) (hr.mono (by decide)) T.b_Slide_side .nil pass0 rfl) (nomark _)) (pss_one (ps_ret pe_non)) pss_nil) (pss_cons (ps_set (i := 2) sc_slide_alike.nd rfl (Or.inl rfl) (pe_op op_sub (pe_prop (pv 1) T.cl_Slide T.pr_Slide_shift (ok_Slide_shift T) (hr.mono (by decide)) T.b_Slide_shift .nil pass0 rfl) (pe_prop (pv 0) T.cl_Slide T.pr_Slide_shift (ok_Slide_shift T) (hr.mono (by decide)) T.b_Slide_shift .nil pass0 rfl))) (pss_cons (ps_if (pt_cmpR op_eq (pe_prop (pv 0) T.cl_Slide T.pr_Slide_side (ok_Slide_side T) (hr.mono (by decide)) T.b_Slide_side .nil pass0 rfl) (pe_glob (v := .int (-1)) rfl T.c_TURNED ⟨_, rfl⟩) (nomark _)) (pss_one (ps_ret (pe_ifExp (pt_truth (pe_op op_mod (pv 2) pe_int) (fun _ => rfl)) pe_non (pe_make T.mk_Slide (ok_Slide_init T) (hr.mono (by decide)) rfl T.mg_Slide T.b_Slide_init .nil pass0 (pa_cons (pe_glob (v := .int (1)) rfl T.c_AHEAD ⟨_, rfl⟩) (pa_cons (pe_op op_fdivW (pv 2) pe_int) pa_nil)))))) pss_nil) (pss_cons (ps_if (pt_cmpR op_eq (pv 2) pe_int (nomark _)) (pss_one (ps_ret (pe_make T.mk_Slide (ok_Slide_init T) (hr.mono (by decide)) rfl T.mg_Slide T.b_Slide_init .nil pass0 (pa_cons (pe_glob (v := .int (1)) rfl T.c_AHEAD ⟨_, rfl⟩) (pa_cons pe_int pa_nil))))) pss_nil) (pss_one (ps_ret (pe_ifExp (pt_cmpR op_eq (pe_prop (pv 1) T.cl_Slide T.pr_Slide_shift (ok_Slide_shift T) (hr.mono (by decide)) T.b_Slide_shift .nil pass0 rfl) (pe_un un_neg (pe_prop (pv 0) T.cl_Slide T.pr_Slide_shift (ok_Slide_shift T) (hr.mono (by decide)) T.b_Slide_shift .nil pass0 rfl)) (nomark _)) (pe_make T.mk_Slide (ok_Slide_init T) (hr.mono (by decide)) rfl T.mg_Slide T.b_Slide_init .nil pass0 (pa_cons (pe_glob (v := .int (-1)) rfl T.c_TURNED ⟨_, rfl⟩) (pa_cons pe_int pa_nil))) pe_non)))))))), ?_⟩
  refine body_P h fun ds Φ ⟨s, x, t, y, e, hs, ht, p⟩ => ?_
  subst e
  unfold alk at p
  repeat walk_at "dl"
  refine ⟨s, x, t, y, rfl, ?_⟩
  repeat walk_at "dl"
  refine ⟨_, _, rfl, look_side _ _, ?_⟩
  repeat walk_at "dl"
  refine ⟨_, _, rfl, look_side _ _, ?_⟩
  refine rm_neI ?_
  refine ⟨_, rfl, fun z => ?_, fun z => ?_⟩
  · rw [if_neg (by simpa using z)] at p
    repeat walk_at "dl"
    exact p
  rw [if_pos (by simpa using z)] at p
  repeat walk_at "dl"
  refine ⟨_, _, rfl, look_shift _ _, ?_⟩
  repeat walk_at "dl"
  refine ⟨_, _, rfl, look_shift _ _, ?_⟩
  repeat walk_at "dl"
  refine ⟨_, _, rfl, look_side _ _, ?_⟩
  repeat walk_at "dl"
  refine ⟨_, rfl, fun z => ?_, fun z => ?_⟩
  · rw [if_pos (of_decide_eq_true z)] at p
    repeat walk_at "dl"
    refine tm_tru ?_
    repeat walk_at "dl"
    refine ⟨_, rfl, fun w => ?_, fun w => ?_⟩
    · rw [if_neg (by simpa using w)] at p
      repeat walk_at "dl"
      exact p
    · rw [if_pos (by simpa using w)] at p
      repeat walk_at "dl"
      refine rm_C (C := CDivW) ⟨by decide, by decide⟩ ?_
      repeat walk_at "dl"
      exact ⟨_, _, rfl, .inl rfl, p⟩
  rw [if_neg (of_decide_eq_false z)] at p
  repeat walk_at "dl"
  refine ⟨_, rfl, fun z => ?_, fun z => ?_⟩
  · rw [if_pos (of_decide_eq_true z)] at p
    repeat walk_at "dl"
    exact ⟨_, _, rfl, .inl rfl, p⟩
  rw [if_neg (of_decide_eq_false z)] at p
  repeat walk_at "dl"
  refine ⟨_, _, rfl, look_shift _ _, ?_⟩
  repeat walk_at "dl"
  refine ⟨_, _, rfl, look_shift _ _, ?_⟩
  repeat walk_at "dl"
  refine ⟨_, rfl, fun z => ?_, fun z => ?_⟩
  · rw [if_pos (of_decide_eq_true z)] at p
    repeat walk_at "dl"
    exact ⟨_, _, rfl, .inr rfl, p⟩
  · rw [if_neg (of_decide_eq_false z)] at p
    repeat walk_at "dl"
    exact p
def like (s x t y : Int) : Bool := decide (s = t ∧ (s = -1 → (y - x) % 2 = 0) ∧ (s ≠ -1 → y = x ∨ y = -x))
theorem alk_like (C : Addr) (s x t y : Int) : (like s x t y = true ∧ ∃ u v, alk C s x t y = sl C u v ∧ Sd u) ∨ (like s x t y = false ∧ alk C s x t y = .non) := by
  unfold like alk
  by_cases h1 : s = t
  · rw [if_pos h1]
    by_cases h2 : s = -1
    · rw [if_pos h2]
      by_cases h3 : (y - x) % 2 = 0
      · rw [if_pos h3]; exact .inl ⟨decide_eq_true ⟨h1, fun _ => h3, fun z => absurd h2 z⟩, _, _, rfl, .inl rfl⟩
      · rw [if_neg h3]; exact .inr ⟨decide_eq_false fun z => h3 (z.2.1 h2), rfl⟩
    · rw [if_neg h2]
      by_cases h3 : y - x = 0
      · rw [if_pos h3]; exact .inl ⟨decide_eq_true ⟨h1, fun z => absurd z h2, fun _ => .inl (by omega)⟩, _, _, rfl, .inl rfl⟩
      · rw [if_neg h3]
        by_cases h4 : y = -x
        · rw [if_pos h4]; exact .inl ⟨decide_eq_true ⟨h1, fun z => absurd z h2, fun _ => .inr h4⟩, _, _, rfl, .inr rfl⟩
        · rw [if_neg h4]; exact .inr ⟨decide_eq_false fun z => (z.2.2 h2).elim (fun q => h3 (by omega)) h4, rfl⟩
  · rw [if_neg h1]; exact .inr ⟨decide_eq_false fun z => h1 z.1, rfl⟩
def P_isalike (C : Addr) : List D → (D → Prop) → Prop := fun ds Φ => ∃ s x t y, ds = [sl C s x, sl C t y] ∧ Sd s ∧ Sd t ∧ Φ (.bl (like s x t y))
theorem ok_is_slide_alike (T : Tx K mg) : FnOk P w K mg base CX0 6 T.f_is_slide_alike T.d_is_slide_alike ["one", "other"] (spP K (P_isalike T.C)) := by
  refine T.F_is_slide_alike.ok sc_is_slide_alike (fun vs H Q E h => len_P h fun ds Φ ⟨s, x, t, y, e, _⟩ => by subst e; rfl) (fun cdv A outer s H vs Q E hr h => ?_)
  refine ⟨_, (pss_one (ps_ret (pe_cmp (pc_notN (pe_call (ok_slide_alike T) (hr.mono (by decide)) rfl T.mg_slide_alike T.F_slide_alike.kp T.b_slide_alike .nil pass0 (pa_cons (pv 0) (pa_cons (pv 1) pa_nil))))))), ?_⟩
  refine body_P h fun ds Φ ⟨s, x, t, y, e, hs, ht, p⟩ => ?_
  subst e
  repeat walk_at "dl"
  refine ⟨s, x, t, y, rfl, hs, ht, ?_⟩
  rcases alk_like T.C s x t y with ⟨h1, u, v, h2, _⟩ | ⟨h1, h2⟩
  · rw [h1] at p; rw [h2]; exact .inr ⟨fun z => (by cases z), p⟩
  · rw [h1] at p; rw [h2]; exact .inl ⟨rfl, p⟩
def P_commute (C : Addr) : List D → (D → Prop) → Prop := fun ds Φ => ∃ s x t y, ds = [sl C s x, sl C t y] ∧ Sd s ∧ Sd t ∧ Bd x ∧ Bd y ∧ Φ (.bl (decide (s * t = t * s) && decide (x + s * y = y + t * x)))
theorem ok_do_slides_commute (T : Tx K mg) : FnOk P w K mg base CX0 6 T.f_do_slides_commute T.d_do_slides_commute ["one", "other"] (spP K (P_commute T.C)) := by
  refine T.F_do_slides_commute.ok sc_do_slides_commute (fun vs H Q E h => len_P h fun ds Φ ⟨s, x, t, y, e, _⟩ => by subst e; rfl) (fun cdv A outer s H vs Q E hr h => ?_)
  refine ⟨_, (pss_one (ps_ret (pe_cmpR (op_eqOwn T.eqC (ok_Slide_eq T) T.b_Slide_eq (hr.mono (by decide))) (pe_call (ok_slide_then T) (hr.mono (by decide)) rfl T.mg_slide_then T.F_slide_then.kp T.b_slide_then .nil pass0 (pa_cons (pv 0) (pa_cons (pv 1) pa_nil))) (pe_call (ok_slide_then T) (hr.mono (by decide)) rfl T.mg_slide_then T.F_slide_then.kp T.b_slide_then .nil pass0 (pa_cons (pv 1) (pa_cons (pv 0) pa_nil))) (nomark _)))), ?_⟩
  refine body_P h fun ds Φ ⟨s, x, t, y, e, hs, ht, hx, hy, p⟩ => ?_
  subst e
  repeat walk_at "dl"
  refine ⟨s, x, t, y, rfl, hs, ht, hy, ?_⟩
  repeat walk_at "dl"
  refine ⟨t, y, s, x, rfl, ht, hs, hx, ?_⟩
  refine rm_own ⟨_, _, _, _, rfl, _, rfl, ?_⟩
  rw [Bool.false_bne]
  exact p
def rt (C : Addr) (s x m : Int) : D := if s = -1 then (if m % 2 = 0 then .non else sl C s x) else if x % m = 0 then sl C 1 (x / m) else .non
def P_root (C : Addr) : List D → (D → Prop) → Prop := fun ds Φ => ∃ s x m, ds = [sl C s x, .int m] ∧ 1 ≤ m ∧ Bd m ∧ Φ (rt C s x m)
theorem ok_slide_root (T : Tx K mg) : FnOk P w K mg base CX0 5 T.f_slide_root T.d_slide_root ["one", "degree"] (spP K (P_root T.C)) := by
  refine T.F_slide_root.ok sc_slide_root (fun vs H Q E h => len_P h fun ds Φ ⟨s, x, m, e, _⟩ => by subst e; rfl) (fun cdv A outer s H vs Q E hr h => ?_)
  refine ⟨_, (pss_cons (ps_expr (pe_call (ok_check_slide T) (hr.mono (by decide)) rfl T.mg_check_slide T.F_check_slide.kp T.b_check_slide .nil pass0 (pa_cons (pv 0) pa_nil))) (pss_cons (ps_expr (pe_call (ok_check_degree T) (hr.mono (by decide)) rfl T.mg_check_degree T.F_check_degree.kp T.b_check_degree .nil pass0 (pa_cons (pv 1) pa_nil))) (pss_cons (ps_if (pt_cmpR op_eq (pe_prop (pv 0) T.cl_Slide T.pr_Slide_side (ok_Slide_side T) (hr.mono (by decide)) T.b_Slide_side .nil pass0 rfl) (pe_glob (v := .int (-1)) rfl T.c_TURNED ⟨_, rfl⟩) (nomark _)) (pss_one (ps_ret (pe_ifExp (pt_truth (pe_op op_mod (pv 1) pe_int) (fun _ => rfl)) (pv 0) pe_non))) pss_nil) (pss_one (ps_ret (pe_ifExp (pt_truth (pe_op op_mod (pe_prop (pv 0) T.cl_Slide T.pr_Slide_shift (ok_Slide_shift T) (hr.mono (by decide)) T.b_Slide_shift .nil pass0 rfl) (pv 1)) (fun _ => rfl)) pe_non (pe_make T.mk_Slide (ok_Slide_init T) (hr.mono (by decide)) rfl T.mg_Slide T.b_Slide_init .nil pass0 (pa_cons (pe_glob (v := .int (1)) rfl T.c_AHEAD ⟨_, rfl⟩) (pa_cons (pe_op op_fdivW (pe_prop (pv 0) T.cl_Slide T.pr_Slide_shift (ok_Slide_shift T) (hr.mono (by decide)) T.b_Slide_shift .nil pass0 rfl) (pv 1)) pa_nil))))))))), ?_⟩
  refine body_P h fun ds Φ ⟨s, x, m, e, hm, bm, p⟩ => ?_
  subst e
  unfold rt at p
  repeat walk_at "dl"
  refine ⟨s, x, rfl, ?_⟩
  repeat walk_at "dl"
  refine ⟨m, rfl, hm, ?_⟩
  repeat walk_at "dl"
  refine ⟨_, _, rfl, look_side _ _, ?_⟩
  repeat walk_at "dl"
  refine ⟨_, rfl, fun z => ?_, fun z => ?_⟩
  · rw [if_pos (of_decide_eq_true z)] at p
    repeat walk_at "dl"
    refine tm_tru ?_
    repeat walk_at "dl"
    refine ⟨_, rfl, fun w => ?_, fun w => ?_⟩
    · rw [if_neg (by simpa using w)] at p
      repeat walk_at "dl"
      exact p
    · rw [if_pos (by simpa using w)] at p
      repeat walk_at "dl"
      exact p
  rw [if_neg (of_decide_eq_false z)] at p
  repeat walk_at "dl"
  refine tm_tru ?_
  repeat walk_at "dl"
  refine ⟨_, _, rfl, look_shift _ _, ?_⟩
  repeat walk_at "dl"
  refine rm_C (show (0 : Int) < m by omega) ?_
  refine ⟨_, rfl, fun w => ?_, fun w => ?_⟩
  · rw [if_neg (by simpa using w)] at p
    repeat walk_at "dl"
    exact p
  · rw [if_pos (by simpa using w)] at p
    repeat walk_at "dl"
    refine ⟨_, _, rfl, look_shift _ _, ?_⟩
    repeat walk_at "dl"
    refine rm_C (C := CDivW) ⟨by omega, Nat.lt_trans (log_lt bm) (by decide)⟩ ?_
    repeat walk_at "dl"
    exact ⟨_, _, rfl, .inl rfl, p⟩
def Fr (x : Int) : Prop := x.natAbs ≤ 10 ^ 30
theorem Fr.sm {x : Int} (h : Fr x) : Sm x := by unfold Fr at h; unfold Sm; omega
/-- at most so many times 10 ** 30 -/
def Mg (k : Nat) (x : Int) : Prop := x.natAbs ≤ k * 10 ^ 30
theorem Fr.mag {x : Int} (h : Fr x) : Mg 1 x := by unfold Fr at h; unfold Mg; omega
theorem Mg.add {j k : Nat} {x y : Int} (h : Mg j x) (l : Mg k y) : Mg (j + k) (x + y) := by
  unfold Mg at *
  have := Int.natAbs_add_le x y
  omega
theorem Mg.sd {k : Nat} {s x : Int} (hs : Sd s) (h : Mg k x) : Mg k (s * x) := by unfold Mg at *; rw [hs.abs]; exact h
theorem Mg.zs {k : Nat} {x : Int} (h : Mg k x) : Mg k (0 - x) := by
  unfold Mg at *
  rw [Int.zero_sub, Int.natAbs_neg]
  exact h
theorem Mg.bd {k : Nat} {x : Int} (h : Mg k x) (hk : k ≤ 1000 := by decide) : Bd x := by
  unfold Mg at h; unfold Bd
  omega
theorem bd_of {x : Int} (h : x.natAbs ≤ 10 ^ 90) : Bd x := by unfold Bd; omega
/-! ### the law's own defs -/
theorem ok_l_vial (T : Tx K mg) : FnOk P w K mg base CX0 1 T.f_l_vial T.d_l_vial ["_law_script", "_law_turn"] (spM K) := by
  refine T.F_l_vial.ok sc_l_vial (fun vs H Q E h => by obtain ⟨b, ns, i, e, _⟩ := h; rw [e]; rfl) (fun cdv A outer s H vs Q E hr h => ?_)
  refine ⟨_, (pss_cons (ps_set (i := 2) sc_l_vial.nd rfl (Or.inl rfl) (pe_op op_add pe_int (pe_op op_mul pe_int (pv 1)))) (pss_cons (ps_for PassesOwn.never rfl (pi_list (pe_slice sl_list (pv 0) po_none (po_some pe_int))) (pg_name (i := 3) sc_l_vial.nd rfl (Or.inl rfl)) (pss_one (ps_set (i := 2) sc_l_vial.nd rfl (Or.inl rfl) (pe_op op_mod (pe_callTy call_int1 rfl T.n_int boot_int (pa_cons (pe_op op_add (pe_op op_mul (pv 2) pe_int) (pv 3)) pa_nil)) pe_int)))) (pss_cons (ps_set (i := 4) sc_l_vial.nd rfl (Or.inl rfl) (pe_ifExp (pt_cmpR op_lt (pv 1) (pe_callB call_len_seq rfl T.n_len PySem.boot_len (pa_cons (pv 0) pa_nil)) (nomark _)) (pe_ix (r := rIxL K) ix_list (pv 0) (pv 1) (fun _ _ => rfl)) (pe_op op_add (pe_op op_mul pe_int (pv 1)) pe_int))) (pss_one (ps_ret (pe_lst (pa_cons (pe_ifExp (pt_cmpR op_ge (pe_callB call_abs rfl T.n_abs boot_abs (pa_cons (pv 4) pa_nil)) (pe_op op_pow pe_int pe_int) (nomark _)) (pe_callB call_abs rfl T.n_abs boot_abs (pa_cons (pv 4) pa_nil)) pe_int) (pa_cons (pe_op op_mod (pe_callTy call_int1 rfl T.n_int boot_int (pa_cons (pe_op op_add (pe_op op_add (pe_op op_mul (pv 2) pe_int) (pe_op op_mul (pv 4) pe_int)) pe_int) pa_nil)) pe_int) (pa_cons pe_int pa_nil))))))))), ?_⟩
  refine body_M h fun ns i hl hi => ?_
  repeat walk_at "dl"
  refine sm_forL ?_
  repeat walk_at "dl"
  refine ⟨_, rfl, ?_⟩
  repeat walk_at "dl"
  refine ⟨6, rfl, _, rfl, fun k Γ' _ => ∃ (x : Int) (c : Option D), Γ' = [some (.scr ns), some (.int i), some (.int x), c, none] ∧ 0 ≤ x ∧ x < 2147479753, ⟨_, none, rfl, ?_, ?_⟩, ?_, ?_⟩
  · omega
  · omega
  · rintro k y Γ' l hy ⟨x, c, e, h0, h1⟩
    subst e
    obtain ⟨v, ev⟩ : ∃ v : Int, y = .int v := by
      have := List.mem_of_getElem? hy
      unfold DL.cutD at this
      obtain ⟨v, _, ev⟩ := List.mem_map.mp (List.mem_of_mem_drop (List.mem_of_mem_take this))
      exact ⟨v, ev.symm⟩
    subst ev
    repeat walk_at "dl"
    exact ⟨_, _, rfl, by omega, by omega⟩
  · rintro Γ' l ⟨x, c, e, h0, h1⟩
    subst e
    repeat walk_at "dl"
    refine cm_lenS rfl ?_
    repeat walk_at "dl"
    refine ⟨_, rfl, fun z => ?_, fun z => ?_⟩
    · have z' : i < ns.length := by have := of_decide_eq_true z; simp at this; omega
      repeat walk_at "dl"
      refine rm_ixS (y := .int (ns[i])) rfl ?_ ?_
      · exact (atI_nat (by simp [z']))
      repeat walk_at "dl"
      refine ⟨_, rfl, fun _ => ?_, fun _ => ?_⟩
      all_goals (repeat walk_at "dl")
      all_goals exact ⟨_, _, rfl⟩
    · repeat walk_at "dl"
      refine ⟨_, rfl, fun _ => ?_, fun _ => ?_⟩
      all_goals (repeat walk_at "dl")
      all_goals exact ⟨_, _, rfl⟩
def P_nip : List D → Nat → (D → Nat → Prop) → Prop := fun ds n Φ => ∃ m : Int, ds = [.int m] ∧ 0 < m ∧ m < 1073741824 ∧ n + 1 ≤ 1000000 ∧ ∀ r : Int, 0 ≤ r → r < m → Φ (.int r) (n + 1)
theorem ok_l_nip (T : Tx K mg) : FnOk P w K mg base CX0 1 T.f_l_nip T.d_l_nip ["_law_vial_here", "_law_most"] (spV K P_nip) := by
  refine T.F_l_nip.ok sc_l_nip (fun vs H Q E h => len_V h fun ds n Φ ⟨m, e, _⟩ => by subst e; rfl) (fun cdv A outer s H vs Q E hr h => ?_)
  refine ⟨_, (pss_cons (ps_if (pt_cmpR op_gt (pe_ix (r := rIxL K) ix_list (pv 0) pe_int (fun _ _ => rfl)) pe_int (nomark _)) (pss_cons (ps_asg (pe_callB call_divmod rfl T.n_divmod boot_divmod (pa_cons (pe_ix (r := rIxL K) ix_list (pv 0) pe_int (fun _ _ => rfl)) (pa_cons (pv 1) pa_nil))) (pg_tup rfl (pgs_cons (pg_sub (pv 0) pe_int set_list) (pgs_cons (pg_name (i := 3) sc_l_nip.nd rfl (Or.inl rfl)) pgs_nil)))) (pss_one (ps_ret (pv 3)))) pss_nil) (pss_cons (ps_asg (pe_op op_add (pe_ix (r := rIxL K) ix_list (pv 0) pe_int (fun _ _ => rfl)) pe_int) (pg_sub (pv 0) pe_int set_list)) (pss_cons (ps_set (i := 2) sc_l_nip.nd rfl (Or.inl rfl) (pe_op op_mod (pe_callTy call_int1 rfl T.n_int boot_int (pa_cons (pe_op op_add (pe_op op_add (pe_op op_mul (pe_ix (r := rIxL K) ix_list (pv 0) pe_int (fun _ _ => rfl)) pe_int) (pe_op op_mul (pe_op op_mul (pe_ix (r := rIxL K) ix_list (pv 0) pe_int (fun _ _ => rfl)) (pe_ix (r := rIxL K) ix_list (pv 0) pe_int (fun _ _ => rfl))) pe_int)) pe_int) pa_nil)) pe_int)) (pss_cons (ps_asg (pe_op op_mod (pe_callTy call_int1 rfl T.n_int boot_int (pa_cons (pe_op op_add (pe_op op_mul (pv 2) (pe_op op_add pe_int (pe_op op_mod (pe_callTy call_int1 rfl T.n_int boot_int (pa_cons (pv 2) pa_nil)) pe_int))) pe_int) pa_nil)) pe_int) (pg_sub (pv 0) pe_int set_list)) (pss_one (ps_ret (pe_op op_mod (pe_callTy call_int1 rfl T.n_int boot_int (pa_cons (pe_op op_fdiv (pe_ix (r := rIxL K) ix_list (pv 0) pe_int (fun _ _ => rfl)) pe_int) pa_nil)) (pv 1)))))))), ?_⟩
  refine body_V h fun b ds n Φ hn ⟨m, e, h0, h1, h2, p⟩ => ?_
  subst e
  repeat walk_at "dl"
  refine rm_v 0 (by decide) fun x _ => ?_
  repeat walk_at "dl"
  refine ⟨_, rfl, fun z => ?_, fun z => ?_⟩
  · repeat walk_at "dl"
    refine rm_v 0 (by decide) fun x _ => ?_
    repeat walk_at "dl"
    refine cm_divmod h0 h1 ?_
    repeat walk_at "dl"
    refine gm_v01 0 1 (by decide) ?_
    repeat walk_at "dl"
    refine ⟨rfl, rfl, h2, ?_⟩
    repeat walk_at "dl"
    exact p _ (Int.emod_nonneg _ (by omega)) (Int.emod_lt_of_pos _ h0)
  · repeat walk_at "dl"
    refine rm_v 2 (by decide) fun y hy => ?_
    obtain ⟨y0, y1, y2⟩ := hy rfl
    repeat walk_at "dl"
    refine gm_v2 (m' := n + 1) (by omega) (by omega) h2 ?_
    repeat walk_at "dl"
    refine ⟨rfl, rfl, ?_⟩
    repeat walk_at "dl"
    refine rm_v 1 (by decide) fun x _ => ?_
    repeat walk_at "dl"
    refine rm_v 2 (by decide) fun y hy => ?_
    repeat walk_at "dl"
    refine rm_v 2 (by decide) fun z hz => ?_
    obtain ⟨y0, y1, _⟩ := hy rfl
    obtain ⟨z0, z1, _⟩ := hz rfl
    refine rm_C (C := CMul) (Or.inl ⟨by omega, by omega⟩) ?_
    repeat walk_at "dl"
    refine rm_C (C := CMul) (Or.inl ⟨?_, ?_⟩) ?_
    · omega
    · omega
    repeat walk_at "dl"
    refine gm_v01 1 0 (by decide) ?_
    repeat walk_at "dl"
    refine ⟨rfl, rfl, h2, ?_⟩
    repeat walk_at "dl"
    refine rm_v 1 (by decide) fun x _ => ?_
    repeat walk_at "dl"
    refine rm_C (C := CDiv) ⟨by decide, by decide⟩ ?_
    repeat walk_at "dl"
    refine rm_C h0 ?_
    exact p _ (Int.emod_nonneg _ (by omega)) (Int.emod_lt_of_pos _ h0)
def P_opt : List D → Nat → (D → Nat → Prop) → Prop := fun ds n Φ => ∃ es, ds = [.lst es] ∧ es ≠ [] ∧ es.length ≤ 1000 ∧ n + 1 ≤ 1000000 ∧ ∀ d ∈ es, Φ d (n + 1)
theorem ok_l_opt (T : Tx K mg) : FnOk P w K mg base CX0 2 T.f_l_opt T.d_l_opt ["_law_vial_here", "_law_menu"] (spV K P_opt) := by
  refine T.F_l_opt.ok sc_l_opt (fun vs H Q E h => len_V h fun ds n Φ ⟨m, e, _⟩ => by subst e; rfl) (fun cdv A outer s H vs Q E hr h => ?_)
  refine ⟨_, (pss_one (ps_ret (pe_ix (r := rIxL K) ix_list (pv 1) (pe_call (ok_l_nip T) (hr.mono (by decide)) rfl T.mg_l_nip T.F_l_nip.kp T.b_l_nip .nil pass0 (pa_cons (pv 0) (pa_cons (pe_callB call_len_seq rfl T.n_len PySem.boot_len (pa_cons (pv 1) pa_nil)) pa_nil))) (fun _ _ => rfl)))), ?_⟩
  refine body_V h fun b ds n Φ hn ⟨es, e, h0, h1, h2, p⟩ => ?_
  subst e
  have hl : 0 < es.length := List.length_pos_iff.mpr h0
  repeat walk_at "dl"
  refine em_callV ?_
  repeat walk_at "dl"
  refine cm_len (.inl rfl) ?_
  repeat walk_at "dl"
  refine ⟨_, rfl, es.length, rfl, by omega, by omega, h2, fun r r0 r1 => ?_⟩
  obtain ⟨j, rfl⟩ := Int.eq_ofNat_of_zero_le r0
  have hj : j < es.length := by omega
  exact rm_ixL (atI_nat (List.getElem?_eq_getElem hj)) (p _ (List.getElem_mem hj))
def P_pair : List D → Nat → (D → Nat → Prop) → Prop := fun ds n Φ => ds = [] ∧ n + 4 ≤ 1000000 ∧ ∀ (s f : Int) (m : Nat), Sd s → f.natAbs ≤ 10 ^ 30 → m ≤ n + 4 → Φ (.tup [.int s, .int f]) m
theorem ok_l_pair (T : Tx K mg) : FnOk P w K mg base CX0 3 T.f_l_pair T.d_l_pair ["_law_vial_here"] (spV K P_pair) := by
  refine T.F_l_pair.ok sc_l_pair (fun vs H Q E h => len_V h fun ds n Φ ⟨e, _⟩ => by subst e; rfl) (fun cdv A outer s H vs Q E hr h => ?_)
  refine ⟨_, (pss_cons (ps_set (i := 1) sc_l_pair.nd rfl (Or.inl rfl) (pe_op op_sub (pe_call (ok_l_nip T) (hr.mono (by decide)) rfl T.mg_l_nip T.F_l_nip.kp T.b_l_nip .nil pass0 (pa_cons (pv 0) (pa_cons pe_int pa_nil))) pe_int)) (pss_cons (ps_if (pt_cmpR op_eq (pe_call (ok_l_nip T) (hr.mono (by decide)) rfl T.mg_l_nip T.F_l_nip.kp T.b_l_nip .nil pass0 (pa_cons (pv 0) (pa_cons pe_int pa_nil))) pe_int (nomark _)) (pss_one (ps_set (i := 1) sc_l_pair.nd rfl (Or.inl rfl) (pe_call (ok_l_opt T) (hr.mono (by decide)) rfl T.mg_l_opt T.F_l_opt.kp T.b_l_opt .nil pass0 (pa_cons (pv 0) (pa_cons (pe_lst (pa_cons (pe_op op_pow pe_int pe_int) (pa_cons (pe_un un_neg (pe_op op_pow pe_int pe_int)) (pa_cons (pe_op op_add (pe_op op_mul pe_int (pe_op op_pow pe_int pe_int)) pe_int) (pa_cons (pe_un un_neg pe_int) (pa_cons pe_int pa_nil)))))) pa_nil))))) pss_nil) (pss_one (ps_ret (pe_tup (pa_cons (pe_call (ok_l_opt T) (hr.mono (by decide)) rfl T.mg_l_opt T.F_l_opt.kp T.b_l_opt .nil pass0 (pa_cons (pv 0) (pa_cons (pe_lst (pa_cons pe_int (pa_cons pe_int (pa_cons (pe_un un_neg pe_int) pa_nil)))) pa_nil))) (pa_cons (pv 1) pa_nil))))))), ?_⟩
  refine body_V h fun b ds n Φ hn ⟨e, h2, p⟩ => ?_
  subst e
  repeat walk_at "dlx"
  refine em_callV ?_
  repeat walk_at "dlx"
  refine ⟨_, rfl, 13, rfl, by decide, by decide, by omega, fun r r0 r1 => ?_⟩
  repeat walk_at "dlx"
  refine em_callV ?_
  repeat walk_at "dlx"
  refine ⟨_, rfl, 9, rfl, by decide, by decide, by omega, fun q q0 q1 => ?_⟩
  -- the side, at the end
  have fin : ∀ (f : Int) (m : Nat), f.natAbs ≤ 10 ^ 30 → m ≤ n + 3 → ∀ Γ : EnvD, Γ[0]? = some (some (.adr b)) → Γ[1]? = some (some (.int f)) →
      SM K (some b) (tRet (tTup (tCons (tCall (spV K P_opt) [] E0 (tCons (tVar 0) (tCons (tLst (tCons (tC (.int 1)) (tCons (tC (.int 1)) (tCons (tUn (rU fun i => .int (-i)) (tC (.int 1))) tNil)))) tNil))) (tCons (tVar 1) tNil)))) Γ m (fun _ l => Φ .non l) Φ := by
    intro f m hf hm Γ e0 e1
    repeat walk_at "dl"
    refine em_callV ?_
    refine am_cons (em_var e0 ?_)
    repeat walk_at "dlx"
    refine ⟨_, rfl, _, rfl, by simp, by simp, by omega, fun d hd => ?_⟩
    have hs : ∃ s, d = .int s ∧ Sd s := by
      simp at hd
      rcases hd with hd | hd
      · exact ⟨1, hd, .inl rfl⟩
      · exact ⟨-1, hd, .inr rfl⟩
    obtain ⟨s, e, hs⟩ := hs
    subst e
    refine am_cons (em_var e1 ?_)
    repeat walk_at "dlx"
    exact p s f (m + 1) hs hf (by omega)
  repeat walk_at "dlx"
  refine ⟨_, rfl, fun _ => ?_, fun _ => ?_⟩
  · repeat walk_at "dlx"
    refine em_callV ?_
    repeat walk_at "dlx"
    refine ⟨_, rfl, _, rfl, by simp, by simp, by omega, fun d hd => ?_⟩
    have hs : ∃ s : Int, d = .int s ∧ s.natAbs ≤ 10 ^ 30 := by
      simp only [List.mem_cons, List.not_mem_nil, or_false] at hd
      rcases hd with hd | hd | hd | hd | hd <;> exact ⟨_, hd, by decide⟩
    obtain ⟨f, e, hf⟩ := hs
    subst e
    repeat walk_at "dlx"
    refine fin f _ hf ?_ _ rfl rfl
    omega
  · repeat walk_at "dlx"
    exact fin (r - 6) (n + 1 + 1) (by omega) (by omega) _ rfl rfl
abbrev tp (s x : Int) : D := .tup [.int s, .int x]
def P_lthen : List D → (D → Prop) → Prop := fun ds Φ => ∃ s x t y, ds = [tp s x, tp t y] ∧ Sd s ∧ Sd t ∧ Bd y ∧ Φ (tp (s * t) (x + s * y))
theorem ok_l_then (T : Tx K mg) : FnOk P w K mg base CX0 1 T.f_l_then T.d_l_then ["_law_near", "_law_late"] (spP K P_lthen) := by
  refine T.F_l_then.ok sc_l_then (fun vs H Q E h => len_P h fun ds Φ ⟨s, x, t, y, e, _⟩ => by subst e; rfl) (fun cdv A outer s H vs Q E hr h => ?_)
  refine ⟨_, (pss_one (ps_ret (pe_tup (pa_cons (pe_op op_mulW (pe_ix (r := rIxT K) ix_tup (pv 0) pe_int (fun _ _ => rfl)) (pe_ix (r := rIxT K) ix_tup (pv 1) pe_int (fun _ _ => rfl))) (pa_cons (pe_op op_add (pe_ix (r := rIxT K) ix_tup (pv 0) pe_int (fun _ _ => rfl)) (pe_op op_mulW (pe_ix (r := rIxT K) ix_tup (pv 0) pe_int (fun _ _ => rfl)) (pe_ix (r := rIxT K) ix_tup (pv 1) pe_int (fun _ _ => rfl)))) pa_nil))))), ?_⟩
  refine body_P h fun ds Φ ⟨s, x, t, y, e, hs, ht, hy, p⟩ => ?_
  subst e
  repeat walk_at "dl"
  refine rm_C (mulW hs.bd ht.bd) ?_
  repeat walk_at "dl"
  refine rm_C (mulW hs.bd hy) ?_
  repeat walk_at "dl"
  exact p
def P_lundone : List D → (D → Prop) → Prop := fun ds Φ => ∃ s x, ds = [tp s x] ∧ Sd s ∧ Bd x ∧ Φ (tp s (0 - s * x))
theorem ok_l_undone (T : Tx K mg) : FnOk P w K mg base CX0 1 T.f_l_undone T.d_l_undone ["_law_near"] (spP K P_lundone) := by
  refine T.F_l_undone.ok sc_l_undone (fun vs H Q E h => len_P h fun ds Φ ⟨s, x, e, _⟩ => by subst e; rfl) (fun cdv A outer s H vs Q E hr h => ?_)
  refine ⟨_, (pss_one (ps_ret (pe_tup (pa_cons (pe_ix (r := rIxT K) ix_tup (pv 0) pe_int (fun _ _ => rfl)) (pa_cons (pe_op op_sub pe_int (pe_op op_mulW (pe_ix (r := rIxT K) ix_tup (pv 0) pe_int (fun _ _ => rfl)) (pe_ix (r := rIxT K) ix_tup (pv 0) pe_int (fun _ _ => rfl)))) pa_nil))))), ?_⟩
  refine body_P h fun ds Φ ⟨s, x, e, hs, hx, p⟩ => ?_
  subst e
  repeat walk_at "dl"
  refine rm_C (mulW hs.bd hx) ?_
  repeat walk_at "dl"
  exact p
def P_kept (C : Addr) : List D → (D → Prop) → Prop := fun ds Φ => ∃ s x, ds = [sl C s x] ∧ Φ (tp s x)
theorem ok_l_kept (T : Tx K mg) : FnOk P w K mg base CX0 3 T.f_l_kept T.d_l_kept ["_law_mine"] (spP K (P_kept T.C)) := by
  refine T.F_l_kept.ok sc_l_kept (fun vs H Q E h => len_P h fun ds Φ ⟨s, x, e, _⟩ => by subst e; rfl) (fun cdv A outer s H vs Q E hr h => ?_)
  refine ⟨_, (pss_one (ps_ret (pe_tup (pa_cons (pe_prop (pv 0) T.cl_Slide T.pr_Slide_side (ok_Slide_side T) (hr.mono (by decide)) T.b_Slide_side .nil pass0 rfl) (pa_cons (pe_prop (pv 0) T.cl_Slide T.pr_Slide_shift (ok_Slide_shift T) (hr.mono (by decide)) T.b_Slide_shift .nil pass0 rfl) pa_nil))))), ?_⟩
  refine body_P h fun ds Φ ⟨s, x, e, p⟩ => ?_
  subst e
  repeat walk_at "dl"
  refine ⟨_, _, rfl, look_side _ _, ?_⟩
  repeat walk_at "dl"
  refine ⟨_, _, rfl, look_shift _ _, ?_⟩
  repeat walk_at "dl"
  exact p
def loft (s x m : Int) : D := if s = 1 then tp 1 (x * m) else if m % 2 = 1 then tp s x else tp 1 0
def P_loften : List D → (D → Prop) → Prop := fun ds Φ => ∃ s x m, ds = [tp s x, .int m] ∧ Bd x ∧ Bd m ∧ Φ (loft s x m)
theorem ok_l_often (T : Tx K mg) : FnOk P w K mg base CX0 1 T.f_l_often T.d_l_often ["_law_near", "_law_many"] (spP K P_loften) := by
  refine T.F_l_often.ok sc_l_often (fun vs H Q E h => len_P h fun ds Φ ⟨s, x, m, e, _⟩ => by subst e; rfl) (fun cdv A outer s H vs Q E hr h => ?_)
  refine ⟨_, (pss_cons (ps_if (pt_cmpR op_eq (pe_ix (r := rIxT K) ix_tup (pv 0) pe_int (fun _ _ => rfl)) pe_int (nomark _)) (pss_one (ps_ret (pe_tup (pa_cons pe_int (pa_cons (pe_op op_mulW (pe_ix (r := rIxT K) ix_tup (pv 0) pe_int (fun _ _ => rfl)) (pv 1)) pa_nil))))) pss_nil) (pss_one (ps_ret (pe_ifExp (pt_cmpR op_eq (pe_op op_mod (pe_callTy call_int1 rfl T.n_int boot_int (pa_cons (pv 1) pa_nil)) pe_int) pe_int (nomark _)) (pv 0) (pe_tup (pa_cons pe_int (pa_cons pe_int pa_nil))))))), ?_⟩
  refine body_P h fun ds Φ ⟨s, x, m, e, hx, hm, p⟩ => ?_
  subst e
  unfold loft at p
  repeat walk_at "dl"
  refine ⟨_, rfl, fun z => ?_, fun z => ?_⟩
  · rw [if_pos (of_decide_eq_true z)] at p
    repeat walk_at "dl"
    refine rm_C (mulW hx hm) ?_
    repeat walk_at "dl"
    exact p
  · rw [if_neg (of_decide_eq_false z)] at p
    repeat walk_at "dl"
    refine ⟨_, rfl, fun z => ?_, fun z => ?_⟩
    · rw [if_pos (of_decide_eq_true z)] at p
      repeat walk_at "dl"
      exact p
    · rw [if_neg (of_decide_eq_false z)] at p
      repeat walk_at "dl"
      exact p
theorem kb_do_slides_commute_0_other_one (T : Tx K mg) : KBn K T.d_do_slides_commute ["one", "other"] 0 ["other", "one"] (fun us ws => permU [1, 0] (us ++ ws)) (fun vs zs => permV [1, 0] (vs ++ zs)) :=
  kbn [1, 0] T.F_do_slides_commute fun kV doc pm an cdv ct us ws h1 h2 => match us, ws, h1, h2 with | [], [_, _], _, _ => rfl
theorem kb_is_slide_alike_0_other_one (T : Tx K mg) : KBn K T.d_is_slide_alike ["one", "other"] 0 ["other", "one"] (fun us ws => permU [1, 0] (us ++ ws)) (fun vs zs => permV [1, 0] (vs ++ zs)) :=
  kbn [1, 0] T.F_is_slide_alike fun kV doc pm an cdv ct us ws h1 h2 => match us, ws, h1, h2 with | [], [_, _], _, _ => rfl
theorem kb_slide_alike_0_other_one (T : Tx K mg) : KBn K T.d_slide_alike ["one", "other"] 0 ["other", "one"] (fun us ws => permU [1, 0] (us ++ ws)) (fun vs zs => permV [1, 0] (vs ++ zs)) :=
  kbn [1, 0] T.F_slide_alike fun kV doc pm an cdv ct us ws h1 h2 => match us, ws, h1, h2 with | [], [_, _], _, _ => rfl
theorem kb_slide_root_0_degree_one (T : Tx K mg) : KBn K T.d_slide_root ["one", "degree"] 0 ["degree", "one"] (fun us ws => permU [1, 0] (us ++ ws)) (fun vs zs => permV [1, 0] (vs ++ zs)) :=
  kbn [1, 0] T.F_slide_root fun kV doc pm an cdv ct us ws h1 h2 => match us, ws, h1, h2 with | [], [_, _], _, _ => rfl
theorem eq_str {d e : D} (h : d = e) : (!decide ((py d).shown = (py e).shown)) = false := by
  subst h; simp
theorem eq_str' {d e : D} (h : d = e) : decide ((py d).shown = (py e).shown) = true := by
  subst h; simp
theorem Mg.up {j k : Nat} {x : Int} (h : Mg j x) (l : j ≤ k) : Mg k x := by
  unfold Mg at *
  exact Nat.le_trans h (Nat.mul_le_mul_right _ l)
def P_put : List D → (D → Prop) → Prop := fun ds Φ => ∃ a f s x, ds = [tp a f, tp s x] ∧ Sd a ∧ Sd s ∧ Mg 9 f ∧ Mg 9 x ∧ Φ (tp (a * s * a) (f + a * x + a * s * (0 - a * f)))
theorem ok_l_put (T : Tx K mg) : FnOk P w K mg base CX0 2 T.f_l_put T.d_l_put ["_law_how", "_law_near"] (spP K P_put) := by
  refine T.F_l_put.ok sc_l_put (fun vs H Q E h => len_P h fun ds Φ ⟨s, x, t, y, e, _⟩ => by subst e; rfl) (fun cdv A outer s H vs Q E hr h => ?_)
  refine ⟨_, (pss_one (ps_ret (pe_call (ok_l_then T) (hr.mono (by decide)) rfl T.mg_l_then T.F_l_then.kp T.b_l_then .nil pass0 (pa_cons (pe_call (ok_l_then T) (hr.mono (by decide)) rfl T.mg_l_then T.F_l_then.kp T.b_l_then .nil pass0 (pa_cons (pv 0) (pa_cons (pv 1) pa_nil))) (pa_cons (pe_call (ok_l_undone T) (hr.mono (by decide)) rfl T.mg_l_undone T.F_l_undone.kp T.b_l_undone .nil pass0 (pa_cons (pv 0) pa_nil)) pa_nil))))), ?_⟩
  refine body_P h fun ds Φ ⟨a, f, s, x, e, ha, hs, hf, hx, p⟩ => ?_
  subst e
  repeat walk_at "dl"
  refine ⟨_, _, _, _, rfl, ha, hs, hx.bd, ?_⟩
  repeat walk_at "dl"
  refine ⟨_, _, rfl, ha, hf.bd, ?_⟩
  repeat walk_at "dl"
  exact ⟨_, _, _, _, rfl, ha.mul hs, ha, (hf.sd ha).zs.bd, p⟩
/-- one of both ways puts the one in the place of the other one -/
def Wt (s x t y f : Int) : Prop := tp t y = tp (1 * s * 1) (f + 1 * x + 1 * s * (0 - 1 * f)) ∨ tp t y = tp (-1 * s * -1) (f + -1 * x + -1 * s * (0 - -1 * f))
theorem tp_inj {s x t y : Int} (h : tp s x = tp t y) : s = t ∧ x = y := by
  injection h with h
  injection h with h1 h2
  injection h2 with h2 h3
  injection h1 with h1
  injection h2 with h2
  exact ⟨h1, h2⟩
theorem eqv_tp (s x t y : Int) : PyData.eqv (py (tp s x)) (py (tp t y)) = (decide (s = t) && decide (x = y)) := by
  show ((s == t) && ((x == y) && true)) = _
  rw [Bool.and_true]
  rfl
theorem eqv_tp' (s x t y : Int) : PyData.eqv (py (tp s x)) (py (tp t y)) = true ↔ tp t y = tp s x := by
  rw [eqv_tp]
  constructor
  · intro h
    simp at h
    rw [h.1, h.2]
  · intro h
    obtain ⟨h1, h2⟩ := tp_inj h
    subst h1 h2
    simp
theorem wt_any (s x t y f : Int) : ((pyL [tp (1 * s * 1) (f + 1 * x + 1 * s * (0 - 1 * f)), tp (-1 * s * -1) (f + -1 * x + -1 * s * (0 - -1 * f))]).any fun z => PyData.eqv z (py (tp t y))) = true ↔ Wt s x t y f := by
  show (PyData.eqv (py (tp (1 * s * 1) (f + 1 * x + 1 * s * (0 - 1 * f)))) (py (tp t y)) || (PyData.eqv (py (tp (-1 * s * -1) (f + -1 * x + -1 * s * (0 - -1 * f)))) (py (tp t y)) || false)) = true ↔ _
  rw [Bool.or_eq_true, Bool.or_eq_true, eqv_tp', eqv_tp']
  unfold Wt
  simp
theorem wt_like {s x t y f : Int} (hs : Sd s) (h : Wt s x t y f) : like s x t y = true := by
  unfold like
  rcases h with h | h
  · obtain ⟨h1, h2⟩ := tp_inj h
    apply decide_eq_true
    rcases hs with k | k <;> (subst k; refine ⟨by omega, fun q => by omega, fun q => by omega⟩)
  · obtain ⟨h1, h2⟩ := tp_inj h
    apply decide_eq_true
    rcases hs with k | k <;> (subst k; refine ⟨by omega, fun q => by omega, fun q => by omega⟩)
theorem like_wt {s x t y : Int} (hs : Sd s) (hx : x.natAbs ≤ 12) (hy : y.natAbs ≤ 12) (h : like s x t y = true) : ∃ i : Nat, i < 27 ∧ Wt s x t y (-13 + i) := by
  have h := of_decide_eq_true h
  obtain ⟨h1, h2, h3⟩ := h
  subst h1
  rcases hs with k | k
  · subst k
    refine ⟨13, by omega, ?_⟩
    rcases h3 (by decide) with q | q
    · subst q; exact .inl (by congr 3; omega)
    · subst q; exact .inr (by congr 3; omega)
  · subst k
    have q := h2 rfl
    refine ⟨(13 + (y - x) / 2).toNat, by omega, .inl ?_⟩
    congr 3
    omega
def P_islike : List D → (D → Prop) → Prop := fun ds Φ => ∃ s x t y, ds = [tp s x, tp t y] ∧ Sd s ∧ Sd t ∧ Φ (.bl (like s x t y))
theorem ok_l_is_like (T : Tx K mg) : FnOk P w K mg base CX0 3 T.f_l_is_like T.d_l_is_like ["_law_near", "_law_late"] (spP K P_islike) := by
  refine T.F_l_is_like.ok sc_l_is_like (fun vs H Q E h => len_P h fun ds Φ ⟨s, x, t, y, e, _⟩ => by subst e; rfl) (fun cdv A outer s H vs Q E hr h => ?_)
  refine ⟨_, (pss_cons (ps_if (pt_cmpR op_gt (pe_callB (call_max2 rfl) rfl T.n_max boot_max (pa_cons (pe_callB call_abs rfl T.n_abs boot_abs (pa_cons (pe_ix (r := rIxT K) ix_tup (pv 0) pe_int (fun _ _ => rfl)) pa_nil)) (pa_cons (pe_callB call_abs rfl T.n_abs boot_abs (pa_cons (pe_ix (r := rIxT K) ix_tup (pv 1) pe_int (fun _ _ => rfl)) pa_nil)) pa_nil))) pe_int (nomark _)) (pss_cons (ps_if (pt_cmpR op_ne (pe_ix (r := rIxT K) ix_tup (pv 0) pe_int (fun _ _ => rfl)) (pe_ix (r := rIxT K) ix_tup (pv 1) pe_int (fun _ _ => rfl)) (nomark _)) (pss_one (ps_ret pe_bl)) pss_nil) (pss_one (ps_ret (pe_ifExp (pt_cmpR op_eq (pe_ix (r := rIxT K) ix_tup (pv 0) pe_int (fun _ _ => rfl)) pe_int (nomark _)) (pe_cmpR op_eq (pe_callB call_abs rfl T.n_abs boot_abs (pa_cons (pe_ix (r := rIxT K) ix_tup (pv 0) pe_int (fun _ _ => rfl)) pa_nil)) (pe_callB call_abs rfl T.n_abs boot_abs (pa_cons (pe_ix (r := rIxT K) ix_tup (pv 1) pe_int (fun _ _ => rfl)) pa_nil)) (nomark _)) (pe_cmpR op_eq (pe_op op_mod (pe_callTy call_int1 rfl T.n_int boot_int (pa_cons (pe_op op_sub (pe_ix (r := rIxT K) ix_tup (pv 0) pe_int (fun _ _ => rfl)) (pe_ix (r := rIxT K) ix_tup (pv 1) pe_int (fun _ _ => rfl))) pa_nil)) pe_int) pe_int (nomark _)))))) pss_nil) (pss_cons (ps_for PassesOwn.never rfl (pi_range2 rfl T.n_range (pa_cons (pe_un un_neg pe_int) (pa_cons pe_int pa_nil))) (pg_name (i := 2) sc_l_is_like.nd rfl (Or.inl rfl)) (pss_one (ps_if (pt_cmpR (op_inD (units65 hr)) (pv 1) (pe_lst (pa_cons (pe_call (ok_l_put T) (hr.mono (by decide)) rfl T.mg_l_put T.F_l_put.kp T.b_l_put .nil pass0 (pa_cons (pe_tup (pa_cons pe_int (pa_cons (pv 2) pa_nil))) (pa_cons (pv 0) pa_nil))) (pa_cons (pe_call (ok_l_put T) (hr.mono (by decide)) rfl T.mg_l_put T.F_l_put.kp T.b_l_put .nil pass0 (pa_cons (pe_tup (pa_cons (pe_un un_neg pe_int) (pa_cons (pv 2) pa_nil))) (pa_cons (pv 0) pa_nil))) pa_nil))) (by with_unfolding_all rfl)) (pss_one (ps_ret pe_bl)) pss_nil))) (pss_one (ps_ret pe_bl)))), ?_⟩
  refine body_P h fun ds Φ ⟨s, x, t, y, e, hs, ht, p⟩ => ?_
  subst e
  repeat walk_at "dl"
  refine ⟨_, rfl, fun z => ?_, fun z => ?_⟩
  · repeat walk_at "dl"
    refine ⟨_, rfl, fun z => ?_, fun z => ?_⟩
    · have e : like s x t y = false := decide_eq_false fun q => absurd q.1 (by simpa using z)
      rw [e] at p
      repeat walk_at "dl"
      exact p
    have est : s = t := by simpa using z
    repeat walk_at "dl"
    refine ⟨_, rfl, fun z => ?_, fun z => ?_⟩
    · have e1 : s = 1 := of_decide_eq_true z
      repeat walk_at "dl"
      refine (?_ : decide ((if x < 0 then -x else x) = if y < 0 then -y else y) = like s x t y) ▸ p
      unfold like
      rw [decide_eq_decide]
      constructor
      · intro q
        refine ⟨est, fun q2 => by omega, fun _ => ?_⟩
        split at q <;> split at q <;> omega
      · rintro ⟨_, _, q⟩
        have q := q (by omega)
        split <;> split <;> omega
    · have e1 : s = -1 := hs.resolve_left (of_decide_eq_false z)
      repeat walk_at "dl"
      refine (?_ : decide ((x - y) % 2 = 0) = like s x t y) ▸ p
      unfold like
      rw [decide_eq_decide]
      constructor
      · intro q
        exact ⟨est, fun _ => by omega, fun q2 => absurd e1 q2⟩
      · rintro ⟨_, q, _⟩
        have q := q e1
        omega
  · have z := of_decide_eq_false z
    have hx : x.natAbs ≤ 12 := by
      revert z
      repeat' split
      all_goals omega
    have hy : y.natAbs ≤ 12 := by
      revert z
      repeat' split
      all_goals omega
    repeat walk_at "dl"
    refine sm_forR2 (lo := -13) (hi := 14) ?_
    repeat walk_at "dl"
    refine ⟨rfl, by decide, by decide, by decide, fun i Γ' _ => ∃ c : Option D, Γ' = [some (tp s x), some (tp t y), c] ∧ ∀ j : Nat, j < i → ¬ Wt s x t y (-13 + j), ⟨none, rfl, fun j hj => absurd hj (by omega)⟩, ?_, ?_⟩
    · rintro i Γ' l hi ⟨c, e, hw⟩
      subst e
      have hi : i < 27 := hi
      have mf : Mg 9 (-13 + (i : Int)) := by unfold Mg; omega
      have mx : Mg 9 x := by unfold Mg; omega
      repeat walk_at "dl"
      refine ⟨_, _, _, _, rfl, .inl rfl, hs, mf, mx, ?_⟩
      repeat walk_at "dl"
      refine ⟨_, _, _, _, rfl, .inr rfl, hs, mf, mx, ?_⟩
      repeat walk_at "dl"
      refine rm_inD rfl rfl rfl rfl ?_
      have ew := wt_any s x t y (-13 + (i : Int))
      refine ⟨_, rfl, fun z => ?_, fun z => ?_⟩
      · have hl := wt_like hs (ew.mp z)
        rw [hl] at p
        repeat walk_at "dl"
        exact p
      · have z' : ¬ Wt s x t y (-13 + (i : Int)) := fun q => by rw [ew.mpr q] at z; cases z
        repeat walk_at "dl"
        refine ⟨_, rfl, fun j hj => ?_⟩
        by_cases e : j = i
        · subst e; exact z'
        · exact hw j (by omega)
    · rintro Γ' l ⟨c, e, hw⟩
      subst e
      have e : like s x t y = false := by
        cases h : like s x t y
        · rfl
        · obtain ⟨i, hi, q⟩ := like_wt hs hx hy h
          exact absurd q (hw i hi)
      rw [e] at p
      repeat walk_at "dl"
      exact p
theorem lay_tps : ∀ ds : List D, (∀ d ∈ ds, ∃ s x, d = tp s x) → purL ds = true ∧ PyData.canLayAll0 (pyL ds) = true ∧ PyData.depthAll (pyL ds) ≤ 3
  | [], _ => ⟨rfl, rfl, by decide⟩
  | d :: ds, h => by
    obtain ⟨s, x, e⟩ := h d (List.mem_cons_self ..)
    subst e
    obtain ⟨a, b, c⟩ := lay_tps ds fun d hd => h d (List.mem_cons_of_mem _ hd)
    refine ⟨?_, ?_, ?_⟩
    · show (true && purL ds) = true
      rw [a]; rfl
    · show (true && PyData.canLayAll0 (pyL ds)) = true
      rw [b]; rfl
    · show max 1 (PyData.depthAll (pyL ds)) ≤ 3
      omega
theorem shaped_tps {ds : List D} (h : ∀ d ∈ ds, ∃ s x, d = tp s x) : SeqAt.shaped (py (.lst ds)) = true := by
  obtain ⟨_, b, c⟩ := lay_tps ds h
  show (PyData.canLayAll0 (pyL ds) && decide (PyData.depthAll (pyL ds) + 1 ≤ 64)) = true
  rw [b]
  exact decide_eq_true (by omega)
theorem any_tps : ∀ (ds : List D) (s x : Int), (∀ d ∈ ds, ∃ s x, d = tp s x) → (((pyL ds).any fun z => PyData.eqv z (py (tp s x))) = true ↔ tp s x ∈ ds)
  | [], s, x, _ => ⟨fun h => (by cases h), fun h => (by cases h)⟩
  | d :: ds, s, x, h => by
    obtain ⟨t, y, e⟩ := h d (List.mem_cons_self ..)
    subst e
    have ih := any_tps ds s x fun d hd => h d (List.mem_cons_of_mem _ hd)
    show (PyData.eqv (py (tp t y)) (py (tp s x)) || (pyL ds).any fun z => PyData.eqv z (py (tp s x))) = true ↔ _
    rw [Bool.or_eq_true, eqv_tp', ih, List.mem_cons]
def hroot (s x m : Int) : Bool := decide (if s = 1 then x % m = 0 else m % 2 = 1)
theorem hroot1 {s x m : Int} (h : s = 1) : hroot s x m = decide (x % m = 0) := by
  unfold hroot; subst h; rfl
theorem hroot2 {s x m : Int} (h : ¬ s = 1) : hroot s x m = decide (m % 2 = 1) := by
  unfold hroot; rw [decide_eq_decide, if_neg h]
def lofD (m : Int) : D → D
  | .tup [.int s, .int x] => loft s x m
  | d => d
def run (s : Int) (n : Nat) : List D := (List.range n).map fun i : Nat => tp s (-12 + i)
theorem run_step (s : Int) (n : Nat) : run s n ++ [tp s (-12 + n)] = run s (n + 1) := by
  unfold run
  rw [List.range_succ, List.map_append]
  rfl
theorem run_tp {s : Int} {n : Nat} {d : D} (h : d ∈ run s n) : ∃ i : Nat, i < n ∧ d = tp s (-12 + i) := by
  unfold run at h
  obtain ⟨i, hi, e⟩ := List.mem_map.mp h
  exact ⟨i, List.mem_range.mp hi, e.symm⟩
theorem tp_run {s : Int} {n i : Nat} (h : i < n) : tp s (-12 + i) ∈ run s n := List.mem_map.mpr ⟨i, List.mem_range.mpr h, rfl⟩
theorem loft_tp (s x m : Int) : ∃ t y, loft s x m = tp t y := by
  unfold loft
  split
  · exact ⟨_, _, rfl⟩
  · split <;> exact ⟨_, _, rfl⟩
theorem root_in {s x m : Int} (hs : Sd s) (hm : 1 ≤ m) (hx : x.natAbs ≤ 12) : tp s x ∈ (run 1 25 ++ run (-1) 25).map (lofD m) ↔ hroot s x m = true := by
  unfold hroot
  rw [decide_eq_true_iff, List.mem_map]
  constructor
  · rintro ⟨d, hd, e⟩
    rcases List.mem_append.mp hd with hd | hd
    · obtain ⟨i, hi, e2⟩ := run_tp hd
      subst e2
      obtain ⟨e1, e2⟩ := tp_inj (show tp 1 ((-12 + i) * m) = tp s x from e)
      subst e1 e2
      rw [if_pos rfl]
      exact Int.mul_emod_left _ _
    · obtain ⟨i, hi, e2⟩ := run_tp hd
      subst e2
      have e : (if m % 2 = 1 then tp (-1) (-12 + i) else tp 1 0) = tp s x := e
      split at e
      · obtain ⟨e1, e2⟩ := tp_inj e
        subst e1 e2
        rw [if_neg (by decide)]
        assumption
      · obtain ⟨e1, e2⟩ := tp_inj e
        subst e1 e2
        rw [if_pos rfl]
        exact Int.zero_emod _
  · intro h
    rcases hs with e | e
    · subst e
      rw [if_pos rfl] at h
      have hd := Int.mul_ediv_cancel' (Int.dvd_of_emod_eq_zero h)
      have hq : (x / m).natAbs ≤ 12 := Nat.le_trans (Int.natAbs_ediv_le_natAbs _ _) hx
      refine ⟨tp 1 (-12 + ((12 + x / m).toNat : Nat)), List.mem_append_left _ (tp_run (by omega)), ?_⟩
      show tp 1 ((-12 + ((12 + x / m).toNat : Nat)) * m) = tp 1 x
      have e : (-12 + ((12 + x / m).toNat : Nat) : Int) = x / m := by omega
      rw [e, Int.mul_comm, hd]
    · subst e
      rw [if_neg (by decide)] at h
      refine ⟨tp (-1) (-12 + ((12 + x).toNat : Nat)), List.mem_append_right _ (tp_run (by omega)), ?_⟩
      show (if m % 2 = 1 then tp (-1) (-12 + ((12 + x).toNat : Nat)) else tp 1 0) = tp (-1) x
      rw [if_pos h]
      congr 3
      omega
def P_hasroot : List D → (D → Prop) → Prop := fun ds Φ => ∃ s x m, ds = [tp s x, .int m] ∧ Sd s ∧ 1 ≤ m ∧ Bd m ∧ Φ (.bl (hroot s x m))
theorem ok_l_has_root (T : Tx K mg) : FnOk P w K mg base CX0 2 T.f_l_has_root T.d_l_has_root ["_law_near", "_law_many"] (spP K P_hasroot) := by
  refine T.F_l_has_root.ok sc_l_has_root (fun vs H Q E h => len_P h fun ds Φ ⟨s, x, m, e, _⟩ => by subst e; rfl) (fun cdv A outer s H vs Q E hr h => ?_)
  refine ⟨_, (pss_cons (ps_if (pt_cmpR op_gt (pe_callB call_abs rfl T.n_abs boot_abs (pa_cons (pe_ix (r := rIxT K) ix_tup (pv 0) pe_int (fun _ _ => rfl)) pa_nil)) pe_int (nomark _)) (pss_one (ps_ret (pe_ifExp (pt_cmpR op_eq (pe_ix (r := rIxT K) ix_tup (pv 0) pe_int (fun _ _ => rfl)) pe_int (nomark _)) (pe_cmpR op_eq (pe_op op_mod (pe_callTy call_int1 rfl T.n_int boot_int (pa_cons (pe_ix (r := rIxT K) ix_tup (pv 0) pe_int (fun _ _ => rfl)) pa_nil)) (pv 1)) pe_int (nomark _)) (pe_cmpR op_eq (pe_op op_mod (pe_callTy call_int1 rfl T.n_int boot_int (pa_cons (pv 1) pa_nil)) pe_int) pe_int (nomark _))))) pss_nil) (pss_cons (ps_set (i := 2) sc_l_has_root.nd rfl (Or.inl rfl) (pe_op op_cat (pe_lc (own := [("_law_far", 3)]) (g := gName 3) (tt := tYes) rfl sc_l_has_root.nd (pi_range2 rfl T.n_range (pa_cons (pe_un un_neg pe_int) (pa_cons pe_int pa_nil))) (blkOk_by (N := n_l_has_root) (sc := defScope s_l_has_root) (by decide +kernel)) (fun _ _ _ _ _ => pg_name (i := 3) sc_l_has_root.nd rfl (Or.inl rfl)) (fun _ _ _ _ _ => pts_nil) (fun _ _ _ _ _ => (pe_tup (pa_cons pe_int (pa_cons (pv 3) pa_nil))))) (pe_lc (own := [("_law_far", 3)]) (g := gName 3) (tt := tYes) rfl sc_l_has_root.nd (pi_range2 rfl T.n_range (pa_cons (pe_un un_neg pe_int) (pa_cons pe_int pa_nil))) (blkOk_by (N := n_l_has_root) (sc := defScope s_l_has_root) (by decide +kernel)) (fun _ _ _ _ _ => pg_name (i := 3) sc_l_has_root.nd rfl (Or.inl rfl)) (fun _ _ _ _ _ => pts_nil) (fun _ _ _ _ _ => (pe_tup (pa_cons (pe_un un_neg pe_int) (pa_cons (pv 3) pa_nil))))))) (pss_one (ps_ret (pe_cmpR (op_inD (units65 hr)) (pv 0) (pe_lc (own := [("_law_each", 4)]) (g := gName 4) (tt := tYes) rfl sc_l_has_root.nd (pi_list (pv 2)) (blkOk_by (N := n_l_has_root) (sc := defScope s_l_has_root) (by decide +kernel)) (fun _ _ _ _ _ => pg_name (i := 4) sc_l_has_root.nd rfl (Or.inl rfl)) (fun _ _ _ _ _ => pts_nil) (fun _ _ _ _ _ => (pe_call (ok_l_often T) (hr.mono (by decide)) rfl T.mg_l_often T.F_l_often.kp T.b_l_often .nil pass0 (pa_cons (pv 4) (pa_cons (pv 1) pa_nil))))) (by with_unfolding_all rfl)))))), ?_⟩
  refine body_P h fun ds Φ ⟨s, x, m, e, hs, hm, bm, p⟩ => ?_
  subst e
  repeat walk_at "dl"
  refine ⟨_, rfl, fun z => ?_, fun z => ?_⟩
  · repeat walk_at "dl"
    refine ⟨_, rfl, fun z => ?_, fun z => ?_⟩
    · rw [hroot1 (of_decide_eq_true z)] at p
      repeat walk_at "dl"
      refine rm_C (show (0 : Int) < m by omega) ?_
      repeat walk_at "dl"
      exact p
    · rw [hroot2 (of_decide_eq_false z)] at p
      repeat walk_at "dl"
      exact p
  have hx : x.natAbs ≤ 12 := by
    have z := of_decide_eq_false z
    revert z
    split <;> omega
  repeat walk_at "dl"
  refine em_lcR2 (lo := -12) (hi := 13) ?_ (by decide)
  repeat walk_at "dl"
  refine ⟨rfl, by decide, by decide, by decide, fun i acc l => acc = run 1 i, rfl, ?_, ?_⟩
  · rintro i acc l hi e
    subst e
    repeat walk_at "dl"
    exact run_step 1 i
  rintro acc l _ e
  subst e
  repeat walk_at "dl"
  refine em_lcR2 (lo := -12) (hi := 13) ?_ (by decide)
  repeat walk_at "dl"
  refine ⟨rfl, by decide, by decide, by decide, fun i acc l => acc = run (-1) i, rfl, ?_, ?_⟩
  · rintro i acc l hi e
    subst e
    repeat walk_at "dl"
    exact run_step (-1) i
  rintro acc l _ e
  subst e
  have e1 : (13 - -12 : Int).toNat = 25 := rfl
  rw [e1]
  refine rm_cat (by decide) ?_
  repeat walk_at "dl"
  refine em_lcL ?_
  repeat walk_at "dl"
  refine ⟨_, rfl, by decide, fun i acc l => acc = ((run 1 25 ++ run (-1) 25).take i).map (lofD m), rfl, ?_, ?_⟩
  · rintro i d acc l hd e
    subst e
    have hd2 := List.mem_of_getElem? hd
    obtain ⟨t, y, e, hy⟩ : ∃ t y, d = tp t y ∧ Bd y := by
      rcases List.mem_append.mp hd2 with h | h <;> (obtain ⟨j, hj, e⟩ := run_tp h; exact ⟨_, _, e, by unfold Bd; omega⟩)
    subst e
    repeat walk_at "dl"
    refine ⟨_, _, _, rfl, hy, bm, ?_⟩
    rw [List.take_succ, hd, List.map_append]
    rfl
  rintro acc l _ e
  subst e
  rw [List.take_length]
  have al : ∀ d ∈ (run 1 25 ++ run (-1) 25).map (lofD m), ∃ s x, d = tp s x := by
    intro d hd
    obtain ⟨c, hc, e⟩ := List.mem_map.mp hd
    subst e
    rcases List.mem_append.mp hc with h | h <;> (obtain ⟨j, hj, e⟩ := run_tp h; subst e; exact loft_tp _ _ _)
  refine rm_inD rfl (lay_tps _ al).1 rfl (shaped_tps al) ?_
  have e : ((pyL ((run 1 25 ++ run (-1) 25).map (lofD m))).any fun z => PyData.eqv z (py (tp s x))) = hroot s x m := by
    rw [Bool.eq_iff_iff, any_tps _ s x al, root_in hs hm hx]
  rw [e]
  exact p
theorem bd_div {x m : Int} (h : Bd x) : Bd (x / m) := Nat.lt_of_le_of_lt (Int.natAbs_ediv_le_natAbs _ _) h
theorem rt_root (C : Addr) {s x m : Int} (hs : Sd s) (hm : 1 ≤ m) (hx : Bd x) : (hroot s x m = true ∧ ∃ u v, rt C s x m = sl C u v ∧ Sd u ∧ Bd v ∧ loft u v m = tp s x ∧ oft C u v m = sl C s x) ∨ (hroot s x m = false ∧ rt C s x m = .non) := by
  unfold rt
  rcases hs with e | e
  · subst e
    rw [hroot1 rfl, if_neg (by decide)]
    by_cases h : x % m = 0
    · have hd := Int.mul_ediv_cancel' (Int.dvd_of_emod_eq_zero h)
      rw [if_pos h]
      refine .inl ⟨decide_eq_true h, _, _, rfl, .inl rfl, bd_div hx, ?_, ?_⟩
      · show tp 1 (x / m * m) = tp 1 x
        rw [Int.mul_comm, hd]
      · show sl C 1 (m * (x / m)) = sl C 1 x
        rw [hd]
    · rw [if_neg h]
      exact .inr ⟨decide_eq_false h, rfl⟩
  · subst e
    rw [hroot2 (by decide), if_pos rfl]
    by_cases h : m % 2 = 0
    · rw [if_pos h]
      exact .inr ⟨decide_eq_false (by omega), rfl⟩
    · rw [if_neg h]
      refine .inl ⟨decide_eq_true (by omega), _, _, rfl, .inr rfl, hx, ?_, ?_⟩
      · show (if m % 2 = 1 then tp (-1) x else tp 1 0) = tp (-1) x
        rw [if_pos (by omega)]
      · show (if m % 2 = 0 then sl C 1 0 else sl C (-1) x) = sl C (-1) x
        rw [if_neg h]
def P_rootright : List D → (D → Prop) → Prop := fun ds Φ => ∃ s x m, ds = [tp s x, .int m] ∧ Sd s ∧ 1 ≤ m ∧ Bd m ∧ Bd x ∧ Φ (.bl true)
theorem ok_l_root_right (T : Tx K mg) : FnOk P w K mg base CX0 6 T.f_l_root_right T.d_l_root_right ["_law_near", "_law_many"] (spP K P_rootright) := by
  refine T.F_l_root_right.ok sc_l_root_right (fun vs H Q E h => len_P h fun ds Φ ⟨s, x, m, e, _⟩ => by subst e; rfl) (fun cdv A outer s H vs Q E hr h => ?_)
  refine ⟨_, (pss_cons (ps_set (i := 2) sc_l_root_right.nd rfl (Or.inl rfl) (pe_make T.mk_Slide (ok_Slide_init T) (hr.mono (by decide)) rfl T.mg_Slide T.b_Slide_init .nil pass0 (pa_cons (pe_ix (r := rIxT K) ix_tup (pv 0) pe_int (fun _ _ => rfl)) (pa_cons (pe_ix (r := rIxT K) ix_tup (pv 0) pe_int (fun _ _ => rfl)) pa_nil)))) (pss_cons (ps_for PassesOwn.never rfl (pi_list (pe_lst (pa_cons (pe_call (ok_slide_root T) (hr.mono (by decide)) rfl T.mg_slide_root T.F_slide_root.kp T.b_slide_root .nil pass0 (pa_cons (pv 2) (pa_cons (pv 1) pa_nil))) (pa_cons (pe_callN0 (ok_slide_root T) (hr.mono (by decide)) rfl T.mg_slide_root T.F_slide_root.kp (kb_slide_root_0_degree_one T) pass0 (pk_cons (pv 1) (pk_cons (pv 2) pk_nil))) pa_nil)))) (pg_name (i := 3) sc_l_root_right.nd rfl (Or.inl rfl)) (pss_cons (ps_if (pt_cmpR op_eq (pe_cmp (pc_isN (pv 3))) (pe_call (ok_l_has_root T) (hr.mono (by decide)) rfl T.mg_l_has_root T.F_l_has_root.kp T.b_l_has_root .nil pass0 (pa_cons (pv 0) (pa_cons (pv 1) pa_nil))) (nomark _)) (pss_one (ps_ret pe_bl)) pss_nil) (pss_one (ps_if (pt_cmp (pc_notN (pv 3))) (pss_one (ps_if (PW.pt (pw_or (pt_cmpR (op_neD (hr.units)) (pe_call (ok_l_often T) (hr.mono (by decide)) rfl T.mg_l_often T.F_l_often.kp T.b_l_often .nil pass0 (pa_cons (pe_call (ok_l_kept T) (hr.mono (by decide)) rfl T.mg_l_kept T.F_l_kept.kp T.b_l_kept .nil pass0 (pa_cons (pv 3) pa_nil)) (pa_cons (pv 1) pa_nil))) (pv 0) (nomark _)) (pw_or1 (pt_cmpR (op_neOwn T.eqC (ok_Slide_eq T) T.b_Slide_eq (hr.mono (by decide))) (pe_call (ok_slide_often T) (hr.mono (by decide)) rfl T.mg_slide_often T.F_slide_often.kp T.b_slide_often .nil pass0 (pa_cons (pv 3) (pa_cons (pv 1) pa_nil))) (pv 2) (nomark _))))) (pss_one (ps_ret pe_bl)) pss_nil)) pss_nil)))) (pss_one (ps_ret pe_bl)))), ?_⟩
  refine body_P h fun ds Φ ⟨s, x, m, e, hs, hm, bm, bx, p⟩ => ?_
  subst e
  repeat walk_at "dl"
  refine ⟨_, _, rfl, hs, ?_⟩
  repeat walk_at "dl"
  refine sm_forL ?_
  repeat walk_at "dl"
  refine ⟨_, _, _, rfl, hm, bm, ?_⟩
  repeat walk_at "dl"
  refine ⟨rfl, rfl, s, x, m, rfl, hm, bm, ?_⟩
  repeat walk_at "dl"
  refine ⟨_, rfl, fun i Γ' l => ∃ c : Option D, Γ' = [some (tp s x), some (.int m), some (sl T.C s x), c], ⟨none, rfl⟩, ?_, ?_⟩
  · rintro i d Γ' l hd ⟨c, e⟩
    subst e
    have hd := List.mem_of_getElem? hd
    have e : d = rt T.C s x m := by
      rcases List.mem_cons.mp hd with e | hd
      · exact e
      · exact List.mem_singleton.mp hd
    subst e
    rcases rt_root T.C hs hm bx with ⟨hr1, u, v, e, hu, bv, e1, e2⟩ | ⟨hr1, e⟩
    · rw [e]
      repeat walk_at "dl"
      refine .inr ⟨fun z => (by cases z), ?_⟩
      repeat walk_at "dl"
      refine ⟨_, _, _, rfl, hs, hm, bm, ?_⟩
      rw [hr1]
      repeat walk_at "dl"
      refine ⟨_, rfl, fun z => absurd z (by decide), fun _ => ?_⟩
      repeat walk_at "dl"
      refine .inr ⟨fun z => (by cases z), ?_⟩
      refine ⟨_, rfl, fun _ => ?_, fun z => absurd z (by decide)⟩
      repeat walk_at "dl"
      refine ⟨_, _, rfl, ?_⟩
      repeat walk_at "dl"
      refine ⟨_, _, _, rfl, bv, bm, ?_⟩
      rw [e1]
      repeat walk_at "dl"
      refine rm_neD rfl rfl rfl rfl ?_
      rw [eqv_tp]
      refine ⟨_, rfl, fun z => absurd z (by simp), fun _ => ?_⟩
      repeat walk_at "dl"
      refine ⟨_, _, _, rfl, hu, bv, bm, ?_⟩
      rw [e2]
      repeat walk_at "dl"
      refine rm_own ⟨_, _, _, _, rfl, _, rfl, ?_⟩
      refine ⟨_, rfl, fun z => absurd z (by simp), fun _ => ?_⟩
      repeat walk_at "dl"
      exact ⟨_, rfl⟩
    · rw [e]
      repeat walk_at "dl"
      refine .inl ⟨rfl, ?_⟩
      repeat walk_at "dl"
      refine ⟨_, _, _, rfl, hs, hm, bm, ?_⟩
      rw [hr1]
      repeat walk_at "dl"
      refine ⟨_, rfl, fun z => absurd z (by decide), fun _ => ?_⟩
      repeat walk_at "dl"
      refine .inl ⟨rfl, ?_⟩
      refine ⟨_, rfl, fun z => absurd z (by decide), fun _ => ?_⟩
      repeat walk_at "dl"
      exact ⟨_, rfl⟩
  · rintro Γ' l ⟨c, e⟩
    subst e
    repeat walk_at "dl"
    exact p
theorem alk_put (C : Addr) {s x t y u v : Int} (hs : Sd s) (h : alk C s x t y = sl C u v) (hx : Mg 3 x) (hy : Mg 3 y) : Sd u ∧ Mg 9 v ∧ tp (u * s * u) (v + u * x + u * s * (0 - u * v)) = tp t y := by
  have inj : ∀ {a b c d : Int}, sl C a b = sl C c d → a = c ∧ b = d := by
    intro a b c d h
    injection h with h1 h2
    injection h2 with h3 h4
    injection h4 with h5 h6
    injection h3 with h7 h8
    injection h5 with h9 h10
    injection h8 with h8
    injection h10 with h10
    exact ⟨h8, h10⟩
  have m0 : Mg 9 0 := by unfold Mg; omega
  unfold alk at h
  split at h
  next e =>
    subst e
    split at h
    next e2 =>
      subst e2
      split at h
      next e3 =>
        obtain ⟨e4, e5⟩ := inj h
        subst e4 e5
        refine ⟨.inl rfl, ?_, ?_⟩
        · unfold Mg at *; omega
        · congr 3
          omega
      next => cases h
    next e2 =>
      have e2 : s = 1 := hs.resolve_right e2
      subst e2
      split at h
      next e3 =>
        obtain ⟨e4, e5⟩ := inj h
        subst e4 e5
        refine ⟨.inl rfl, m0, ?_⟩
        congr 3
        omega
      next =>
        split at h
        next e3 =>
          obtain ⟨e4, e5⟩ := inj h
          subst e4 e5
          refine ⟨.inr rfl, m0, ?_⟩
          congr 3
          omega
        next => cases h
  next => cases h
theorem bigB (b c : Bool) : big (.lst [.bl b, .bl c]) ≤ 16777216 := by cases b <;> cases c <;> decide
theorem depB (b c : Bool) : dep (.lst [.bl b, .bl c]) ≤ 64 := by cases b <;> cases c <;> decide
def P_pairright : List D → (D → Prop) → Prop := fun ds Φ => ∃ s x t y, ds = [tp s x, tp t y] ∧ Sd s ∧ Sd t ∧ Mg 3 x ∧ Mg 3 y ∧ Φ (.bl true)
theorem ok_l_pair_right (T : Tx K mg) : FnG P w K mg base CX0 7 T.f_l_pair_right T.d_l_pair_right ["_law_near", "_law_late"] (spP K P_pairright) := by
  refine okG T.F_l_pair_right sc_l_pair_right (fun vs H Q E h => len_P h fun ds Φ ⟨s, x, t, y, e, _⟩ => by subst e; rfl) (fun cdv A outer s H vs Q E hr hgd h => ?_)
  refine ⟨_, (pss_cons (ps_par3 (i := 2) (j := 3) (l := 4) rfl sc_l_pair_right.nd rfl rfl rfl (by decide) (by decide) (by decide) rfl rfl rfl (pa_cons (pe_make T.mk_Slide (ok_Slide_init T) (hr.mono (by decide)) rfl T.mg_Slide T.b_Slide_init .nil pass0 (pa_cons (pe_ix (r := rIxT K) ix_tup (pv 0) pe_int (fun _ _ => rfl)) (pa_cons (pe_ix (r := rIxT K) ix_tup (pv 0) pe_int (fun _ _ => rfl)) pa_nil))) (pa_cons (pe_make T.mk_Slide (ok_Slide_init T) (hr.mono (by decide)) rfl T.mg_Slide T.b_Slide_init .nil pass0 (pa_cons (pe_ix (r := rIxT K) ix_tup (pv 1) pe_int (fun _ _ => rfl)) (pa_cons (pe_ix (r := rIxT K) ix_tup (pv 1) pe_int (fun _ _ => rfl)) pa_nil))) (pa_cons (pe_call (ok_l_is_like T) (hr.mono (by decide)) rfl T.mg_l_is_like T.F_l_is_like.kp T.b_l_is_like .nil pass0 (pa_cons (pv 0) (pa_cons (pv 1) pa_nil))) pa_nil))) rfl) (pss_cons (ps_if (pt_cmpR op_ne (pe_callB (call_repr_data hgd (units128 hr)) rfl T.n_repr boot_repr (pa_cons (pe_lst (pa_cons (pe_call (ok_is_slide_alike T) (hr.mono (by decide)) rfl T.mg_is_slide_alike T.F_is_slide_alike.kp T.b_is_slide_alike .nil pass0 (pa_cons (pv 2) (pa_cons (pv 3) pa_nil))) (pa_cons (pe_callN0 (ok_is_slide_alike T) (hr.mono (by decide)) rfl T.mg_is_slide_alike T.F_is_slide_alike.kp (kb_is_slide_alike_0_other_one T) pass0 (pk_cons (pv 3) (pk_cons (pv 2) pk_nil))) pa_nil))) pa_nil)) (pe_callB (call_repr_data hgd (units128 hr)) rfl T.n_repr boot_repr (pa_cons (pe_lst (pa_cons (pv 4) (pa_cons (pv 4) pa_nil))) pa_nil)) (nomark _)) (pss_one (ps_ret pe_bl)) pss_nil) (pss_cons (ps_for PassesOwn.never rfl (pi_list (pe_lst (pa_cons (pe_call (ok_slide_alike T) (hr.mono (by decide)) rfl T.mg_slide_alike T.F_slide_alike.kp T.b_slide_alike .nil pass0 (pa_cons (pv 2) (pa_cons (pv 3) pa_nil))) (pa_cons (pe_callN0 (ok_slide_alike T) (hr.mono (by decide)) rfl T.mg_slide_alike T.F_slide_alike.kp (kb_slide_alike_0_other_one T) pass0 (pk_cons (pv 3) (pk_cons (pv 2) pk_nil))) pa_nil)))) (pg_name (i := 5) sc_l_pair_right.nd rfl (Or.inl rfl)) (pss_one (ps_if (PW.pt (pw_or (pt_cmpR op_eq (pe_cmp (pc_isN (pv 5))) (pv 4) (nomark _)) (pw_or1 (PW.pt (pw_and (pt_val (pv 4)) (pw_and1 (pt_cmpR (op_neD (hr.units)) (pe_call (ok_l_put T) (hr.mono (by decide)) rfl T.mg_l_put T.F_l_put.kp T.b_l_put .nil pass0 (pa_cons (pe_call (ok_l_kept T) (hr.mono (by decide)) rfl T.mg_l_kept T.F_l_kept.kp T.b_l_kept .nil pass0 (pa_cons (pv 5) pa_nil)) (pa_cons (pv 0) pa_nil))) (pv 1) (nomark _)))))))) (pss_one (ps_ret pe_bl)) pss_nil))) (pss_cons (ps_set (i := 4) sc_l_pair_right.nd rfl (Or.inl rfl) (pe_cmpR (op_eqD (hr.units)) (pe_call (ok_l_then T) (hr.mono (by decide)) rfl T.mg_l_then T.F_l_then.kp T.b_l_then .nil pass0 (pa_cons (pv 0) (pa_cons (pv 1) pa_nil))) (pe_call (ok_l_then T) (hr.mono (by decide)) rfl T.mg_l_then T.F_l_then.kp T.b_l_then .nil pass0 (pa_cons (pv 1) (pa_cons (pv 0) pa_nil))) (nomark _))) (pss_one (ps_ret (pe_cmpR op_eq (pe_callB (call_repr_data hgd (units128 hr)) rfl T.n_repr boot_repr (pa_cons (pe_lst (pa_cons (pe_call (ok_do_slides_commute T) (hr.mono (by decide)) rfl T.mg_do_slides_commute T.F_do_slides_commute.kp T.b_do_slides_commute .nil pass0 (pa_cons (pv 2) (pa_cons (pv 3) pa_nil))) (pa_cons (pe_callN0 (ok_do_slides_commute T) (hr.mono (by decide)) rfl T.mg_do_slides_commute T.F_do_slides_commute.kp (kb_do_slides_commute_0_other_one T) pass0 (pk_cons (pv 3) (pk_cons (pv 2) pk_nil))) pa_nil))) pa_nil)) (pe_callB (call_repr_data hgd (units128 hr)) rfl T.n_repr boot_repr (pa_cons (pe_lst (pa_cons (pv 4) (pa_cons (pv 4) pa_nil))) pa_nil)) (nomark _)))))))), ?_⟩
  refine body_P h fun ds Φ ⟨s, x, t, y, e, hs, ht, hx, hy, p⟩ => ?_
  subst e
  repeat walk_at "dl"
  refine ⟨_, _, rfl, hs, ?_⟩
  repeat walk_at "dl"
  refine ⟨_, _, rfl, ht, ?_⟩
  repeat walk_at "dl"
  refine ⟨_, _, _, _, rfl, hs, ht, ?_⟩
  generalize hL : like s x t y = L
  repeat walk_at "dl"
  refine ⟨_, _, _, rfl, ?_⟩
  repeat walk_at "dl"
  refine ⟨_, _, _, _, rfl, hs, ht, ?_⟩
  rw [hL]
  repeat walk_at "dl"
  refine ⟨rfl, rfl, s, x, t, y, rfl, hs, ht, ?_⟩
  rw [hL]
  repeat walk_at "dl"
  refine cm_reprD ⟨trivial, trivial, trivial⟩ ⟨_, .inr rfl⟩ (bigB _ _) (depB _ _) ?_
  repeat walk_at "dl"
  refine cm_reprD ⟨trivial, trivial, trivial⟩ ⟨_, .inr rfl⟩ (bigB _ _) (depB _ _) ?_
  refine rm_neS ?_
  refine ⟨_, rfl, fun z => absurd z (by rw [eq_str rfl]; decide), fun _ => ?_⟩
  repeat walk_at "dl"
  refine sm_forL ?_
  repeat walk_at "dl"
  refine ⟨_, _, _, _, rfl, hs, ht, ?_⟩
  repeat walk_at "dl"
  refine ⟨rfl, rfl, s, x, t, y, rfl, hs, ht, ?_⟩
  repeat walk_at "dl"
  refine ⟨_, rfl, fun i Γ' l => ∃ c : Option D, Γ' = [some (tp s x), some (tp t y), some (sl T.C s x), some (sl T.C t y), some (.bl L), c], ⟨none, rfl⟩, ?_, ?_⟩
  · rintro i d Γ' l hd ⟨c, e⟩
    subst e
    have hd := List.mem_of_getElem? hd
    have e : d = alk T.C s x t y := by
      rcases List.mem_cons.mp hd with e | hd
      · exact e
      · exact List.mem_singleton.mp hd
    subst e
    rcases alk_like T.C s x t y with ⟨h1, u, v, h2, hu⟩ | ⟨h1, h2⟩
    · have eL : L = true := hL.symm.trans h1
      subst eL
      obtain ⟨_, hv, hp⟩ := alk_put T.C hs h2 hx hy
      rw [h2]
      repeat walk_at "dl"
      refine .inr ⟨fun z => (by cases z), ?_⟩
      repeat walk_at "dl"
      refine ⟨_, rfl, fun z => absurd z (by decide), fun _ => ?_⟩
      repeat walk_at "dl"
      refine ⟨_, rfl, fun _ => ?_, fun z => absurd z (by decide)⟩
      repeat walk_at "dl"
      refine ⟨_, _, rfl, ?_⟩
      repeat walk_at "dl"
      refine ⟨_, _, _, _, rfl, hu, hs, hv, hx.up (by decide), ?_⟩
      rw [hp]
      repeat walk_at "dl"
      refine rm_neD rfl rfl rfl rfl ?_
      rw [eqv_tp]
      refine ⟨_, rfl, fun z => absurd z (by simp), fun _ => ?_⟩
      repeat walk_at "dl"
      exact ⟨_, rfl⟩
    · have eL : L = false := hL.symm.trans h1
      subst eL
      rw [h2]
      repeat walk_at "dl"
      refine .inl ⟨rfl, ?_⟩
      repeat walk_at "dl"
      refine ⟨_, rfl, fun z => absurd z (by decide), fun _ => ?_⟩
      repeat walk_at "dl"
      refine ⟨_, rfl, fun z => absurd z (by decide), fun _ => ⟨fun z => absurd z (by decide), fun _ => ?_⟩⟩
      repeat walk_at "dl"
      exact ⟨_, rfl⟩
  · rintro Γ' l ⟨c, e⟩
    subst e
    repeat walk_at "dl"
    refine ⟨_, _, _, _, rfl, hs, ht, hy.bd, ?_⟩
    repeat walk_at "dl"
    refine ⟨_, _, _, _, rfl, ht, hs, hx.bd, ?_⟩
    refine rm_eqD rfl rfl rfl rfl ?_
    rw [eqv_tp]
    repeat walk_at "dl"
    refine ⟨_, _, _, _, rfl, hs, ht, hx.bd, hy.bd, ?_⟩
    repeat walk_at "dl"
    refine ⟨rfl, rfl, s, x, t, y, rfl, hs, ht, hx.bd, hy.bd, ?_⟩
    repeat walk_at "dl"
    refine cm_reprD ⟨trivial, trivial, trivial⟩ ⟨_, .inr rfl⟩ (bigB _ _) (depB _ _) ?_
    repeat walk_at "dl"
    refine cm_reprD ⟨trivial, trivial, trivial⟩ ⟨_, .inr rfl⟩ (bigB _ _) (depB _ _) ?_
    refine rm_eqS ?_
    rw [eq_str' rfl]
    exact p
theorem loft_sd {s x m : Int} (hs : Sd s) (hx : x.natAbs ≤ 10 ^ 30) (h0 : 1 ≤ m) (h1 : m ≤ 5) : ∃ t y, loft s x m = tp t y ∧ Sd t ∧ Bd y := by
  have b0 : Bd 0 := by unfold Bd; omega
  have b1 : Bd x := by unfold Bd; omega
  have b2 : Bd (x * m) := by
    unfold Bd
    have h2 : m.natAbs ≤ 5 := by omega
    rw [Int.natAbs_mul]
    have := Nat.mul_le_mul hx h2
    omega
  unfold loft
  split
  · exact ⟨_, _, rfl, .inl rfl, b2⟩
  · split
    · exact ⟨_, _, rfl, hs, b1⟩
    · exact ⟨_, _, rfl, .inl rfl, b0⟩
def P_right : List D → Nat → (D → Nat → Prop) → Prop := fun ds n Φ => ds = [] ∧ n = 0 ∧ ∀ m, Φ (.bl true) m
theorem ok_l_right (T : Tx K mg) : FnG P w K mg base CX0 8 T.f_l_right T.d_l_right ["_law_vial_here"] (spV K P_right) := by
  refine okG T.F_l_right sc_l_right (fun vs H Q E h => len_V h fun ds n Φ ⟨e, _⟩ => by subst e; rfl) (fun cdv A outer s H vs Q E hr hgd h => ?_)
  refine ⟨_, (pss_cons (ps_for PassesOwn.never rfl (pi_range1 rfl T.n_range (pa_cons pe_int pa_nil)) (pg_name (i := 1) sc_l_right.nd rfl (Or.inl rfl)) (pss_cons (ps_par (i := 2) (j := 3) rfl sc_l_right.nd rfl rfl (by decide) rfl rfl (pa_cons (pe_call (ok_l_pair T) (hr.mono (by decide)) rfl T.mg_l_pair T.F_l_pair.kp T.b_l_pair .nil pass0 (pa_cons (pv 0) pa_nil)) (pa_cons (pe_call (ok_l_pair T) (hr.mono (by decide)) rfl T.mg_l_pair T.F_l_pair.kp T.b_l_pair .nil pass0 (pa_cons (pv 0) pa_nil)) pa_nil)) rfl) (pss_cons (ps_set (i := 4) sc_l_right.nd rfl (Or.inl rfl) (pe_call (ok_l_pair T) (hr.mono (by decide)) rfl T.mg_l_pair T.F_l_pair.kp T.b_l_pair .nil pass0 (pa_cons (pv 0) pa_nil))) (pss_cons (ps_set (i := 5) sc_l_right.nd rfl (Or.inl rfl) (pe_call (ok_l_put T) (hr.mono (by decide)) rfl T.mg_l_put T.F_l_put.kp T.b_l_put .nil pass0 (pa_cons (pv 4) (pa_cons (pv 2) pa_nil)))) (pss_cons (ps_for PassesOwn.never rfl (pi_list (pe_lst (pa_cons (pe_tup (pa_cons (pv 2) (pa_cons (pv 3) pa_nil))) (pa_cons (pe_tup (pa_cons (pv 2) (pa_cons (pv 5) pa_nil))) (pa_cons (pe_tup (pa_cons (pv 3) (pa_cons (pv 2) pa_nil))) (pa_cons (pe_tup (pa_cons (pv 2) (pa_cons (pe_tup (pa_cons (pe_ix (r := rIxT K) ix_tup (pv 2) pe_int (fun _ _ => rfl)) (pa_cons (pe_op op_add (pe_ix (r := rIxT K) ix_tup (pv 2) pe_int (fun _ _ => rfl)) pe_int) pa_nil))) pa_nil))) (pa_cons (pe_tup (pa_cons (pv 2) (pa_cons (pe_tup (pa_cons pe_int (pa_cons pe_int pa_nil))) pa_nil))) pa_nil))))))) (pg_name (i := 6) sc_l_right.nd rfl (Or.inl rfl)) (pss_one (ps_if (pt_not (pt_val (pe_callG (ok_l_pair_right T) (hr.mono (by decide)) hgd rfl T.mg_l_pair_right T.F_l_pair_right.kp T.b_l_pair_right (pa_cons (pe_ix (r := rIxT K) ix_tup (pv 6) pe_int (fun _ _ => rfl)) (pa_cons (pe_ix (r := rIxT K) ix_tup (pv 6) pe_int (fun _ _ => rfl)) pa_nil))))) (pss_one (ps_ret pe_bl)) pss_nil))) (pss_cons (ps_set (i := 7) sc_l_right.nd rfl (Or.inl rfl) (pe_call (ok_l_opt T) (hr.mono (by decide)) rfl T.mg_l_opt T.F_l_opt.kp T.b_l_opt .nil pass0 (pa_cons (pv 0) (pa_cons (pe_lst (pa_cons pe_int (pa_cons pe_int (pa_cons pe_int (pa_cons pe_int (pa_cons pe_int (pa_cons pe_int (pa_cons pe_int (pa_cons (pe_op op_add (pe_op op_pow pe_int pe_int) pe_int) (pa_cons (pe_op op_pow pe_int pe_int) pa_nil)))))))))) pa_nil)))) (pss_cons (ps_set (i := 8) sc_l_right.nd rfl (Or.inl rfl) (pe_op op_add pe_int (pe_call (ok_l_nip T) (hr.mono (by decide)) rfl T.mg_l_nip T.F_l_nip.kp T.b_l_nip .nil pass0 (pa_cons (pv 0) (pa_cons pe_int pa_nil))))) (pss_one (ps_for PassesOwn.never rfl (pi_list (pe_lst (pa_cons (pe_tup (pa_cons (pv 2) (pa_cons (pv 7) pa_nil))) (pa_cons (pe_tup (pa_cons (pe_call (ok_l_often T) (hr.mono (by decide)) rfl T.mg_l_often T.F_l_often.kp T.b_l_often .nil pass0 (pa_cons (pv 3) (pa_cons (pv 8) pa_nil))) (pa_cons (pv 8) pa_nil))) (pa_cons (pe_tup (pa_cons (pe_tup (pa_cons pe_int (pa_cons pe_int pa_nil))) (pa_cons (pv 7) pa_nil))) (pa_cons (pe_tup (pa_cons (pv 4) (pa_cons pe_int pa_nil))) (pa_cons (pe_tup (pa_cons (pv 4) (pa_cons pe_int pa_nil))) pa_nil))))))) (pg_tup rfl (pgs_cons (pg_name (i := 9) sc_l_right.nd rfl (Or.inl rfl)) (pgs_cons (pg_name (i := 10) sc_l_right.nd rfl (Or.inl rfl)) pgs_nil))) (pss_one (ps_if (pt_not (pt_val (pe_call (ok_l_root_right T) (hr.mono (by decide)) rfl T.mg_l_root_right T.F_l_root_right.kp T.b_l_root_right .nil pass0 (pa_cons (pv 9) (pa_cons (pv 10) pa_nil))))) (pss_one (ps_ret pe_bl)) pss_nil))))))))))) (pss_one (ps_ret pe_bl))), ?_⟩
  refine body_V h fun b ds n Φ hn ⟨e, e0, p⟩ => ?_
  subst e e0
  repeat walk_at "dl"
  refine sm_forR (c := 3) ?_
  repeat walk_at "dl"
  refine ⟨rfl, by decide, fun i Γ' l => l ≤ 20 * i ∧ ∃ c1 c2 c3 c4 c5 c6 c7 c8 c9 c10, Γ' = [some (.adr b), c1, c2, c3, c4, c5, c6, c7, c8, c9, c10], ⟨by decide, _, _, _, _, _, _, _, _, _, _, rfl⟩, ?_, ?_⟩
  · rintro i Γ' l hi ⟨hl, c1, c2, c3, c4, c5, c6, c7, c8, c9, c10, e⟩
    subst e
    repeat walk_at "dl"
    refine em_callV ?_
    repeat walk_at "dl"
    refine ⟨_, rfl, rfl, by omega, fun s1 x1 m1 hs1 hx1 hm1 => ?_⟩
    repeat walk_at "dl"
    refine em_callV ?_
    repeat walk_at "dl"
    refine ⟨_, rfl, rfl, by omega, fun s2 x2 m2 hs2 hx2 hm2 => ?_⟩
    repeat walk_at "dl"
    have g1 : Mg 1 x1 := by unfold Mg; omega
    have g2 : Mg 1 x2 := by unfold Mg; omega
    refine ⟨_, _, rfl, ?_⟩
    repeat walk_at "dl"
    refine em_callV ?_
    repeat walk_at "dl"
    refine ⟨_, rfl, rfl, by omega, fun s3 x3 m3 hs3 hx3 hm3 => ?_⟩
    have g3 : Mg 1 x3 := by unfold Mg; omega
    repeat walk_at "dl"
    refine ⟨_, _, _, _, rfl, hs3, hs1, g3.up (by decide), g1.up (by decide), ?_⟩
    have g4 : Mg 3 (x3 + s3 * x1 + s3 * s1 * (0 - s3 * x3)) := ((g3.add (g1.sd hs3)).add (((g3.sd hs3).zs).sd (hs3.mul hs1))).up (by decide)
    have hs4 : Sd (s3 * s1 * s3) := (hs3.mul hs1).mul hs3
    have g5 : Mg 3 (x1 + 2) := by unfold Mg at *; omega
    have g6 : Mg 3 0 := by unfold Mg; omega
    generalize s3 * s1 * s3 = s4 at hs4 ⊢
    generalize x3 + s3 * x1 + s3 * s1 * (0 - s3 * x3) = x4 at g4 ⊢
    repeat walk_at "dl"
    refine sm_forL ?_
    repeat walk_at "dl"
    have pairs : ∀ d ∈ [D.tup [tp s1 x1, tp s2 x2], D.tup [tp s1 x1, tp s4 x4], D.tup [tp s2 x2, tp s1 x1], D.tup [tp s1 x1, tp s1 (x1 + 2)], D.tup [tp s1 x1, tp 1 0]], ∃ s x t y, d = D.tup [tp s x, tp t y] ∧ Sd s ∧ Sd t ∧ Mg 3 x ∧ Mg 3 y := by
      intro d hd
      simp only [List.mem_cons, List.not_mem_nil, or_false] at hd
      rcases hd with hd | hd | hd | hd | hd
      · exact ⟨_, _, _, _, hd, hs1, hs2, g1.up (by decide), g2.up (by decide)⟩
      · exact ⟨_, _, _, _, hd, hs1, hs4, g1.up (by decide), g4⟩
      · exact ⟨_, _, _, _, hd, hs2, hs1, g2.up (by decide), g1.up (by decide)⟩
      · exact ⟨_, _, _, _, hd, hs1, hs1, g1.up (by decide), g5⟩
      · exact ⟨_, _, _, _, hd, hs1, .inl rfl, g1.up (by decide), g6⟩
    refine ⟨_, rfl, fun j Γ' l' => l' = m3 ∧ ∃ c6 c7 c8 c9 c10, Γ' = [some (.adr b), some (.int i), some (tp s1 x1), some (tp s2 x2), some (tp s3 x3), some (tp s4 x4), c6, c7, c8, c9, c10], ⟨rfl, _, _, _, _, _, rfl⟩, ?_, ?_⟩
    · rintro j d Γ' l' hd ⟨e, c6, c7, c8, c9, c10, e'⟩
      subst e e'
      obtain ⟨s, x, t, y, e, hs, ht, hx, hy⟩ := pairs d (List.mem_of_getElem? hd)
      subst e
      repeat walk_at "dl"
      refine ⟨_, _, _, _, rfl, hs, ht, hx, hy, ?_⟩
      refine ⟨_, rfl, fun z => (by cases z), fun _ => ?_⟩
      repeat walk_at "dl"
      exact ⟨rfl, _, _, _, _, _, rfl⟩
    rintro Γ' l' ⟨e, c6, c7, c8, c9, c10, e'⟩
    subst e e'
    repeat walk_at "dl"
    refine em_callV ?_
    repeat walk_at "dl"
    refine ⟨_, rfl, _, rfl, by simp, by simp, by omega, fun d hd => ?_⟩
    obtain ⟨q, e, hq1, hq2⟩ : ∃ q : Int, d = .int q ∧ 1 ≤ q ∧ Bd q := by
      simp only [List.mem_cons, List.not_mem_nil, or_false] at hd
      unfold Bd
      rcases hd with hd | hd | hd | hd | hd | hd | hd | hd | hd <;> exact ⟨_, hd, by decide +kernel, by decide +kernel⟩
    subst e
    repeat walk_at "dl"
    refine em_callV ?_
    repeat walk_at "dl"
    refine ⟨_, rfl, 5, rfl, by decide, by decide, by omega, fun r r0 r1 => ?_⟩
    repeat walk_at "dl"
    refine sm_forL ?_
    repeat walk_at "dl"
    have bs : Bd (1 + r) := by unfold Bd; omega
    refine ⟨_, _, _, rfl, g2.bd, bs, ?_⟩
    obtain ⟨t, y, e, ht, hy⟩ := loft_sd (m := 1 + r) hs2 hx2 (by omega) (by omega)
    rw [e]
    repeat walk_at "dl"
    have pows : ∀ d ∈ [D.tup [tp s1 x1, .int q], D.tup [tp t y, .int (1 + r)], D.tup [tp 1 0, .int q], D.tup [tp s3 x3, .int 2], D.tup [tp s3 x3, .int 3]], ∃ s x m, d = D.tup [tp s x, .int m] ∧ Sd s ∧ 1 ≤ m ∧ Bd m ∧ Bd x := by
      intro d hd
      have b2 : Bd 2 := by unfold Bd; omega
      have b3 : Bd 3 := by unfold Bd; omega
      simp only [List.mem_cons, List.not_mem_nil, or_false] at hd
      rcases hd with hd | hd | hd | hd | hd
      · exact ⟨_, _, _, hd, hs1, hq1, hq2, g1.bd⟩
      · exact ⟨_, _, _, hd, ht, by omega, bs, hy⟩
      · exact ⟨_, _, _, hd, .inl rfl, hq1, hq2, g6.bd⟩
      · exact ⟨_, _, _, hd, hs3, by decide, b2, g3.bd⟩
      · exact ⟨_, _, _, hd, hs3, by decide, b3, g3.bd⟩
    refine ⟨_, rfl, fun j Γ' l' => l' ≤ 20 * (i + 1) ∧ ∃ c6 c9 c10, Γ' = [some (.adr b), some (.int i), some (tp s1 x1), some (tp s2 x2), some (tp s3 x3), some (tp s4 x4), c6, some (.int q), some (.int (1 + r)), c9, c10], ⟨by omega, _, _, _, rfl⟩, ?_, ?_⟩
    · rintro j d Γ' l' hd ⟨hl', c6, c9, c10, e'⟩
      subst e'
      obtain ⟨s, x, m, e, hs, hm, bm, bx⟩ := pows d (List.mem_of_getElem? hd)
      subst e
      repeat walk_at "dl"
      refine ⟨_, _, _, rfl, hs, hm, bm, bx, ?_⟩
      refine ⟨_, rfl, fun z => (by cases z), fun _ => ?_⟩
      repeat walk_at "dl"
      exact ⟨hl', _, _, _, rfl⟩
    rintro Γ' l' ⟨hl', c6, c9, c10, e'⟩
    subst e'
    repeat walk_at "dl"
    exact ⟨hl', _, _, _, _, _, _, _, _, _, _, rfl⟩
  · rintro Γ' l ⟨hl, c1, c2, c3, c4, c5, c6, c7, c8, c9, c10, e⟩
    subst e
    repeat walk_at "dl"
    exact p _

theorem ok_law (T : Tx K mg) : FnG P w K mg base CX0 9 T.f_law T.d_law ["_law_script"] (spP K P_law) := by
  refine okG T.F_law sc_law (fun vs H Q E h => len_P h fun ds Φ ⟨ns, e, _⟩ => by subst e; rfl) (fun cdv A outer s H vs Q E hr hgd h => ?_)
  refine ⟨_, (pss_one (ps_ret (pe_callB (cr_all rfl) rfl T.n_all boot_all (pa_cons (pe_lc (own := [("_law_turn", 1)]) (g := gName 1) (tt := tYes) rfl sc_law.nd (pi_range1 rfl T.n_range (pa_cons pe_int pa_nil)) (blkOk_by (N := n_law) (sc := defScope s_law) (by decide +kernel)) (fun _ _ _ _ _ => pg_name (i := 1) sc_law.nd rfl (Or.inl rfl)) (fun _ _ _ _ _ => pts_nil) (fun _ _ _ _ _ => (pe_callG (ok_l_right T) (hr.mono (by decide)) hgd rfl T.mg_l_right T.F_l_right.kp T.b_l_right (pa_cons (pe_call (ok_l_vial T) (hr.mono (by decide)) rfl T.mg_l_vial T.F_l_vial.kp T.b_l_vial .nil pass0 (pa_cons (pv 0) (pa_cons (pv 1) pa_nil))) pa_nil)))) pa_nil)))), ?_⟩
  refine body_P h fun ds Φ ⟨ns, e, hl, p⟩ => ?_
  subst e
  repeat walk_at "dl"
  refine em_lcR (c := 2) ?_
  repeat walk_at "dl"
  refine ⟨rfl, by decide, fun i acc l => l = 0 ∧ acc = List.replicate i (.bl true), ⟨rfl, rfl⟩, ?_, ?_⟩
  · rintro i acc l hi ⟨e1, e2⟩
    subst e1 e2
    refine em_fresh ?_
    repeat walk_at "dl"
    exact ⟨ns, i, rfl, by omega, hl, rfl, rfl, fun _ => ⟨rfl, by rw [List.replicate_succ']⟩⟩
  · rintro acc l _ ⟨e1, e2⟩
    subst e1 e2
    repeat walk_at "dl"
    exact cm_all [true, true] rfl p
end

theorem all_mk {K : PySem.W.Frag} {h : Heap} {mg : Str → Option Value} {fa C p1 p2 Ns f0 f1 f2 f3 f4 f5 f6 f7 f8 f9 f10 f11 f12 f13 f14 f15 f16 f17 f18 f19 f20 f21 f22 f23 f24 f25 f26 f27 f28 f29 : Addr} (X : K.In h) (G : h.Ns mainGlobals mg) (hfa : mg "law" = some (.ref fa))
    {od0 od1 od2 od3 od4 od5 od6 od7 od8 od9 od10 od11 od12 od13 od14 od15 od16 od17 od18 od19 od20 od21 od22 od23 od24 od25 od26 od27 od28 od29 an0 an1 an2 an3 an4 an5 an6 an7 an8 an9 an10 an11 an12 an13 an14 an15 an16 an17 an18 an19 an20 an21 an22 an23 an24 an25 an26 an27 an28 an29 : Option Addr} {sl0 sl1 sl2 sl3 sl4 sl5 sl6 sl7 sl8 sl9 sl10 sl11 sl12 sl13 sl14 sl15 sl16 sl17 sl18 sl19 sl20 sl21 sl22 sl23 sl24 sl25 sl26 sl27 sl28 sl29 : Array (Option Value)} {oc0 oc1 oc2 oc3 oc4 oc5 oc6 oc7 oc8 oc9 oc10 oc11 oc12 oc13 oc14 oc15 oc16 oc17 oc18 oc19 oc20 oc21 oc22 oc23 oc24 oc25 oc26 oc27 oc28 oc29 kV0 kV1 kV2 kV3 kV4 kV5 kV6 kV7 kV8 kV9 kV10 kV11 kV12 kV13 kV14 kV15 kV16 kV17 kV18 kV19 kV20 kV21 kV22 kV23 kV24 kV25 kV26 kV27 kV28 kV29 dc0 dc1 dc2 dc3 dc4 dc5 dc6 dc7 dc8 dc9 dc10 dc11 dc12 dc13 dc14 dc15 dc16 dc17 dc18 dc19 dc20 dc21 dc22 dc23 dc24 dc25 dc26 dc27 dc28 dc29 pm0 pm1 pm2 pm3 pm4 pm5 pm6 pm7 pm8 pm9 pm10 pm11 pm12 pm13 pm14 pm15 pm16 pm17 pm18 pm19 pm20 pm21 pm22 pm23 pm24 pm25 pm26 pm27 pm28 pm29 cd0 cd1 cd2 cd3 cd4 cd5 cd6 cd7 cd8 cd9 cd10 cd11 cd12 cd13 cd14 cd15 cd16 cd17 cd18 cd19 cd20 cd21 cd22 cd23 cd24 cd25 cd26 cd27 cd28 cd29 ct0 ct1 ct2 ct3 ct4 ct5 ct6 ct7 ct8 ct9 ct10 ct11 ct12 ct13 ct14 ct15 ct16 ct17 ct18 ct19 ct20 ct21 ct22 ct23 ct24 ct25 ct26 ct27 ct28 ct29 : Value} {rp1 rp2 : List Value} {t1 t2 : Tok}
    {nm qq : Str} {bs : List Value} {hdd : Bool} {sn : List Str} {sb : List Value} {ab : Bool} {col : Option Bool} {dd : Option Addr} {k_0 k_1 k_2 k_3 k_5 : Option Value} {newId : String}
    (a0 : PySem.W.nsIn K mainGlobals "is_integer" = some (some (.ref f0)))
    (l0 : K.lookup f0 = some ⟨oc0, od0, .func (PySem.W.fnOf "is_integer" "is_integer" (defArgs s_is_integer) (defBody s_is_integer) (defScope s_is_integer) .none kV0 dc0 pm0 an0 cd0 ct0), sl0⟩)
    (c0 : PySem.W.codeIn K cd0 "is_integer" = true)
    (k0 : PySem.W.keepIn K (.ref f0) = true)
    (a1 : PySem.W.nsIn K mainGlobals "check_number" = some (some (.ref f1)))
    (l1 : K.lookup f1 = some ⟨oc1, od1, .func (PySem.W.fnOf "check_number" "check_number" (defArgs s_check_number) (defBody s_check_number) (defScope s_check_number) .none kV1 dc1 pm1 an1 cd1 ct1), sl1⟩)
    (c1 : PySem.W.codeIn K cd1 "check_number" = true)
    (k1 : PySem.W.keepIn K (.ref f1) = true)
    (a2 : PySem.W.nsIn K mainGlobals "check_degree" = some (some (.ref f2)))
    (l2 : K.lookup f2 = some ⟨oc2, od2, .func (PySem.W.fnOf "check_degree" "check_degree" (defArgs s_check_degree) (defBody s_check_degree) (defScope s_check_degree) .none kV2 dc2 pm2 an2 cd2 ct2), sl2⟩)
    (c2 : PySem.W.codeIn K cd2 "check_degree" = true)
    (k2 : PySem.W.keepIn K (.ref f2) = true)
    (l3 : K.lookup f3 = some ⟨oc3, od3, .func (PySem.W.fnOf "__init__" "Slide.__init__" (defArgs s_Slide_init) (defBody s_Slide_init) (defScope s_Slide_init) .none kV3 dc3 pm3 an3 cd3 ct3), sl3⟩)
    (c3 : PySem.W.codeIn K cd3 "Slide.__init__" = true)
    (k3 : PySem.W.keepIn K (.ref f3) = true)
    (l4 : K.lookup f4 = some ⟨oc4, od4, .func (PySem.W.fnOf "side" "Slide.side" (defArgs s_Slide_side) (defBody s_Slide_side) (defScope s_Slide_side) .none kV4 dc4 pm4 an4 cd4 ct4), sl4⟩)
    (c4 : PySem.W.codeIn K cd4 "Slide.side" = true)
    (k4 : PySem.W.keepIn K (.ref f4) = true)
    (l5 : K.lookup f5 = some ⟨oc5, od5, .func (PySem.W.fnOf "shift" "Slide.shift" (defArgs s_Slide_shift) (defBody s_Slide_shift) (defScope s_Slide_shift) .none kV5 dc5 pm5 an5 cd5 ct5), sl5⟩)
    (c5 : PySem.W.codeIn K cd5 "Slide.shift" = true)
    (k5 : PySem.W.keepIn K (.ref f5) = true)
    (l6 : K.lookup f6 = some ⟨oc6, od6, .func (PySem.W.fnOf "__eq__" "Slide.__eq__" (defArgs s_Slide_eq) (defBody s_Slide_eq) (defScope s_Slide_eq) .none kV6 dc6 pm6 an6 cd6 ct6), sl6⟩)
    (c6 : PySem.W.codeIn K cd6 "Slide.__eq__" = true)
    (k6 : PySem.W.keepIn K (.ref f6) = true)
    (a7 : PySem.W.nsIn K mainGlobals "check_slide" = some (some (.ref f7)))
    (l7 : K.lookup f7 = some ⟨oc7, od7, .func (PySem.W.fnOf "check_slide" "check_slide" (defArgs s_check_slide) (defBody s_check_slide) (defScope s_check_slide) .none kV7 dc7 pm7 an7 cd7 ct7), sl7⟩)
    (c7 : PySem.W.codeIn K cd7 "check_slide" = true)
    (k7 : PySem.W.keepIn K (.ref f7) = true)
    (a8 : PySem.W.nsIn K mainGlobals "check_slides" = some (some (.ref f8)))
    (l8 : K.lookup f8 = some ⟨oc8, od8, .func (PySem.W.fnOf "check_slides" "check_slides" (defArgs s_check_slides) (defBody s_check_slides) (defScope s_check_slides) .none kV8 dc8 pm8 an8 cd8 ct8), sl8⟩)
    (c8 : PySem.W.codeIn K cd8 "check_slides" = true)
    (k8 : PySem.W.keepIn K (.ref f8) = true)
    (a9 : PySem.W.nsIn K mainGlobals "slide_then" = some (some (.ref f9)))
    (l9 : K.lookup f9 = some ⟨oc9, od9, .func (PySem.W.fnOf "slide_then" "slide_then" (defArgs s_slide_then) (defBody s_slide_then) (defScope s_slide_then) .none kV9 dc9 pm9 an9 cd9 ct9), sl9⟩)
    (c9 : PySem.W.codeIn K cd9 "slide_then" = true)
    (k9 : PySem.W.keepIn K (.ref f9) = true)
    (a10 : PySem.W.nsIn K mainGlobals "slide_often" = some (some (.ref f10)))
    (l10 : K.lookup f10 = some ⟨oc10, od10, .func (PySem.W.fnOf "slide_often" "slide_often" (defArgs s_slide_often) (defBody s_slide_often) (defScope s_slide_often) .none kV10 dc10 pm10 an10 cd10 ct10), sl10⟩)
    (c10 : PySem.W.codeIn K cd10 "slide_often" = true)
    (k10 : PySem.W.keepIn K (.ref f10) = true)
    (a11 : PySem.W.nsIn K mainGlobals "slide_alike" = some (some (.ref f11)))
    (l11 : K.lookup f11 = some ⟨oc11, od11, .func (PySem.W.fnOf "slide_alike" "slide_alike" (defArgs s_slide_alike) (defBody s_slide_alike) (defScope s_slide_alike) .none kV11 dc11 pm11 an11 cd11 ct11), sl11⟩)
    (c11 : PySem.W.codeIn K cd11 "slide_alike" = true)
    (k11 : PySem.W.keepIn K (.ref f11) = true)
    (a12 : PySem.W.nsIn K mainGlobals "is_slide_alike" = some (some (.ref f12)))
    (l12 : K.lookup f12 = some ⟨oc12, od12, .func (PySem.W.fnOf "is_slide_alike" "is_slide_alike" (defArgs s_is_slide_alike) (defBody s_is_slide_alike) (defScope s_is_slide_alike) .none kV12 dc12 pm12 an12 cd12 ct12), sl12⟩)
    (c12 : PySem.W.codeIn K cd12 "is_slide_alike" = true)
    (k12 : PySem.W.keepIn K (.ref f12) = true)
    (a13 : PySem.W.nsIn K mainGlobals "do_slides_commute" = some (some (.ref f13)))
    (l13 : K.lookup f13 = some ⟨oc13, od13, .func (PySem.W.fnOf "do_slides_commute" "do_slides_commute" (defArgs s_do_slides_commute) (defBody s_do_slides_commute) (defScope s_do_slides_commute) .none kV13 dc13 pm13 an13 cd13 ct13), sl13⟩)
    (c13 : PySem.W.codeIn K cd13 "do_slides_commute" = true)
    (k13 : PySem.W.keepIn K (.ref f13) = true)
    (a14 : PySem.W.nsIn K mainGlobals "slide_root" = some (some (.ref f14)))
    (l14 : K.lookup f14 = some ⟨oc14, od14, .func (PySem.W.fnOf "slide_root" "slide_root" (defArgs s_slide_root) (defBody s_slide_root) (defScope s_slide_root) .none kV14 dc14 pm14 an14 cd14 ct14), sl14⟩)
    (c14 : PySem.W.codeIn K cd14 "slide_root" = true)
    (k14 : PySem.W.keepIn K (.ref f14) = true)
    (a15 : PySem.W.nsIn K mainGlobals "_law_vial" = some (some (.ref f15)))
    (l15 : K.lookup f15 = some ⟨oc15, od15, .func (PySem.W.fnOf "_law_vial" "_law_vial" (defArgs s_l_vial) (defBody s_l_vial) (defScope s_l_vial) .none kV15 dc15 pm15 an15 cd15 ct15), sl15⟩)
    (c15 : PySem.W.codeIn K cd15 "_law_vial" = true)
    (k15 : PySem.W.keepIn K (.ref f15) = true)
    (a16 : PySem.W.nsIn K mainGlobals "_law_nip" = some (some (.ref f16)))
    (l16 : K.lookup f16 = some ⟨oc16, od16, .func (PySem.W.fnOf "_law_nip" "_law_nip" (defArgs s_l_nip) (defBody s_l_nip) (defScope s_l_nip) .none kV16 dc16 pm16 an16 cd16 ct16), sl16⟩)
    (c16 : PySem.W.codeIn K cd16 "_law_nip" = true)
    (k16 : PySem.W.keepIn K (.ref f16) = true)
    (a17 : PySem.W.nsIn K mainGlobals "_law_opt" = some (some (.ref f17)))
    (l17 : K.lookup f17 = some ⟨oc17, od17, .func (PySem.W.fnOf "_law_opt" "_law_opt" (defArgs s_l_opt) (defBody s_l_opt) (defScope s_l_opt) .none kV17 dc17 pm17 an17 cd17 ct17), sl17⟩)
    (c17 : PySem.W.codeIn K cd17 "_law_opt" = true)
    (k17 : PySem.W.keepIn K (.ref f17) = true)
    (a18 : PySem.W.nsIn K mainGlobals "_law_pair" = some (some (.ref f18)))
    (l18 : K.lookup f18 = some ⟨oc18, od18, .func (PySem.W.fnOf "_law_pair" "_law_pair" (defArgs s_l_pair) (defBody s_l_pair) (defScope s_l_pair) .none kV18 dc18 pm18 an18 cd18 ct18), sl18⟩)
    (c18 : PySem.W.codeIn K cd18 "_law_pair" = true)
    (k18 : PySem.W.keepIn K (.ref f18) = true)
    (a19 : PySem.W.nsIn K mainGlobals "_law_then" = some (some (.ref f19)))
    (l19 : K.lookup f19 = some ⟨oc19, od19, .func (PySem.W.fnOf "_law_then" "_law_then" (defArgs s_l_then) (defBody s_l_then) (defScope s_l_then) .none kV19 dc19 pm19 an19 cd19 ct19), sl19⟩)
    (c19 : PySem.W.codeIn K cd19 "_law_then" = true)
    (k19 : PySem.W.keepIn K (.ref f19) = true)
    (a20 : PySem.W.nsIn K mainGlobals "_law_undone" = some (some (.ref f20)))
    (l20 : K.lookup f20 = some ⟨oc20, od20, .func (PySem.W.fnOf "_law_undone" "_law_undone" (defArgs s_l_undone) (defBody s_l_undone) (defScope s_l_undone) .none kV20 dc20 pm20 an20 cd20 ct20), sl20⟩)
    (c20 : PySem.W.codeIn K cd20 "_law_undone" = true)
    (k20 : PySem.W.keepIn K (.ref f20) = true)
    (a21 : PySem.W.nsIn K mainGlobals "_law_kept" = some (some (.ref f21)))
    (l21 : K.lookup f21 = some ⟨oc21, od21, .func (PySem.W.fnOf "_law_kept" "_law_kept" (defArgs s_l_kept) (defBody s_l_kept) (defScope s_l_kept) .none kV21 dc21 pm21 an21 cd21 ct21), sl21⟩)
    (c21 : PySem.W.codeIn K cd21 "_law_kept" = true)
    (k21 : PySem.W.keepIn K (.ref f21) = true)
    (a22 : PySem.W.nsIn K mainGlobals "_law_often" = some (some (.ref f22)))
    (l22 : K.lookup f22 = some ⟨oc22, od22, .func (PySem.W.fnOf "_law_often" "_law_often" (defArgs s_l_often) (defBody s_l_often) (defScope s_l_often) .none kV22 dc22 pm22 an22 cd22 ct22), sl22⟩)
    (c22 : PySem.W.codeIn K cd22 "_law_often" = true)
    (k22 : PySem.W.keepIn K (.ref f22) = true)
    (a23 : PySem.W.nsIn K mainGlobals "_law_put" = some (some (.ref f23)))
    (l23 : K.lookup f23 = some ⟨oc23, od23, .func (PySem.W.fnOf "_law_put" "_law_put" (defArgs s_l_put) (defBody s_l_put) (defScope s_l_put) .none kV23 dc23 pm23 an23 cd23 ct23), sl23⟩)
    (c23 : PySem.W.codeIn K cd23 "_law_put" = true)
    (k23 : PySem.W.keepIn K (.ref f23) = true)
    (a24 : PySem.W.nsIn K mainGlobals "_law_is_like" = some (some (.ref f24)))
    (l24 : K.lookup f24 = some ⟨oc24, od24, .func (PySem.W.fnOf "_law_is_like" "_law_is_like" (defArgs s_l_is_like) (defBody s_l_is_like) (defScope s_l_is_like) .none kV24 dc24 pm24 an24 cd24 ct24), sl24⟩)
    (c24 : PySem.W.codeIn K cd24 "_law_is_like" = true)
    (k24 : PySem.W.keepIn K (.ref f24) = true)
    (a25 : PySem.W.nsIn K mainGlobals "_law_has_root" = some (some (.ref f25)))
    (l25 : K.lookup f25 = some ⟨oc25, od25, .func (PySem.W.fnOf "_law_has_root" "_law_has_root" (defArgs s_l_has_root) (defBody s_l_has_root) (defScope s_l_has_root) .none kV25 dc25 pm25 an25 cd25 ct25), sl25⟩)
    (c25 : PySem.W.codeIn K cd25 "_law_has_root" = true)
    (k25 : PySem.W.keepIn K (.ref f25) = true)
    (a26 : PySem.W.nsIn K mainGlobals "_law_pair_right" = some (some (.ref f26)))
    (l26 : K.lookup f26 = some ⟨oc26, od26, .func (PySem.W.fnOf "_law_pair_right" "_law_pair_right" (defArgs s_l_pair_right) (defBody s_l_pair_right) (defScope s_l_pair_right) .none kV26 dc26 pm26 an26 cd26 ct26), sl26⟩)
    (c26 : PySem.W.codeIn K cd26 "_law_pair_right" = true)
    (k26 : PySem.W.keepIn K (.ref f26) = true)
    (a27 : PySem.W.nsIn K mainGlobals "_law_root_right" = some (some (.ref f27)))
    (l27 : K.lookup f27 = some ⟨oc27, od27, .func (PySem.W.fnOf "_law_root_right" "_law_root_right" (defArgs s_l_root_right) (defBody s_l_root_right) (defScope s_l_root_right) .none kV27 dc27 pm27 an27 cd27 ct27), sl27⟩)
    (c27 : PySem.W.codeIn K cd27 "_law_root_right" = true)
    (k27 : PySem.W.keepIn K (.ref f27) = true)
    (a28 : PySem.W.nsIn K mainGlobals "_law_right" = some (some (.ref f28)))
    (l28 : K.lookup f28 = some ⟨oc28, od28, .func (PySem.W.fnOf "_law_right" "_law_right" (defArgs s_l_right) (defBody s_l_right) (defScope s_l_right) .none kV28 dc28 pm28 an28 cd28 ct28), sl28⟩)
    (c28 : PySem.W.codeIn K cd28 "_law_right" = true)
    (k28 : PySem.W.keepIn K (.ref f28) = true)
    (a29 : PySem.W.nsIn K mainGlobals "law" = some (some (.ref f29)))
    (l29 : K.lookup f29 = some ⟨oc29, od29, .func (PySem.W.fnOf "law" "law" (defArgs s_law) (defBody s_law) (defScope s_law) .none kV29 dc29 pm29 an29 cd29 ct29), sl29⟩)
    (c29 : PySem.W.codeIn K cd29 "law" = true)
    (k29 : PySem.W.keepIn K (.ref f29) = true)
    (aC : PySem.W.nsIn K mainGlobals "Slide" = some (some (.ref C)))
    (pg : PySem.W.plainGet K C Str.empty = true)
    (hd : PySem.W.hasDictIn K C = true)
    (po : PySem.W.plainOver K C = true)
    (sa : PySem.W.findIn K (.ref C) "__setattr__" = some (some (.builtin "object.__setattr__")))
    (mk : PySem.W.makesIn K C = true)
    (kc : PySem.W.keepIn K (.ref C) = true)
    (ii : PySem.W.findIn K (.ref C) "__init__" = some (some (.ref f3)))
    (ij : PySem.W.isFn K (.ref f3) = true)
    (p1a : PySem.W.findIn K (.ref C) "side" = some (some (.ref p1)))
    (p1b : PySem.W.specialIn K (.ref p1) "__get__" = some (some (.builtin "property.__get__")))
    (p1c : PySem.W.takesIn K (.ref p1) = some true)
    (p1d : PySem.W.recIn K p1 "property" = some (.ref f4 :: rp1))
    (p2a : PySem.W.findIn K (.ref C) "shift" = some (some (.ref p2)))
    (p2b : PySem.W.specialIn K (.ref p2) "__get__" = some (some (.builtin "property.__get__")))
    (p2c : PySem.W.takesIn K (.ref p2) = some true)
    (p2d : PySem.W.recIn K p2 "property" = some (.ref f5 :: rp2))
    (ea : PySem.W.findIn K (.ref C) "__eq__" = some (some (.ref f6)))
    (eb : PySem.W.isFn K (.ref f6) = true)
    (ec : K.lookup C = some (excClassObj nm qq C Ns bs [.type "object"] hdd sn sb ab col dd k_0 k_1 k_2 k_3 k_5 newId))
    (ed : PySem.W.nsOkIn K Ns = true)
    (ee : PySem.W.nsIn K Ns "__eq__" = some (some (.ref f6)))
    (ef : PySem.W.nsIn K Ns "__ne__" = some none)
    (na : PySem.W.findIn K (.ref C) "_side" = some none)
    (nb : PySem.W.findIn K (.ref C) "_shift" = some none)
    (ia : PySem.W.findIn K (.ref C) "__class__" = some (some (.builtin "object.__class__")))
    (ib : PySem.W.specialIn K (.builtin "object.__class__") "__get__" = some (some (.builtin "getset_descriptor.__get__")))
    (ic : PySem.W.takesIn K (.builtin "object.__class__") = some true)
    (id_ : PySem.W.mroIn K C (.type "object") = some true)
    (ca : PySem.W.nsIn K mainGlobals "AHEAD" = some (some (.int 1 t1)))
    (cb : PySem.W.nsIn K mainGlobals "TURNED" = some (some (.int (-1) t2)))
    (n_int : PySem.W.nsIn K mainGlobals "int" = some none)
    (n_bool : PySem.W.nsIn K mainGlobals "bool" = some none)
    (n_isinstance : PySem.W.nsIn K mainGlobals "isinstance" = some none)
    (n_len : PySem.W.nsIn K mainGlobals "len" = some none)
    (n_abs : PySem.W.nsIn K mainGlobals "abs" = some none)
    (n_repr : PySem.W.nsIn K mainGlobals "repr" = some none)
    (n_all : PySem.W.nsIn K mainGlobals "all" = some none)
    (n_range : PySem.W.nsIn K mainGlobals "range" = some none)
    (n_divmod : PySem.W.nsIn K mainGlobals "divmod" = some none)
    (n_max : PySem.W.nsIn K mainGlobals "max" = some none) : ∃ T : Tx K mg, T.f_law = fa := by
  have e := hfa.symm.trans (PySem.W.mg_of X G a29)
  cases e
  have F0 := fun_mk (st := s_is_integer) l0 c0 k0
  have F1 := fun_mk (st := s_check_number) l1 c1 k1
  have F2 := fun_mk (st := s_check_degree) l2 c2 k2
  have F3 := fun_mk (st := s_Slide_init) l3 c3 k3
  have F4 := fun_mk (st := s_Slide_side) l4 c4 k4
  have F5 := fun_mk (st := s_Slide_shift) l5 c5 k5
  have F6 := fun_mk (st := s_Slide_eq) l6 c6 k6
  have F7 := fun_mk (st := s_check_slide) l7 c7 k7
  have F8 := fun_mk (st := s_check_slides) l8 c8 k8
  have F9 := fun_mk (st := s_slide_then) l9 c9 k9
  have F10 := fun_mk (st := s_slide_often) l10 c10 k10
  have F11 := fun_mk (st := s_slide_alike) l11 c11 k11
  have F12 := fun_mk (st := s_is_slide_alike) l12 c12 k12
  have F13 := fun_mk (st := s_do_slides_commute) l13 c13 k13
  have F14 := fun_mk (st := s_slide_root) l14 c14 k14
  have F15 := fun_mk (st := s_l_vial) l15 c15 k15
  have F16 := fun_mk (st := s_l_nip) l16 c16 k16
  have F17 := fun_mk (st := s_l_opt) l17 c17 k17
  have F18 := fun_mk (st := s_l_pair) l18 c18 k18
  have F19 := fun_mk (st := s_l_then) l19 c19 k19
  have F20 := fun_mk (st := s_l_undone) l20 c20 k20
  have F21 := fun_mk (st := s_l_kept) l21 c21 k21
  have F22 := fun_mk (st := s_l_often) l22 c22 k22
  have F23 := fun_mk (st := s_l_put) l23 c23 k23
  have F24 := fun_mk (st := s_l_is_like) l24 c24 k24
  have F25 := fun_mk (st := s_l_has_root) l25 c25 k25
  have F26 := fun_mk (st := s_l_pair_right) l26 c26 k26
  have F27 := fun_mk (st := s_l_root_right) l27 c27 k27
  have F28 := fun_mk (st := s_l_right) l28 c28 k28
  have F29 := fun_mk (st := s_law) l29 c29 k29
  exact ⟨{
    C := C
    f_is_integer := f0
    d_is_integer := _
    F_is_integer := F0
    b_is_integer := F0.binds (ps := ["value"]) (fun _ _ _ _ _ _ us hl => match us, hl with | [_], _ => rfl)
    mg_is_integer := PySem.W.mg_of X G a0
    f_check_number := f1
    d_check_number := _
    F_check_number := F1
    b_check_number := F1.binds (ps := ["value"]) (fun _ _ _ _ _ _ us hl => match us, hl with | [_], _ => rfl)
    mg_check_number := PySem.W.mg_of X G a1
    f_check_degree := f2
    d_check_degree := _
    F_check_degree := F2
    b_check_degree := F2.binds (ps := ["value"]) (fun _ _ _ _ _ _ us hl => match us, hl with | [_], _ => rfl)
    mg_check_degree := PySem.W.mg_of X G a2
    f_Slide_init := f3
    d_Slide_init := _
    F_Slide_init := F3
    b_Slide_init := F3.binds (ps := ["self", "side", "shift"]) (fun _ _ _ _ _ _ us hl => match us, hl with | [_, _, _], _ => rfl)
    f_Slide_side := f4
    d_Slide_side := _
    F_Slide_side := F4
    b_Slide_side := F4.binds (ps := ["self"]) (fun _ _ _ _ _ _ us hl => match us, hl with | [_], _ => rfl)
    f_Slide_shift := f5
    d_Slide_shift := _
    F_Slide_shift := F5
    b_Slide_shift := F5.binds (ps := ["self"]) (fun _ _ _ _ _ _ us hl => match us, hl with | [_], _ => rfl)
    f_Slide_eq := f6
    d_Slide_eq := _
    F_Slide_eq := F6
    b_Slide_eq := F6.binds (ps := ["self", "other"]) (fun _ _ _ _ _ _ us hl => match us, hl with | [_, _], _ => rfl)
    f_check_slide := f7
    d_check_slide := _
    F_check_slide := F7
    b_check_slide := F7.binds (ps := ["value"]) (fun _ _ _ _ _ _ us hl => match us, hl with | [_], _ => rfl)
    mg_check_slide := PySem.W.mg_of X G a7
    f_check_slides := f8
    d_check_slides := _
    F_check_slides := F8
    b_check_slides := F8.binds (ps := ["one", "other"]) (fun _ _ _ _ _ _ us hl => match us, hl with | [_, _], _ => rfl)
    mg_check_slides := PySem.W.mg_of X G a8
    f_slide_then := f9
    d_slide_then := _
    F_slide_then := F9
    b_slide_then := F9.binds (ps := ["one", "other"]) (fun _ _ _ _ _ _ us hl => match us, hl with | [_, _], _ => rfl)
    mg_slide_then := PySem.W.mg_of X G a9
    f_slide_often := f10
    d_slide_often := _
    F_slide_often := F10
    b_slide_often := F10.binds (ps := ["one", "times"]) (fun _ _ _ _ _ _ us hl => match us, hl with | [_, _], _ => rfl)
    mg_slide_often := PySem.W.mg_of X G a10
    f_slide_alike := f11
    d_slide_alike := _
    F_slide_alike := F11
    b_slide_alike := F11.binds (ps := ["one", "other"]) (fun _ _ _ _ _ _ us hl => match us, hl with | [_, _], _ => rfl)
    mg_slide_alike := PySem.W.mg_of X G a11
    f_is_slide_alike := f12
    d_is_slide_alike := _
    F_is_slide_alike := F12
    b_is_slide_alike := F12.binds (ps := ["one", "other"]) (fun _ _ _ _ _ _ us hl => match us, hl with | [_, _], _ => rfl)
    mg_is_slide_alike := PySem.W.mg_of X G a12
    f_do_slides_commute := f13
    d_do_slides_commute := _
    F_do_slides_commute := F13
    b_do_slides_commute := F13.binds (ps := ["one", "other"]) (fun _ _ _ _ _ _ us hl => match us, hl with | [_, _], _ => rfl)
    mg_do_slides_commute := PySem.W.mg_of X G a13
    f_slide_root := f14
    d_slide_root := _
    F_slide_root := F14
    b_slide_root := F14.binds (ps := ["one", "degree"]) (fun _ _ _ _ _ _ us hl => match us, hl with | [_, _], _ => rfl)
    mg_slide_root := PySem.W.mg_of X G a14
    f_l_vial := f15
    d_l_vial := _
    F_l_vial := F15
    b_l_vial := F15.binds (ps := ["_law_script", "_law_turn"]) (fun _ _ _ _ _ _ us hl => match us, hl with | [_, _], _ => rfl)
    mg_l_vial := PySem.W.mg_of X G a15
    f_l_nip := f16
    d_l_nip := _
    F_l_nip := F16
    b_l_nip := F16.binds (ps := ["_law_vial_here", "_law_most"]) (fun _ _ _ _ _ _ us hl => match us, hl with | [_, _], _ => rfl)
    mg_l_nip := PySem.W.mg_of X G a16
    f_l_opt := f17
    d_l_opt := _
    F_l_opt := F17
    b_l_opt := F17.binds (ps := ["_law_vial_here", "_law_menu"]) (fun _ _ _ _ _ _ us hl => match us, hl with | [_, _], _ => rfl)
    mg_l_opt := PySem.W.mg_of X G a17
    f_l_pair := f18
    d_l_pair := _
    F_l_pair := F18
    b_l_pair := F18.binds (ps := ["_law_vial_here"]) (fun _ _ _ _ _ _ us hl => match us, hl with | [_], _ => rfl)
    mg_l_pair := PySem.W.mg_of X G a18
    f_l_then := f19
    d_l_then := _
    F_l_then := F19
    b_l_then := F19.binds (ps := ["_law_near", "_law_late"]) (fun _ _ _ _ _ _ us hl => match us, hl with | [_, _], _ => rfl)
    mg_l_then := PySem.W.mg_of X G a19
    f_l_undone := f20
    d_l_undone := _
    F_l_undone := F20
    b_l_undone := F20.binds (ps := ["_law_near"]) (fun _ _ _ _ _ _ us hl => match us, hl with | [_], _ => rfl)
    mg_l_undone := PySem.W.mg_of X G a20
    f_l_kept := f21
    d_l_kept := _
    F_l_kept := F21
    b_l_kept := F21.binds (ps := ["_law_mine"]) (fun _ _ _ _ _ _ us hl => match us, hl with | [_], _ => rfl)
    mg_l_kept := PySem.W.mg_of X G a21
    f_l_often := f22
    d_l_often := _
    F_l_often := F22
    b_l_often := F22.binds (ps := ["_law_near", "_law_many"]) (fun _ _ _ _ _ _ us hl => match us, hl with | [_, _], _ => rfl)
    mg_l_often := PySem.W.mg_of X G a22
    f_l_put := f23
    d_l_put := _
    F_l_put := F23
    b_l_put := F23.binds (ps := ["_law_how", "_law_near"]) (fun _ _ _ _ _ _ us hl => match us, hl with | [_, _], _ => rfl)
    mg_l_put := PySem.W.mg_of X G a23
    f_l_is_like := f24
    d_l_is_like := _
    F_l_is_like := F24
    b_l_is_like := F24.binds (ps := ["_law_near", "_law_late"]) (fun _ _ _ _ _ _ us hl => match us, hl with | [_, _], _ => rfl)
    mg_l_is_like := PySem.W.mg_of X G a24
    f_l_has_root := f25
    d_l_has_root := _
    F_l_has_root := F25
    b_l_has_root := F25.binds (ps := ["_law_near", "_law_many"]) (fun _ _ _ _ _ _ us hl => match us, hl with | [_, _], _ => rfl)
    mg_l_has_root := PySem.W.mg_of X G a25
    f_l_pair_right := f26
    d_l_pair_right := _
    F_l_pair_right := F26
    b_l_pair_right := F26.binds (ps := ["_law_near", "_law_late"]) (fun _ _ _ _ _ _ us hl => match us, hl with | [_, _], _ => rfl)
    mg_l_pair_right := PySem.W.mg_of X G a26
    f_l_root_right := f27
    d_l_root_right := _
    F_l_root_right := F27
    b_l_root_right := F27.binds (ps := ["_law_near", "_law_many"]) (fun _ _ _ _ _ _ us hl => match us, hl with | [_, _], _ => rfl)
    mg_l_root_right := PySem.W.mg_of X G a27
    f_l_right := f28
    d_l_right := _
    F_l_right := F28
    b_l_right := F28.binds (ps := ["_law_vial_here"]) (fun _ _ _ _ _ _ us hl => match us, hl with | [_], _ => rfl)
    mg_l_right := PySem.W.mg_of X G a28
    f_law := fa
    d_law := _
    F_law := F29
    b_law := F29.binds (ps := ["_law_script"]) (fun _ _ _ _ _ _ us hl => match us, hl with | [_], _ => rfl)
    mg_law := PySem.W.mg_of X G a29
    mg_Slide := PySem.W.mg_of X G aC
    cl_Slide := ⟨pg, hd, po, sa⟩
    mk_Slide := ⟨mk, ii, ij, kc⟩
    p1 := p1
    p2 := p2
    pr_Slide_side := ⟨p1a, p1b, p1c, rp1, p1d⟩
    pr_Slide_shift := ⟨p2a, p2b, p2c, rp2, p2d⟩
    eqC := ⟨ea, eb, nm, qq, Ns, bs, hdd, sn, sb, ab, col, dd, k_0, k_1, k_2, k_3, k_5, newId, ec, ed, ee, ef⟩
    na_side := na
    na_shift := nb
    isi := ⟨⟨pg, hd, po, sa⟩, ia, ib, ic, id_⟩
    t1 := t1
    t2 := t2
    c_AHEAD := PySem.W.mg_of X G ca
    c_TURNED := PySem.W.mg_of X G cb
    n_int := PySem.W.mg_none_of X G n_int
    n_bool := PySem.W.mg_none_of X G n_bool
    n_isinstance := PySem.W.mg_none_of X G n_isinstance
    n_len := PySem.W.mg_none_of X G n_len
    n_abs := PySem.W.mg_none_of X G n_abs
    n_repr := PySem.W.mg_none_of X G n_repr
    n_all := PySem.W.mg_none_of X G n_all
    n_range := PySem.W.mg_none_of X G n_range
    n_divmod := PySem.W.mg_none_of X G n_divmod
    n_max := PySem.W.mg_none_of X G n_max }, rfl⟩

theorem fin {P : Program} {w : World} {K : PySem.W.Frag} {mg : Str → Option Value} {fa : Addr} (h : ∃ T : Tx K mg, T.f_law = fa) : ∃ fd : FuncData, (∀ (s : Shared) (u : Value), BindsTo s fd ⟨[u], []⟩ [("_law_script", u)]) ∧ ∀ base : Heap, K.In base → base.Ns mainGlobals mg → FnG P w K mg base CX0 9 fa fd ["_law_script"] (spP K P_law) := by
  obtain ⟨T, e⟩ := h
  subst e
  refine ⟨T.d_law, fun s u => ?_, fun base _ _ => ok_law T⟩
  obtain ⟨oc, od, kV, doc, pm, an, cdv, ct, osl, e, _⟩ := T.F_law.ex
  rw [e]
  exact .of_eq rfl

end Sl

open PySem PySem.W PyProof.Rows
set_option maxRecDepth 100000 in
set_option maxHeartbeats 0 in
theorem PySem.Challenge.cw_pressworlds_k33_whole_slides_alike_roots_holds : PySem.Challenge.rw_pressworlds_k33_whole_slides_alike_roots.Holds := by
  w_on; o_law; k_head; (case hw => w_witness2)
  k_fill
  refine DL.walkG (l := PySem.Challenge.rw_pressworlds_k33_whole_slides_alike_roots) (k := 9) (x := "_law_script") rfl rfl ⟨rfl, by decide, by decide⟩ (fun w h Y => PySem.W.kIn_of Y) ?F
  case F =>
    intro w mg fa h KX G hmg
    refine' Sl.fin (Sl.all_mk KX G hmg ?a0 ?l0 ?c0 ?k0 ?a1 ?l1 ?c1 ?k1 ?a2 ?l2 ?c2 ?k2 ?l3 ?c3 ?k3 ?l4 ?c4 ?k4 ?l5 ?c5 ?k5 ?l6 ?c6 ?k6 ?a7 ?l7 ?c7 ?k7 ?a8 ?l8 ?c8 ?k8 ?a9 ?l9 ?c9 ?k9 ?a10 ?l10 ?c10 ?k10 ?a11 ?l11 ?c11 ?k11 ?a12 ?l12 ?c12 ?k12 ?a13 ?l13 ?c13 ?k13 ?a14 ?l14 ?c14 ?k14 ?a15 ?l15 ?c15 ?k15 ?a16 ?l16 ?c16 ?k16 ?a17 ?l17 ?c17 ?k17 ?a18 ?l18 ?c18 ?k18 ?a19 ?l19 ?c19 ?k19 ?a20 ?l20 ?c20 ?k20 ?a21 ?l21 ?c21 ?k21 ?a22 ?l22 ?c22 ?k22 ?a23 ?l23 ?c23 ?k23 ?a24 ?l24 ?c24 ?k24 ?a25 ?l25 ?c25 ?k25 ?a26 ?l26 ?c26 ?k26 ?a27 ?l27 ?c27 ?k27 ?a28 ?l28 ?c28 ?k28 ?a29 ?l29 ?c29 ?k29 ?aC ?pg ?hd ?po ?sa ?mk ?kc ?ii ?ij ?p1a ?p1b ?p1c ?p1d ?p2a ?p2b ?p2c ?p2d ?ea ?eb ?ec ?ed ?ee ?ef ?na ?nb ?ia ?ib ?ic ?id_ ?ca ?cb ?n_int ?n_bool ?n_isinstance ?n_len ?n_abs ?n_repr ?n_all ?n_range ?n_divmod ?n_max)
    (case aC => k_is); (case a0 => k_is); (case a1 => k_is); (case a2 => k_is); (case a7 => k_is); (case a8 => k_is); (case a9 => k_is); (case a10 => k_is); (case a11 => k_is); (case a12 => k_is); (case a13 => k_is); (case a14 => k_is); (case a15 => k_is); (case a16 => k_is); (case a17 => k_is); (case a18 => k_is); (case a19 => k_is); (case a20 => k_is); (case a21 => k_is); (case a22 => k_is); (case a23 => k_is); (case a24 => k_is); (case a25 => k_is); (case a26 => k_is); (case a27 => k_is); (case a28 => k_is); (case a29 => k_is); (case ii => k_is); (case ea => k_is); (case p1a => k_is); (case p1b => k_is); (case p1c => k_is); (case p1d => k_is); (case p2a => k_is); (case p2b => k_is); (case p2c => k_is); (case p2d => k_is); (case l0 => k_is); (case c0 => k_is); (case k0 => k_is); (case l1 => k_is); (case c1 => k_is); (case k1 => k_is); (case l2 => k_is); (case c2 => k_is); (case k2 => k_is); (case l3 => k_is); (case c3 => k_is); (case k3 => k_is); (case l4 => k_is); (case c4 => k_is); (case k4 => k_is); (case l5 => k_is); (case c5 => k_is); (case k5 => k_is); (case l6 => k_is); (case c6 => k_is); (case k6 => k_is); (case l7 => k_is); (case c7 => k_is); (case k7 => k_is); (case l8 => k_is); (case c8 => k_is); (case k8 => k_is); (case l9 => k_is); (case c9 => k_is); (case k9 => k_is); (case l10 => k_is); (case c10 => k_is); (case k10 => k_is); (case l11 => k_is); (case c11 => k_is); (case k11 => k_is); (case l12 => k_is); (case c12 => k_is); (case k12 => k_is); (case l13 => k_is); (case c13 => k_is); (case k13 => k_is); (case l14 => k_is); (case c14 => k_is); (case k14 => k_is); (case l15 => k_is); (case c15 => k_is); (case k15 => k_is); (case l16 => k_is); (case c16 => k_is); (case k16 => k_is); (case l17 => k_is); (case c17 => k_is); (case k17 => k_is); (case l18 => k_is); (case c18 => k_is); (case k18 => k_is); (case l19 => k_is); (case c19 => k_is); (case k19 => k_is); (case l20 => k_is); (case c20 => k_is); (case k20 => k_is); (case l21 => k_is); (case c21 => k_is); (case k21 => k_is); (case l22 => k_is); (case c22 => k_is); (case k22 => k_is); (case l23 => k_is); (case c23 => k_is); (case k23 => k_is); (case l24 => k_is); (case c24 => k_is); (case k24 => k_is); (case l25 => k_is); (case c25 => k_is); (case k25 => k_is); (case l26 => k_is); (case c26 => k_is); (case k26 => k_is); (case l27 => k_is); (case c27 => k_is); (case k27 => k_is); (case l28 => k_is); (case c28 => k_is); (case k28 => k_is); (case l29 => k_is); (case c29 => k_is); (case k29 => k_is); (case pg => k_is); (case hd => k_is); (case po => k_is); (case sa => k_is); (case mk => k_is); (case kc => k_is); (case ij => k_is); (case eb => k_is); (case ec => k_is); (case ed => first | exact (by rfl) | kernel_rfl); (case ee => k_is); (case ef => k_is); (case na => k_is); (case nb => k_is); (case ia => k_is); (case ib => k_is); (case ic => k_is); (case id_ => k_is); (case ca => k_is); (case cb => k_is); (case n_int => k_is); (case n_bool => k_is); (case n_isinstance => k_is); (case n_len => k_is); (case n_abs => k_is); (case n_repr => k_is); (case n_all => k_is); (case n_range => k_is); (case n_divmod => k_is); (case n_max => k_is)

