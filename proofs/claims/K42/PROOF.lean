import PyProof.Rows.All
import Wide.All
import OpenK.AllK
import Wide.FinOn
import HandS.ForMost
import HandS.OwnEq
import HandS.IsInst
import HandS.Property
import HandS.Defaults
import HandS.MakeKw
import HandS.Wide
import HandS.WideBits
import HandS.NoneIn
import HandS.Style
import HandS.Deep
import HandS.Gcd
import HandS.Walk
import HandS.StrMore
import KE.KRevSl
import HandS.More
import HandS.Flow
import HandS.TupAny
import HandS.TupMul
import HandS.ExcOwn
import HandS.RaiseOp
import HandS.Conv
import PySem.Challenge.RW_pressworlds_k42_whole_views_alike
set_option Elab.async false
set_option linter.all false
set_option maxRecDepth 100000
set_option maxHeartbeats 4000000
/-! DM: Python data as plain data, with things of its own that change, over the hand layer. -/
namespace DM
open PySem L2

inductive D where
  | non | bl (b : Bool) | int (i : Int) | str (s : Str) | adr (a : Addr) | ty (n : String) | scr (ns : List Int)
  | tup (ds : List D) | lst (ds : List D) | ins (C : Addr) (fs : List (Str × D)) | dct (kvs : List (Key × D))

/-- the script: locked, or one of the module's own lists -/
def Sc (K : PySem.W.Frag) (H : Hp) (b : Addr) (ns : List Int) : Prop := (∃ o, H b = some (.frz o (.lst (ns.map V.int)))) ∨ ∀ H' : Hp, SqL K H' b (ns.map V.int)
theorem Sc.ext {K : PySem.W.Frag} {G H : Hp} {b : Addr} {ns : List Int} (h : Sc K G b ns) (e : Ext G H) : Sc K H b ns := h.elim (fun ⟨o, z⟩ => .inl ⟨o, e _ _ z⟩) .inr
theorem Sc.seq {K : PySem.W.Frag} {H : Hp} {b : Addr} {ns : List Int} (h : Sc K H b ns) : SqL K H b (ns.map V.int) := h.elim (fun ⟨o, z⟩ => .inl (.inr ⟨o, z⟩)) fun z => z H
mutual
inductive At (K : PySem.W.Frag) (G : Hp) : V → D → Prop
  | non : At K G .non .non
  | bl (b : Bool) : At K G (.bl b) (.bl b)
  | int (i : Int) : At K G (.int i) (.int i)
  | str (s : Str) : At K G (.str s) (.str s)
  | adr (a : Addr) : At K G (.ref a) (.adr a)
  | ty (n : String) : At K G (.ty n) (.ty n)
  | scr {p : Addr} {ns : List Int} : Sc K G p ns → At K G (.ref p) (.scr ns)
  | tup {p : Addr} {vs : List V} {ds : List D} : SqT K G p vs → AtL K G vs ds → At K G (.ref p) (.tup ds)
  | lst {p : Addr} {vs : List V} {ds : List D} : G p = some (.lst vs) → AtL K G vs ds → At K G (.ref p) (.lst ds)
  | ins {p C dx : Addr} {fs : List (Str × V)} {gs : List (Str × D)} : G p = some (.ins C dx fs) → AtF K G fs gs → At K G (.ref p) (.ins C gs)
  | dct {p : Addr} {vs : List (Key × V)} {ds : List (Key × D)} : G p = some (.dK vs) → AtK K G vs ds → At K G (.ref p) (.dct ds)
inductive AtL (K : PySem.W.Frag) (G : Hp) : List V → List D → Prop
  | nil : AtL K G [] []
  | cons {v : V} {d : D} {vs : List V} {ds : List D} : At K G v d → AtL K G vs ds → AtL K G (v :: vs) (d :: ds)
inductive AtF (K : PySem.W.Frag) (G : Hp) : List (Str × V) → List (Str × D) → Prop
  | nil : AtF K G [] []
  | cons {f : Str} {v : V} {d : D} {vs : List (Str × V)} {ds : List (Str × D)} : At K G v d → AtF K G vs ds → AtF K G ((f, v) :: vs) ((f, d) :: ds)
inductive AtK (K : PySem.W.Frag) (G : Hp) : List (Key × V) → List (Key × D) → Prop
  | nil : AtK K G [] []
  | cons {f : Key} {v : V} {d : D} {vs : List (Key × V)} {ds : List (Key × D)} : At K G v d → AtK K G vs ds → AtK K G ((f, v) :: vs) ((f, d) :: ds)
end

section
variable {K : PySem.W.Frag} {G G' H H' : Hp}
mutual
theorem At.mono (e : Ext G G') : ∀ {v : V} {d : D}, At K G v d → At K G' v d
  | _, _, .non => .non
  | _, _, .bl b => .bl b
  | _, _, .int i => .int i
  | _, _, .str s => .str s
  | _, _, .adr a => .adr a
  | _, _, .ty n => .ty n
  | _, _, .scr h => .scr (h.ext e)
  | _, _, .tup h l => .tup (h.ext e) (AtL.mono e l)
  | _, _, .lst h l => .lst (e _ _ h) (AtL.mono e l)
  | _, _, .ins h l => .ins (e _ _ h) (AtF.mono e l)
  | _, _, .dct h l => .dct (e _ _ h) (AtK.mono e l)
theorem AtL.mono (e : Ext G G') : ∀ {vs : List V} {ds : List D}, AtL K G vs ds → AtL K G' vs ds
  | _, _, .nil => .nil
  | _, _, .cons h l => .cons (At.mono e h) (AtL.mono e l)
theorem AtF.mono (e : Ext G G') : ∀ {vs : List (Str × V)} {ds : List (Str × D)}, AtF K G vs ds → AtF K G' vs ds
  | _, _, .nil => .nil
  | _, _, .cons h l => .cons (At.mono e h) (AtF.mono e l)
theorem AtK.mono (e : Ext G G') : ∀ {vs : List (Key × V)} {ds : List (Key × D)}, AtK K G vs ds → AtK K G' vs ds
  | _, _, .nil => .nil
  | _, _, .cons h l => .cons (At.mono e h) (AtK.mono e l)
end
theorem AtL.length {vs : List V} : ∀ {ds : List D}, AtL K G vs ds → vs.length = ds.length := by
  induction vs with
  | nil => intro ds h; cases h; rfl
  | cons v vs ih => intro ds h; cases h with | cons _ l => rw [List.length_cons, List.length_cons, ih l]
theorem AtL.get {vs : List V} : ∀ {ds : List D}, AtL K G vs ds → ∀ {j : Nat} {d : D}, ds[j]? = some d → ∃ v, vs[j]? = some v ∧ At K G v d := by
  induction vs with
  | nil => intro ds h j d e; cases h; simp at e
  | cons v vs ih =>
    intro ds h j d e
    cases h with
    | cons a l =>
      cases j with
      | zero => simp at e; subst e; exact ⟨v, by simp, a⟩
      | succ j => simp at e; obtain ⟨u, h1, h2⟩ := ih l e; exact ⟨u, by simpa using h1, h2⟩
theorem AtL.get' {vs : List V} : ∀ {ds : List D}, AtL K G vs ds → ∀ {j : Nat} {v : V}, vs[j]? = some v → ∃ d, ds[j]? = some d ∧ At K G v d := by
  induction vs with
  | nil => intro ds h j d e; simp at e
  | cons v vs ih =>
    intro ds h j d e
    cases h with
    | cons a l =>
      cases j with
      | zero => simp at e; subst e; exact ⟨_, by simp, a⟩
      | succ j => simp at e; obtain ⟨u, h1, h2⟩ := ih l e; exact ⟨u, by simpa using h1, h2⟩
theorem AtL.append {vs : List V} : ∀ {ds : List D} {us : List V} {es : List D}, AtL K G vs ds → AtL K G us es → AtL K G (vs ++ us) (ds ++ es) := by
  induction vs with
  | nil => intro ds us es h k; cases h; exact k
  | cons v vs ih => intro ds us es h k; cases h with | cons a l => exact .cons a (ih l k)
theorem AtL.take {vs : List V} : ∀ {ds : List D} (n : Nat), AtL K G vs ds → AtL K G (vs.take n) (ds.take n) := by
  induction vs with
  | nil => intro ds n h; cases h; simp; exact .nil
  | cons v vs ih => intro ds n h; cases h with | cons a l => cases n with | zero => exact .nil | succ n => exact .cons a (ih n l)
theorem AtL.drop {vs : List V} : ∀ {ds : List D} (n : Nat), AtL K G vs ds → AtL K G (vs.drop n) (ds.drop n) := by
  induction vs with
  | nil => intro ds n h; cases h; simp; exact .nil
  | cons v vs ih => intro ds n h; cases h with | cons a l => cases n with | zero => exact .cons a l | succ n => exact ih n l
theorem AtL.set {vs : List V} : ∀ {ds : List D} (n : Nat) {v : V} {d : D}, AtL K G vs ds → At K G v d → AtL K G (vs.set n v) (ds.set n d) := by
  induction vs with
  | nil => intro ds n v d h _; cases h; exact .nil
  | cons v vs ih => intro ds n u d h t; cases h with | cons a l => cases n with | zero => exact .cons t l | succ n => exact .cons a (ih n l t)
theorem AtL.reverse {vs : List V} : ∀ {ds : List D}, AtL K G vs ds → AtL K G vs.reverse ds.reverse := by
  induction vs with
  | nil => intro ds h; cases h; exact .nil
  | cons v vs ih => intro ds h; cases h with | cons a l => rw [List.reverse_cons, List.reverse_cons]; exact (ih l).append (.cons a .nil)
theorem AtF.look {fs : List (Str × V)} : ∀ {gs : List (Str × D)}, AtF K G fs gs → ∀ {f : Str} {d : D}, gs.lookup f = some d → ∃ v, fs.lookup f = some v ∧ At K G v d := by
  induction fs with
  | nil => intro gs h f d e; cases h; simp [List.lookup] at e
  | cons p fs ih =>
    intro gs h f d e
    cases h with
    | cons a l =>
      rename_i f0 v0 d0 ds0
      by_cases hf : (f == f0) = true
      · simp [List.lookup, hf] at e ⊢
        subst e
        exact a
      · have hf' : (f == f0) = false := by simpa using hf
        simp [List.lookup, hf'] at e ⊢
        exact ih l e

/-! ### what is one's own -/
inductive OD where
  | lst (ds : List D) | dct (kvs : List (Key × D)) | ins (C dx : Addr) (gs : List (Str × D))
structure Mm where
  n : Nat
  c : List (Addr × OD)
/-- where one stands: the drawing list, what is wished of an exception -/
structure Cd where
  v : Option Addr
  E : XK
  X : Value → Str → D → Mm → Prop
abbrev C0 : Cd := ⟨none, fun _ _ _ => False, fun _ _ _ _ => False⟩
abbrev CV (b : Addr) : Cd := ⟨some b, fun _ _ _ => False, fun _ _ _ _ => False⟩
def Fe (m : Mm) (b : Addr) : Prop := ∀ e ∈ m.c, e.1 ≠ b
def HasO (K : PySem.W.Frag) (G H : Hp) (p : Addr) : OD → Prop
  | .lst ds => ∃ vs, H p = some (.lst vs) ∧ AtL K G vs ds
  | .dct ds => ∃ vs, H p = some (.dK vs) ∧ AtK K G vs ds
  | .ins C dx gs => ∃ fs, H p = some (.ins C dx fs) ∧ AtF K G fs gs
theorem HasO.mono {p : Addr} (e : Ext G G') (h : H p ≠ none → H' p = H p) : ∀ {o : OD}, HasO K G H p o → HasO K G' H' p o
  | .lst _, ⟨vs, k, l⟩ => ⟨vs, by rw [h (by rw [k]; simp)]; exact k, l.mono e⟩
  | .dct _, ⟨vs, k, l⟩ => ⟨vs, by rw [h (by rw [k]; simp)]; exact k, l.mono e⟩
  | .ins _ _ _, ⟨vs, k, l⟩ => ⟨vs, by rw [h (by rw [k]; simp)]; exact k, l.mono e⟩
theorem HasO.some {p : Addr} : ∀ {o : OD}, HasO K G H p o → H p ≠ none
  | .lst _, ⟨vs, k, l⟩ => by rw [k]; simp
  | .dct _, ⟨vs, k, l⟩ => by rw [k]; simp
  | .ins _ _ _, ⟨vs, k, l⟩ => by rw [k]; simp
structure Iv0 (K : PySem.W.Frag) (a : Cd) (m : Mm) (G H : Hp) : Prop where
  i : Ext G H
  vl : ∀ b, a.v = some b → G b = none ∧ Fe m b ∧ ∃ x y z : Int, H b = some (.lst [.int x, .int y, .int z]) ∧ 0 ≤ z ∧ z ≤ m.n ∧ m.n ≤ 1000000
  ow : ∀ e ∈ m.c, G e.1 = none ∧ HasO K G H e.1 e.2
  nd : (m.c.map (·.1)).Nodup
structure Grow (a : Cd) (n : Mm) (G H : Hp) (m : Mm) (G' H' : Hp) : Prop where
  g : Ext G G'
  h : ∀ b o, some b ≠ a.v → Fe n b → H b = some o → H' b = some o
  w : ∀ b, G' b ≠ none → G b ≠ none ∨ H b = none ∨ ¬ Fe n b
  o : ∀ b, ¬ Fe m b → ¬ Fe n b ∨ H b = none
theorem Grow.refl {a : Cd} {n : Mm} : Grow a n G H n G H := ⟨Ext.rfl', fun _ _ _ _ h => h, fun _ h => .inl h, fun _ h => .inl h⟩
theorem Grow.trans {a : Cd} {n m l : Mm} {G1 H1 G2 H2 : Hp} (v : Iv0 K a m G1 H1) (x : Grow a n G H m G1 H1) (y : Grow a m G1 H1 l G2 H2) : Grow a n G H l G2 H2 := by
  have keep : ∀ b, Fe n b → H b ≠ none → H1 b ≠ none ∧ Fe m b ∨ some b = a.v := by
    intro b hf hb
    by_cases e : some b = a.v
    · exact .inr e
    · cases q : H b with
      | none => exact absurd q hb
      | some o =>
        refine .inl ⟨by rw [x.h b o e hf q]; simp, Classical.byContradiction fun z => ?_⟩
        rcases x.o b z with z | z
        · exact z hf
        · rw [z] at q; cases q
  have vial : ∀ b, some b = a.v → H1 b ≠ none ∧ Fe m b ∧ G1 b = none := by
    intro b e
    obtain ⟨h1, h2, _, _, _, h3, _⟩ := v.vl b e.symm
    exact ⟨by rw [h3]; simp, h2, h1⟩
  refine ⟨x.g.trans y.g, fun b o e hf hb => ?_, fun b hb => ?_, fun b hb => ?_⟩
  · refine y.h b o e ?_ (x.h b o e hf hb)
    rcases keep b hf (by rw [hb]; simp) with z | z
    · exact z.2
    · exact absurd z e
  · by_cases hf : Fe n b
    · by_cases q : H b = none
      · exact .inr (.inl q)
      · rcases y.w b hb with z | z | z
        · rcases x.w b z with z | z | z
          · exact .inl z
          · exact absurd z q
          · exact absurd hf z
        · rcases keep b hf q with w | w
          · exact absurd z w.1
          · exact absurd z (vial b w).1
        · rcases keep b hf q with w | w
          · exact absurd w.2 z
          · exact absurd (vial b w).2.1 z
    · exact .inr (.inr hf)
  · by_cases hf : Fe n b
    · by_cases q : H b = none
      · exact .inr q
      · rcases y.o b hb with z | z
        · rcases x.o b z with z | z
          · exact .inl z
          · exact absurd z q
        · rcases keep b hf q with w | w
          · exact absurd z w.1
          · exact absurd z (vial b w).1
    · exact .inl hf
structure Iv (K : PySem.W.Frag) (a : Cd) (m : Mm) (G H : Hp) : Prop extends Iv0 K a m G H where
  xa : ∀ (cls : Value) (d : Addr) (f : Str) (v : V) (dv : D) (m' : Mm) (G' H' : Hp), Grow a m G H m' G' H' → Iv0 K a m' G' H' → H' d = some (.xd [(f, v)]) → At K G' v dv → a.X cls f dv m' → a.E cls (some d) H'
structure Step (K : PySem.W.Frag) (a : Cd) (n : Mm) (G H : Hp) (m : Mm) (G' H' : Hp) : Prop extends Grow a n G H m G' H' where
  v : Iv K a m G' H'
theorem Step.i {a : Cd} {n m : Mm} (s : Step K a n G H m G' H') : Ext G' H' := s.v.i
/-- what is known ahead of a step is known behind it -/
theorem Iv.mk' {a : Cd} {n m : Mm} (v : Iv K a n G H) (g : Grow a n G H m G' H') (w : Iv0 K a m G' H') : Step K a n G H m G' H' :=
  ⟨g, ⟨w, fun cls d f u du m' G2 H2 g2 w2 e t x => v.xa cls d f u du m' G2 H2 (Grow.trans w g g2) w2 e t x⟩⟩
theorem Step.refl {a : Cd} {n : Mm} (v : Iv K a n G H) : Step K a n G H n G H := ⟨Grow.refl, v⟩
theorem Step.trans {a : Cd} {n m l : Mm} {G1 H1 G2 H2 : Hp} (x : Step K a n G H m G1 H1) (y : Step K a m G1 H1 l G2 H2) : Step K a n G H l G2 H2 :=
  ⟨Grow.trans x.v.toIv0 x.toGrow y.toGrow, y.v⟩
/-- pure growth -/
structure PG (G H G' H' : Hp) : Prop where
  g : Ext G G'
  h : Ext H H'
  i : Ext G' H'
  n : ∀ b, G' b ≠ none → G b ≠ none ∨ H b = none
theorem PG.refl (i : Ext G H) : PG G H G H := ⟨Ext.rfl', Ext.rfl', i, fun _ h => .inl h⟩
theorem PG.grow {a : Cd} {n : Mm} (x : PG G H G' H') : Grow a n G H n G' H' := ⟨x.g, fun b o _ _ e => x.h b o e, fun b h => (x.n b h).elim .inl fun z => .inr (.inl z), fun b h => .inl h⟩
theorem PG.inv0 {a : Cd} {n : Mm} (v : Iv0 K a n G H) (x : PG G H G' H') : Iv0 K a n G' H' := by
  have no : ∀ b, G b = none → H b ≠ none → G' b = none := fun b hg hb => Classical.byContradiction fun z => (x.n b z).elim (fun w => w hg) hb
  refine ⟨x.i, fun b hb => ?_, fun e he => ?_, v.nd⟩
  · obtain ⟨h1, h2, p, q, r, h3, h4⟩ := v.vl b hb
    exact ⟨no b h1 (by rw [h3]; simp), h2, p, q, r, x.h b _ h3, h4⟩
  · obtain ⟨h1, h2⟩ := v.ow e he
    refine ⟨no _ h1 h2.some, h2.mono x.g fun hs => ?_⟩
    cases k : H e.1 with
    | none => exact absurd k hs
    | some o => exact x.h _ _ k
theorem PG.step {a : Cd} {n : Mm} (x : PG G H G' H') (v : Iv K a n G H) : Step K a n G H n G' H' := v.mk' x.grow (x.inv0 v.toIv0)
theorem PG.new {p : Addr} {o : HO} (i : Ext G H) (hp : H p = none) : PG G H (upd G p o) (upd H p o) := by
  have gp : G p = none := by
    cases k : G p with
    | none => rfl
    | some u => rw [i p u k] at hp; cases hp
  refine ⟨Ext.upd gp, Ext.upd hp, fun b u e => ?_, fun b h => ?_⟩
  · by_cases hb : b = p
    · subst hb; rw [upd_same] at e ⊢; exact e
    · rw [upd_ne hb] at e ⊢; exact i b u e
  · by_cases hb : b = p
    · subst hb; exact .inr hp
    · rw [upd_ne hb] at h; exact .inl h
/-- a new thing in the heap that is not told -/
theorem PG.hid {p : Addr} {o : HO} (i : Ext G H) (hp : H p = none) : PG G H G (upd H p o) :=
  ⟨Ext.rfl', Ext.upd hp, i.upd' hp, fun b h => .inl h⟩
theorem gnone (i : Ext G H) {p : Addr} (hp : H p = none) : G p = none := by
  cases k : G p with
  | none => rfl
  | some u => rw [i p u k] at hp; cases hp

/-! ### environments -/
abbrev EnvD := List (Option D)
inductive AtS (K : PySem.W.Frag) (G : Hp) : L2.St → EnvD → Prop
  | nil : AtS K G [] []
  | any {o : Option V} {σ : L2.St} {Γ : EnvD} : AtS K G σ Γ → AtS K G (o :: σ) (none :: Γ)
  | val {v : V} {d : D} {σ : L2.St} {Γ : EnvD} : At K G v d → AtS K G σ Γ → AtS K G (some v :: σ) (some d :: Γ)
theorem AtS.mono (e : Ext G G') {σ : L2.St} : ∀ {Γ : EnvD}, AtS K G σ Γ → AtS K G' σ Γ := by
  induction σ with
  | nil => intro Γ h; cases h; exact .nil
  | cons o σ ih => intro Γ h; cases h with | any l => exact .any (ih l) | val a l => exact .val (a.mono e) (ih l)
theorem AtS.get {σ : L2.St} : ∀ {Γ : EnvD}, AtS K G σ Γ → ∀ {i : Nat} {d : D}, Γ[i]? = some (some d) → ∃ v, σ[i]? = some (some v) ∧ At K G v d := by
  induction σ with
  | nil => intro Γ h i d e; cases h; simp at e
  | cons o σ ih =>
    intro Γ h i d e
    cases h with
    | any l =>
      cases i with
      | zero => simp at e
      | succ i => simp at e; obtain ⟨v, h1, h2⟩ := ih l e; exact ⟨v, by simpa using h1, h2⟩
    | val a l =>
      cases i with
      | zero => simp at e; subst e; exact ⟨_, by simp, a⟩
      | succ i => simp at e; obtain ⟨v, h1, h2⟩ := ih l e; exact ⟨v, by simpa using h1, h2⟩
theorem AtS.set {σ : L2.St} : ∀ {Γ : EnvD} (i : Nat) {v : V} {d : D}, AtS K G σ Γ → At K G v d → AtS K G (σ.set i (some v)) (Γ.set i (some d)) := by
  induction σ with
  | nil => intro Γ i v d h a; cases h; exact .nil
  | cons o σ ih =>
    intro Γ i v d h a
    cases h with
    | any l => cases i with | zero => exact .val a l | succ i => exact .any (ih i l a)
    | val b l => cases i with | zero => exact .val a l | succ i => exact .val b (ih i l a)
theorem AtS.put {σ : L2.St} : ∀ {Γ : EnvD} (i : Nat) {o : Option V}, AtS K G σ Γ → AtS K G (σ.set i o) (Γ.set i none) := by
  induction σ with
  | nil => intro Γ i o h; cases h; exact .nil
  | cons o σ ih =>
    intro Γ i u h
    cases h with
    | any l => cases i with | zero => exact .any l | succ i => exact .any (ih i l)
    | val b l => cases i with | zero => exact .any l | succ i => exact .val b (ih i l)
/-- a slot is seen otherwise -/
theorem AtS.see {σ : L2.St} : ∀ {Γ : EnvD} {i : Nat} {v : V} {d : D}, AtS K G σ Γ → σ[i]? = some (some v) → At K G v d → AtS K G σ (Γ.set i (some d)) := by
  intro Γ i v d S e t
  have := S.set i t
  have e2 : σ.set i (some v) = σ := by
    obtain ⟨h, e'⟩ := List.getElem?_eq_some_iff.mp e
    rw [← e', List.set_getElem_self]
  rwa [e2] at this
theorem AtS.rep (n : Nat) : AtS K G (List.replicate n none) (List.replicate n none) := by
  induction n with
  | zero => exact .nil
  | succ n ih => exact .any ih
theorem AtS.app {vs : List V} : ∀ {ds : List D} {σ : L2.St} {Γ : EnvD}, AtL K G vs ds → AtS K G σ Γ → AtS K G (vs.map some ++ σ) (ds.map some ++ Γ) := by
  induction vs with
  | nil => intro ds σ Γ h k; cases h; exact k
  | cons v vs ih => intro ds σ Γ h k; cases h with | cons a l => exact .val a (ih l k)
def startD (N : List Str) (ds : List D) : EnvD := ds.map some ++ List.replicate (N.length - ds.length) none
theorem AtS.start {N : List Str} {vs : List V} {ds : List D} (h : AtL K G vs ds) : AtS K G (L2.start N vs) (startD N ds) := by
  unfold L2.start startD
  rw [h.length]
  exact AtS.app h (AtS.rep _)
theorem AtS.length {σ : L2.St} : ∀ {Γ : EnvD}, AtS K G σ Γ → σ.length = Γ.length := by
  induction σ with
  | nil => intro Γ h; cases h; rfl
  | cons o σ ih => intro Γ h; cases h with | any l => simp [ih l] | val _ l => simp [ih l]
end

/-! ### running on data -/
structure Rs where
  rt : D → Mm → Prop
  bk : EnvD → Mm → Prop
  ct : EnvD → Mm → Prop
abbrev Rs.ret (R : D → Mm → Prop) : Rs := ⟨R, fun _ _ => False, fun _ _ => False⟩
section
variable (K : PySem.W.Frag) (a : Cd)
def EvM (te : TE) (Γ : EnvD) (n : Mm) (Φ : D → Mm → Prop) : Prop := ∀ σ G H, AtS K G σ Γ → Iv K a n G H →
  ∀ Q : VK, (∀ v d m G' H', Step K a n G H m G' H' → At K G' v d → Φ d m → Q v H') → te σ H Q
def AvM (ta : TA) (Γ : EnvD) (n : Mm) (Φ : List D → Mm → Prop) : Prop := ∀ σ G H, AtS K G σ Γ → Iv K a n G H →
  ∀ Q : List V → Hp → Prop, (∀ vs ds m G' H', Step K a n G H m G' H' → AtL K G' vs ds → Φ ds m → Q vs H') → ta σ H Q
def TvM (tt : TT) (Γ : EnvD) (n : Mm) (Φ : Bool → Mm → Prop) : Prop := ∀ σ G H, AtS K G σ Γ → Iv K a n G H →
  ∀ Q : Bool → Hp → Prop, (∀ b m G' H', Step K a n G H m G' H' → Φ b m → Q b H') → tt σ H Q
def OvM (to : TO) (Γ : EnvD) (n : Mm) (Φ : Option Int → Mm → Prop) : Prop := ∀ σ G H, AtS K G σ Γ → Iv K a n G H →
  ∀ Q : Option Int → Hp → Prop, (∀ o m G' H', Step K a n G H m G' H' → Φ o m → Q o H') → to σ H Q
structure EnM (n : Mm) (G H : Hp) (N : EnvD → Mm → Prop) (R : Rs) (Dn : Ends) : Prop where
  nx : ∀ σ' Γ' m G' H', Step K a n G H m G' H' → AtS K G' σ' Γ' → N Γ' m → Dn.nx σ' H'
  rt : ∀ v d m G' H', Step K a n G H m G' H' → At K G' v d → R.rt d m → Dn.rt v H'
  bk : ∀ σ' Γ' m G' H', Step K a n G H m G' H' → AtS K G' σ' Γ' → R.bk Γ' m → Dn.bk σ' H'
  ct : ∀ σ' Γ' m G' H', Step K a n G H m G' H' → AtS K G' σ' Γ' → R.ct Γ' m → Dn.ct σ' H'
def SM (ts : TS) (Γ : EnvD) (n : Mm) (N : EnvD → Mm → Prop) (R : Rs) : Prop := ∀ σ G H, AtS K G σ Γ → Iv K a n G H → ∀ Dn : Ends, EnM K a n G H N R Dn → ts Dn σ H
/-- an operation on two values -/
def RM (r : R2) (x y : D) (n : Mm) (Φ : D → Mm → Prop) : Prop := ∀ G H u v, At K G u x → At K G v y → Iv K a n G H →
  ∀ Q : VK, (∀ w d m G' H', Step K a n G H m G' H' → At K G' w d → Φ d m → Q w H') → r u v H Q
def CM (r : List V → Hp → VK → Prop) (xs : List D) (n : Mm) (Φ : D → Mm → Prop) : Prop := ∀ G H us, AtL K G us xs → Iv K a n G H →
  ∀ Q : VK, (∀ w d m G' H', Step K a n G H m G' H' → At K G' w d → Φ d m → Q w H') → r us H Q
end
theorem EnM.trans {K : PySem.W.Frag} {a : Cd} {n m : Mm} {G H G1 H1 : Hp} {N : EnvD → Mm → Prop} {R : Rs} {Dn : Ends} (e : EnM K a n G H N R Dn) (s : Step K a n G H m G1 H1) : EnM K a m G1 H1 N R Dn :=
  ⟨fun σ Γ l G2 H2 t => e.nx σ Γ l G2 H2 (s.trans t), fun v d l G2 H2 t => e.rt v d l G2 H2 (s.trans t), fun σ Γ l G2 H2 t => e.bk σ Γ l G2 H2 (s.trans t), fun σ Γ l G2 H2 t => e.ct σ Γ l G2 H2 (s.trans t)⟩
section
variable {K : PySem.W.Frag} {a : Cd} {Γ : EnvD} {n : Mm} {Φ Φ' : D → Mm → Prop} {ta tb te : TE} {tA tB' : TT} {ts tu tw : TS} {N : EnvD → Mm → Prop} {R : Rs} {d : D}
theorem em_mono (h : EvM K a te Γ n Φ) (k : ∀ d m, Φ d m → Φ' d m) : EvM K a te Γ n Φ' := fun σ G H S v Q q => h σ G H S v Q fun w d m G' H' g t p => q w d m G' H' g t (k d m p)
theorem em_var {i : Nat} (h : Γ[i]? = some (some d)) (k : Φ d n) : EvM K a (tVar i) Γ n Φ := fun σ G H S v Q q => by
  obtain ⟨u, h1, h2⟩ := S.get h
  exact ⟨u, h1, q u d n G H (.refl v) h2 k⟩
theorem em_c {u : V} (h : ∀ G, At K G u d) (k : Φ d n) : EvM K a (tC u) Γ n Φ := fun σ G H S v Q q => q u d n G H (.refl v) (h G) k
theorem em_int {i : Int} (k : Φ (.int i) n) : EvM K a (tC (.int i)) Γ n Φ := em_c (fun _ => .int i) k
theorem em_bl {i : Bool} (k : Φ (.bl i) n) : EvM K a (tC (.bl i)) Γ n Φ := em_c (fun _ => .bl i) k
theorem em_str {i : Str} (k : Φ (.str i) n) : EvM K a (tC (.str i)) Γ n Φ := em_c (fun _ => .str i) k
theorem em_non (k : Φ .non n) : EvM K a (tC .non) Γ n Φ := em_c (fun _ => .non) k
theorem em_ty {T : String} (k : Φ (.ty T) n) : EvM K a (tC (.ty T)) Γ n Φ := em_c (fun _ => .ty T) k
theorem em_adr {b : Addr} (k : Φ (.adr b) n) : EvM K a (tC (.ref b)) Γ n Φ := em_c (fun _ => .adr b) k
theorem em_op {r : R2} (h : EvM K a ta Γ n fun x m => EvM K a tb Γ m fun y l => RM K a r x y l Φ) : EvM K a (tOp r ta tb) Γ n Φ := fun σ G H S v Q q =>
  h σ G H S v _ fun x dx m G1 H1 g1 t1 p1 => p1 σ G1 H1 (S.mono g1.g) g1.v _ fun y dy l G2 H2 g2 t2 p2 =>
    p2 G2 H2 x y (t1.mono g2.g) t2 g2.v Q fun w d l' G3 H3 g3 t3 p3 => q w d l' G3 H3 ((g1.trans g2).trans g3) t3 p3
theorem em_un {r : V → Hp → VK → Prop} (h : EvM K a ta Γ n fun x m => CM K a (fun us H Q => ∃ u, us = [u] ∧ r u H Q) [x] m Φ) : EvM K a (tUn r ta) Γ n Φ := fun σ G H S v Q q =>
  h σ G H S v _ fun x dx m G1 H1 g1 t1 p1 => by
    obtain ⟨u, e, z⟩ := p1 G1 H1 [x] (.cons t1 .nil) g1.v Q fun w d l' G3 H3 g3 t3 p3 => q w d l' G3 H3 (g1.trans g3) t3 p3
    cases e
    exact z
theorem am_nil {Φ : List D → Mm → Prop} (k : Φ [] n) : AvM K a tNil Γ n Φ := fun σ G H S v Q q => q [] [] n G H (.refl v) .nil k
theorem am_cons {Φ : List D → Mm → Prop} {tr : TA} (h : EvM K a te Γ n fun x m => AvM K a tr Γ m fun xs l => Φ (x :: xs) l) : AvM K a (tCons te tr) Γ n Φ := fun σ G H S v Q q =>
  h σ G H S v _ fun x dx m G1 H1 g1 t1 p1 => p1 σ G1 H1 (S.mono g1.g) g1.v _ fun ys dys l G2 H2 g2 t2 p2 => q (x :: ys) (dx :: dys) l G2 H2 (g1.trans g2) (.cons (t1.mono g2.g) t2) p2
theorem em_tup {t : TA} (h : AvM K a t Γ n fun ds m => ds.length ≤ 1000 ∧ Φ (.tup ds) m) : EvM K a (tTup t) Γ n Φ := fun σ G H S v Q q =>
  h σ G H S v _ fun xs ds m G1 H1 g1 t1 ⟨hl, p1⟩ => ⟨by rw [t1.length]; exact Nat.le_trans hl (by decide), fun p hp => by
    have gn := PG.new (G := G1) (o := .tup xs) g1.i hp
    exact q (.ref p) (.tup ds) m _ _ (g1.trans (gn.step g1.v)) (.tup (.inl (.inl upd_same)) (t1.mono gn.g)) p1⟩
theorem em_lst {t : TA} (h : AvM K a t Γ n fun ds m => ds.length ≤ 1000 ∧ Φ (.lst ds) m) : EvM K a (tLst t) Γ n Φ := fun σ G H S v Q q =>
  h σ G H S v _ fun xs ds m G1 H1 g1 t1 ⟨hl, p1⟩ => ⟨by rw [t1.length]; exact Nat.le_trans hl (by decide), fun p hp => by
    have gn := PG.new (G := G1) (o := .lst xs) g1.i hp
    exact q (.ref p) (.lst ds) m _ _ (g1.trans (gn.step g1.v)) (.lst upd_same (t1.mono gn.g)) p1⟩
theorem em_cb {r : List V → Hp → VK → Prop} {t : TA} (h : AvM K a t Γ n fun ds m => CM K a r ds m Φ) : EvM K a (tCB r t) Γ n Φ := fun σ G H S v Q q =>
  h σ G H S v _ fun xs ds m G1 H1 g1 t1 p1 => p1 G1 H1 xs t1 g1.v Q fun w d l' G3 H3 g3 t3 p3 => q w d l' G3 H3 (g1.trans g3) t3 p3
theorem em_if {tc : TT} (h : TvM K a tc Γ n fun b m => (b = true → EvM K a ta Γ m Φ) ∧ (b = false → EvM K a tb Γ m Φ)) : EvM K a (tIf tc ta tb) Γ n Φ := fun σ G H S v Q q =>
  h σ G H S v _ fun b m G1 H1 g1 p1 => by
    cases b with
    | true => exact p1.1 rfl σ G1 H1 (S.mono g1.g) g1.v Q fun w d l' G3 H3 g3 t3 p3 => q w d l' G3 H3 (g1.trans g3) t3 p3
    | false => exact p1.2 rfl σ G1 H1 (S.mono g1.g) g1.v Q fun w d l' G3 H3 g3 t3 p3 => q w d l' G3 H3 (g1.trans g3) t3 p3
/-! tests -/
theorem tm_test {Φ : Bool → Mm → Prop} (h : EvM K a te Γ n fun x m => ∃ b, x = .bl b ∧ Φ b m) : TvM K a (tTest te) Γ n Φ := fun σ G H S v Q q =>
  h σ G H S v _ fun x dx m G1 H1 g1 t1 ⟨b, e, p⟩ => by subst e; cases t1; exact ⟨b, rfl, q b m G1 H1 g1 p⟩
theorem tm_B {Φ : Bool → Mm → Prop} (h : EvM K a te Γ n fun x m => ∃ b, x = .bl b ∧ Φ b m) : TvM K a (tB te) Γ n Φ := fun σ G H S v Q q =>
  h σ G H S v _ fun x dx m G1 H1 g1 t1 ⟨b, e, p⟩ => by subst e; cases t1; exact ⟨b, rfl, q b m G1 H1 g1 p⟩
theorem tm_not {Φ : Bool → Mm → Prop} (h : TvM K a tA Γ n fun b m => Φ (!b) m) : TvM K a (tNot tA) Γ n Φ := fun σ G H S v Q q => h σ G H S v _ fun b m G1 H1 g1 p => q (!b) m G1 H1 g1 p
theorem tm_and {Φ : Bool → Mm → Prop} (h : TvM K a tA Γ n fun b m => (b = true → TvM K a tB' Γ m Φ) ∧ (b = false → Φ false m)) : TvM K a (tAnd tA tB') Γ n Φ := fun σ G H S v Q q =>
  h σ G H S v _ fun b m G1 H1 g1 p1 => by
    cases b with
    | true => exact p1.1 rfl σ G1 H1 (S.mono g1.g) g1.v Q fun w l' G3 H3 g3 p3 => q w l' G3 H3 (g1.trans g3) p3
    | false => exact q false m G1 H1 g1 (p1.2 rfl)
theorem tm_or {Φ : Bool → Mm → Prop} (h : TvM K a tA Γ n fun b m => (b = true → Φ true m) ∧ (b = false → TvM K a tB' Γ m Φ)) : TvM K a (tOr tA tB') Γ n Φ := fun σ G H S v Q q =>
  h σ G H S v _ fun b m G1 H1 g1 p1 => by
    cases b with
    | true => exact q true m G1 H1 g1 (p1.1 rfl)
    | false => exact p1.2 rfl σ G1 H1 (S.mono g1.g) g1.v Q fun w l' G3 H3 g3 p3 => q w l' G3 H3 (g1.trans g3) p3
theorem em_andV (h : EvM K a ta Γ n fun x m => ∃ b, x = .bl b ∧ (b = true → EvM K a tb Γ m Φ) ∧ (b = false → Φ (.bl false) m)) : EvM K a (tAndV ta tb) Γ n Φ := fun σ G H S v Q q =>
  h σ G H S v _ fun x dx m G1 H1 g1 t1 ⟨b, e, p1, p2⟩ => by
    subst e; cases t1
    refine ⟨b, rfl, ?_⟩
    cases b with
    | true => exact p1 rfl σ G1 H1 (S.mono g1.g) g1.v Q fun w d l' G3 H3 g3 t3 p3 => q w d l' G3 H3 (g1.trans g3) t3 p3
    | false => exact q _ _ m G1 H1 g1 (.bl false) (p2 rfl)
theorem em_orV (h : EvM K a ta Γ n fun x m => ∃ b, x = .bl b ∧ (b = true → Φ (.bl true) m) ∧ (b = false → EvM K a tb Γ m Φ)) : EvM K a (tOrV ta tb) Γ n Φ := fun σ G H S v Q q =>
  h σ G H S v _ fun x dx m G1 H1 g1 t1 ⟨b, e, p1, p2⟩ => by
    subst e; cases t1
    refine ⟨b, rfl, ?_⟩
    cases b with
    | false => exact p2 rfl σ G1 H1 (S.mono g1.g) g1.v Q fun w d l' G3 H3 g3 t3 p3 => q w d l' G3 H3 (g1.trans g3) t3 p3
    | true => exact q _ _ m G1 H1 g1 (.bl true) (p1 rfl)
theorem em_notV (h : EvM K a ta Γ n fun x m => ∃ b, x = .bl b ∧ Φ (.bl (!b)) m) : EvM K a (tNotV ta) Γ n Φ := fun σ G H S v Q q =>
  h σ G H S v _ fun x dx m G1 H1 g1 t1 ⟨b, e, p⟩ => by subst e; cases t1; exact ⟨b, rfl, q _ _ m G1 H1 g1 (.bl _) p⟩
theorem em_isN (h : EvM K a ta Γ n fun x m => (x = .non ∧ Φ (.bl true) m) ∨ (x ≠ .non ∧ Φ (.bl false) m)) : EvM K a (tIsN ta) Γ n Φ := fun σ G H S v Q q =>
  h σ G H S v _ fun x dx m G1 H1 g1 t1 p => by
    rcases p with ⟨e, p⟩ | ⟨e, p⟩
    · subst e; cases t1; exact q _ _ m G1 H1 g1 (.bl _) p
    · have hx : x ≠ .non := by intro z; subst z; cases t1; exact e rfl
      show Q (.bl (decide (x = .non))) H1
      rw [decide_eq_false hx]
      exact q _ _ m G1 H1 g1 (.bl _) p
theorem em_notN (h : EvM K a ta Γ n fun x m => (x = .non ∧ Φ (.bl false) m) ∨ (x ≠ .non ∧ Φ (.bl true) m)) : EvM K a (tNotN ta) Γ n Φ := fun σ G H S v Q q =>
  h σ G H S v _ fun x dx m G1 H1 g1 t1 p => by
    rcases p with ⟨e, p⟩ | ⟨e, p⟩
    · subst e; cases t1; exact q _ _ m G1 H1 g1 (.bl _) p
    · have hx : x ≠ .non := by intro z; subst z; cases t1; exact e rfl
      show Q (.bl (!decide (x = .non))) H1
      rw [decide_eq_false hx]
      exact q _ _ m G1 H1 g1 (.bl _) p
/-! statements -/
theorem sm_seq (h : SM K a ts Γ n (fun Γ' m => SM K a tu Γ' m N R) R) : SM K a (tSeq ts tu) Γ n N R := fun σ G H S v Dn e =>
  h σ G H S v { Dn with nx := tu Dn } ⟨fun σ' Γ' m G1 H1 g1 S1 p => p σ' G1 H1 S1 g1.v Dn (e.trans g1), e.rt, e.bk, e.ct⟩
theorem sm_next (h : N Γ n) : SM K a tNext Γ n N R := fun σ G H S v Dn e => e.nx σ Γ n G H (.refl v) S h
theorem sm_asg {i : Nat} (h : EvM K a te Γ n fun d m => N (Γ.set i (some d)) m) : SM K a (tAsg te (gName i)) Γ n N R := fun σ G H S z Dn e =>
  h σ G H S z _ fun w d m G1 H1 g1 t1 p1 => e.nx _ _ m G1 H1 g1 ((S.mono g1.g).set i t1) p1
theorem sm_drop (h : EvM K a te Γ n fun d m => N Γ m) : SM K a (tDrop te) Γ n N R := fun σ G H S z Dn e =>
  h σ G H S z _ fun w d m G1 H1 g1 t1 p1 => e.nx _ _ m G1 H1 g1 (S.mono g1.g) p1
theorem sm_ret (h : EvM K a te Γ n R.rt) : SM K a (tRet te) Γ n N R := fun σ G H S z Dn e =>
  h σ G H S z _ fun w d m G1 H1 g1 t1 p1 => e.rt w d m G1 H1 g1 t1 p1
theorem sm_retN (h : R.rt .non n) : SM K a tRetN Γ n N R := fun σ G H S z Dn e => e.rt .non .non n G H (.refl z) .non h
theorem sm_if {tc : TT} (h : TvM K a tc Γ n fun b m => (b = true → SM K a tu Γ m N R) ∧ (b = false → SM K a tw Γ m N R)) : SM K a (tIfS tc tu tw) Γ n N R := fun σ G H S z Dn e =>
  h σ G H S z _ fun b m G1 H1 g1 p1 => by
    cases b with
    | true => exact p1.1 rfl σ G1 H1 (S.mono g1.g) g1.v Dn (e.trans g1)
    | false => exact p1.2 rfl σ G1 H1 (S.mono g1.g) g1.v Dn (e.trans g1)
theorem sm_seqI (h : ∀ N' : EnvD → Mm → Prop, (∀ Γ' m, SM K a tu Γ' m N R → N' Γ' m) → SM K a ts Γ n N' R) : SM K a (tSeq ts tu) Γ n N R := sm_seq (h _ fun _ _ z => z)
end
end DM

set_option linter.all false
set_option maxRecDepth 100000
set_option maxHeartbeats 4000000
namespace DM
open PySem PySem.Spec PyProof.Rows L2

/-! ### repr of data -/
def rRepr (K : PySem.W.Frag) : List V → Hp → VK → Prop := fun xs H Q => ∃ (b : Addr) (d : PyData), xs = [.ref b] ∧ Dp K H (.ref b) d ∧ d.showable = true ∧ d.hasDict = false ∧ d.depth ≤ 64 ∧ d.shown.length ≤ sizeLine ∧ Q (.str d.shown) H
theorem call_repr_data {X : Cx} (hg : X.A.guards = some []) (hu : X.A.units + 128 < cLine) : CallR X (.builtin "repr") (rRepr X.K) := by
  intro pins s σ H xs us Q I r h
  obtain ⟨b, d, rfl, hd, hs, hn, hdp, hsz, q⟩ := h
  obtain ⟨u, rfl, e⟩ := vals1 r
  obtain ⟨as, r1⟩ := Dp.reads I d _ u hd e
  cases e
  refine repr_of_reads' r1 hs (PyData.noDict_hsm hn) hg (by omega) (fun _ _ z => z) (fun h' u tk hk => ?_) hsz
  exact ⟨.str d.shown, H, I.kept hk, ⟨_, rfl⟩, q⟩

/-! ### defs that may ask repr: nothing is being shown around them -/
structure FnG (P : Program) (w : World) (K : PySem.W.Frag) (mg : Str → Option Value) (base : Heap) (CX : CXT) (k : Nat) (f : Addr) (fd : FuncData) (ps : List Str) (sp : Sp) : Prop where
  len : ∀ vs H Q E, sp vs H Q E → vs.length = ps.length
  run : ∀ (A : Around) (out : List Env) (s : Shared) (H : Hp) (ar : Args) (us : List Value) (vs : List V) (Q : VK) (E : XK), Room k A → A.guards = some [] → Env0 P w K mg base A out s H → BindsTo s fd ar (ps.zip us) → Vals vs us → sp vs H Q E →
    codeAny (model P w) A (.call (.ref f) ar) (CR CX out P w H s Q E) s
section
variable {P : Program} {w : World} {K : PySem.W.Frag} {mg : Str → Option Value} {base : Heap}
/-- such a def by its body, as a term of rules and its reading -/
theorem okG {x q : Str} {st : Stmt} {f : Addr} {fd : FuncData} {N ps : List Str} {k : Nat} {sp : Sp} (F : Fun K x q st f fd) (S : FnScope N ps (defScope st)) (len : ∀ vs H Q E, sp vs H Q E → vs.length = ps.length)
    (body : ∀ (cd : Value) (A : Around) (out : List Env) (s : Shared) (H : Hp) (vs : List V) (Q : VK) (E : XK), Room k (A.deeper (envOfC q (defScope st) s.heap.objs.size f cd)) → A.guards = some [] → sp vs H Q E →
      ∃ t, PSs (cxOf CX0 P w K mg base N q (defScope st) f cd A out s H E).nox (defBody st) t ∧ t { nx := fun _ H' => Q .non H', rt := Q } (start N vs) H) : FnG P w K mg base CX0 (k + 1) f fd ps sp := by
  obtain ⟨_, _, _, _, _, _, cd, _, _, rfl, at_f, code⟩ := F.ex
  constructor
  · exact len
  intro A out s H ar us vs Q E room calm e0 bind vals want
  have old : ∀ b o, base.get? b = some o → s.heap.get? b = some o := fun b o e => (e0.bs b o e).1
  have inK := e0.mod.kin.keeps old
  have slots : ∀ y ∈ ps.zip us, (defScope st).names.lookup y.1 = some .local ∨ ((defScope st).names.lookup y.1 = some .cell ∧ ((cellsFrom (s.heap.objs.size + 1) (defScope st).names []).lookup y.1).isSome = true) := by
    rintro ⟨y, v⟩ hy
    exact (S.par y (List.of_mem_zip hy).1).elim .inl fun c => .inr ⟨c, PySem.W.cellsFrom_some _ _ _ (.inl c)⟩
  refine codeAny_call_function room.depth (inK _ _ at_f) rfl S.co S.gen rfl (PySem.W.codeRec_of inK code) (bind _ _ _ _ (wpAny_newFunctionEnv_cells S.kind slots ?_))
  rintro env rfl s1 made
  refine ⟨(e0.mod.nolimit.keeps old).keeps made.toInCall.keep, codeAny_func ?_⟩
  obtain ⟨t, rules, reading⟩ := body cd A out s H vs Q E (room.deeper _) calm want
  have inv := inv_start (CX := CX0) (E := E) S room.hd e0 (len _ _ _ _ want) vals made
  refine wpAny_mono (rules.nox.run [] s1 (start N vs) H _ inv reading) ?_ fun _ _ z => z
  intro fl s2 z
  match fl, z with
  | .ret u, ⟨v, _, H2, J, rel, q⟩ => exact ⟨v, H2, J.os, J.bare, J.base, J.hok, rel, q⟩
  | .next, ⟨_, H2, J, q⟩ => exact ⟨V.non, H2, J.os, J.bare, J.base, J.hok, rfl, q⟩
  | .brk, ⟨_, _, _, q⟩ => exact q.elim
  | .cont, ⟨_, _, _, q⟩ => exact q.elim
end
section
variable {X : Cx} {k : Nat} {f : Addr} {fd : FuncData} {ps : List Str} {sp : Sp} {x : Str} {p pos : Pos} {e : Expr} {es : List Expr} {t : TA}
/-- f(e, ..), every parameter given -/
theorem pe_callG (F : FnG X.prog X.w X.K X.mg X.base CX0 k f fd ps sp) (room : Room k X.A) (calm : X.A.guards = some []) (hg : Gl X x) (hm : X.mg x = some (.ref f)) (hk : PySem.W.keepIn X.K (.ref f) = true) (hb : Binds X.K fd ps [])
    (ha : PA X (e :: es) t) (hdb : (x == ("__debug__" : Str)) = false := by decide) (he : starEach (e :: es) X.env = (false, eval e X.env) :: starEach es X.env := by rfl) (hpl : (backTo pos (starEach es X.env)).any (·.1) = false := by rfl) :
    PE X (.Call (.Name x p) (e :: es) [] pos) (tCall sp [] E0 t) := by
  constructor
  intro pins s σ H Q I reading
  refine wpAny_Call_Name_kw (ld_glob I hg hm (PySem.W.callWith_K (h₀ := X.base) I.ok.mod.kin hk (thn (ha.run pos pins s σ H _ I reading) ?_) he hpl) hdb)
  rintro us s1 ⟨vs, H1, I1, vals, want⟩
  refine ⟨I1.kIn, ?_⟩
  rw [List.append_nil] at want
  have bind : BindsTo s1 fd ⟨us, []⟩ (ps.zip us) := by
    have := hb s1 us I1.kIn (by rw [List.append_nil, ← vals.length]; exact F.len _ _ _ _ want)
    rwa [List.append_nil] at this
  refine wpAny_call (codeAny_mono (F.run X.A X.stack s1 H1 _ _ _ Q E0 room calm I1.env0 bind vals want) ?_)
  intro r s2 z
  match r, z with
  | .error _, z => exact z.elim
  | .ok (.ret _), z => exact I1.after z
end
/-- f(k = v, ..): keywords alone -/
theorem pe_callN0 {X : Cx} {CX : CXT} {k : Nat} {f : Addr} {fd : FuncData} {ps ks : List Str} {sp : Sp} {E : XK} {x : Str} {p pos : Pos} {kws : List Keyword} {tk : TA} {g : List Value → List Value → List Value} {gV : List V → List V → List V}
    (F : FnOk X.prog X.w X.K X.mg X.base CX k f fd ps sp) (hr : Room k X.A) (hg : Gl X x) (hm : X.mg x = some (.ref f)) (hk : PySem.W.keepIn X.K (.ref f) = true) (hb : KBn X.K fd ps 0 ks g gV) (hx : Passes CX X E)
    (hkw : PK X kws tk) (hall : (backToKw pos (keywordEach kws X.env)).all (·.1.isSome) = true := by rfl) (hks : (backToKw pos (keywordEach kws X.env)).filterMap (·.1) = ks := by rfl)
    (hdb : (x == ("__debug__" : Str)) = false := by decide)
    (hpl : ((backTo pos (starEach [] X.env)).any (·.1) || (backToKw pos (keywordEach kws X.env)).any (·.1.isNone)) = false := by rfl) :
    PE X (.Call (.Name x p) [] kws pos) (tCallN 0 ks.length sp gV E tNil tk) := by
  refine ⟨fun pins s σ H Q I h => ?_⟩
  refine wpAny_Call_Name_kw (ld_glob I hg hm ?_ hdb)
  refine PySem.W.callWith_KW0 (h₀ := X.base) I.ok.mod.kin hk hall ?_ hpl
  refine thn (hkw.run pos pins s σ H _ I h) fun ws s2 ⟨zs, H2, I2, rz, l1, l2, q2⟩ => ⟨I2.kIn, ?_⟩
  rw [hks]
  exact run_fnN (us := []) (vs := []) F hr hb hx I2 .nil rz rfl l2 q2

/-! ### keywords put into their places -/
def permV (ix : List Nat) (xs : List V) : List V := ix.map fun i => xs.getD i .non
def permU (ix : List Nat) (xs : List Value) : List Value := ix.map fun i => xs.getD i .none
def permD (ix : List Nat) (xs : List D) : List D := ix.map fun i => xs.getD i .non
theorem vals_getD {vs : List V} {us : List Value} (r : Vals vs us) (i : Nat) : RelV (vs.getD i .non) (us.getD i .none) := by
  induction r generalizing i with
  | nil => simp; rfl
  | cons h _ ih => cases i with | zero => simpa using h | succ i => simpa using ih i
theorem perm_rel {ix : List Nat} {vs : List V} {us : List Value} (r : Vals vs us) : Vals (permV ix vs) (permU ix us) := by
  unfold permV permU
  induction ix with
  | nil => exact .nil
  | cons i ix ih => exact .cons (vals_getD r i) ih
theorem atL_getD {K : PySem.W.Frag} {G : Hp} {vs : List V} : ∀ {ds : List D} (i : Nat), AtL K G vs ds → At K G (vs.getD i .non) (ds.getD i .non) := by
  induction vs with
  | nil => intro ds i h; cases h; simp; exact .non
  | cons v vs ih => intro ds i h; cases h with | cons a l => cases i with | zero => simpa using a | succ i => simpa using ih i l
theorem perm_at {K : PySem.W.Frag} {G : Hp} {ix : List Nat} {vs : List V} {ds : List D} (h : AtL K G vs ds) : AtL K G (permV ix vs) (permD ix ds) := by
  unfold permV permD
  induction ix with
  | nil => exact .nil
  | cons i ix ih => exact .cons (atL_getD i h) ih
theorem kbn {K : PySem.W.Frag} {x qual : Str} {st : Stmt} {f : Addr} {fd : FuncData} {ps ks : List Str} {n : Nat} (ix : List Nat) (F : Fun K x qual st f fd)
    (h : ∀ (kV doc pm : Value) (an : Option Addr) (cdv ct : Value) (us ws : List Value), us.length = n → ws.length = ks.length → bindArgs (PySem.W.fnOf x qual (defArgs st) (defBody st) (defScope st) .none kV doc pm an cdv ct) ⟨us, ks.zip ws⟩ = pure (ps.zip (permU ix (us ++ ws)))) :
    KBn K fd ps n ks (fun us ws => permU ix (us ++ ws)) (fun vs zs => permV ix (vs ++ zs)) := by
  obtain ⟨oc, od, kV, doc, pm, an, cdv, ct, osl, rfl, lk, hcd⟩ := F.ex
  exact ⟨fun s us ws _ h1 h2 => .of_eq (h kV doc pm an cdv ct us ws h1 h2), fun r rz => perm_rel (r.append rz)⟩

/-! ### promises on data -/
/-- pure: P tells, of the arguments, what must hold for the answer -/
def spP (K : PySem.W.Frag) (P : List D → (D → Prop) → Prop) : Sp := fun vs H Q _ => ∃ G ds Φ, Ext G H ∧ AtL K G vs ds ∧ P ds Φ ∧ ∀ v d G' H', PG G H G' H' → At K G' v d → Φ d → Q v H'
/-- with the drawing list ahead -/
def spV (K : PySem.W.Frag) (P : List D → Nat → (D → Nat → Prop) → Prop) : Sp := fun vs H Q _ => ∃ G b us n ds Φ, vs = .ref b :: us ∧ Iv0 K (CV b) ⟨n, []⟩ G H ∧ AtL K G us ds ∧ P ds n Φ ∧
  ∀ v d m G' H', Grow (CV b) ⟨n, []⟩ G H ⟨m, []⟩ G' H' → Iv0 K (CV b) ⟨m, []⟩ G' H' → At K G' v d → Φ d m → Q v H'
/-- growth beside x -/
structure PX (x : Addr) (G H G' H' : Hp) : Prop where
  g : Ext G G'
  h : ∀ b o, b ≠ x → H b = some o → H' b = some o
  i : Ext G' H'
  n : ∀ b, G' b ≠ none → G b ≠ none ∨ H b = none
/-- __init__ -/
def spI (K : PySem.W.Frag) (C : Addr) (P : List D → (List (Str × D) → Prop) → Prop) : Sp := fun vs H Q _ => ∃ G x dx us ds Φ, vs = .ref x :: us ∧ Ext G H ∧ G x = none ∧ H x = some (.ins C dx []) ∧ AtL K G us ds ∧ P ds Φ ∧
  ∀ fs gs G' H', PX x G H G' H' → G' x = none → H' x = some (.ins C dx fs) → AtF K G' fs gs → Φ gs → Q .non H'
theorem fe0 {n : Nat} {b : Addr} : Fe ⟨n, []⟩ b := fun _ h => (List.not_mem_nil h).elim
section
variable {K : PySem.W.Frag} {a : Cd} {Γ : EnvD} {n : Mm} {Φ : D → Mm → Prop} {ta tb te : TE} {t tk : TA} {E : XK}
theorem Grow.pg {k : Nat} {m : Mm} {G H G' H' : Hp} (v : Iv0 K C0 m G' H') (g : Grow C0 ⟨k, []⟩ G H m G' H') : PG G H G' H' :=
  ⟨g.g, fun b o e => g.h b o (by simp) fe0 e, v.i, fun b h => (g.w b h).elim .inl fun z => z.elim .inr fun z => absurd fe0 z⟩
theorem Grow.drop {a : Cd} {k : Nat} {m : Mm} {G H G' H' : Hp} (g : Grow a ⟨k, []⟩ G H m G' H') : Grow a ⟨k, []⟩ G H ⟨m.n, []⟩ G' H' := ⟨g.g, g.h, g.w, fun b h => absurd fe0 h⟩
theorem Iv0.drop {a : Cd} {m : Mm} {G H : Hp} (v : Iv0 K a m G H) : Iv0 K a ⟨m.n, []⟩ G H := ⟨v.i, fun b e => by
  obtain ⟨h1, h2, h3⟩ := v.vl b e
  exact ⟨h1, fe0, h3⟩, fun e h => (List.not_mem_nil h).elim, List.nodup_nil⟩
/-- a call that was handed the drawing list -/
theorem step_V {b : Addr} {m : Mm} {k : Nat} {G1 H1 G2 H2 : Hp} (hb : a.v = some b) (v : Iv K a m G1 H1) (g : Grow (CV b) ⟨m.n, []⟩ G1 H1 ⟨k, []⟩ G2 H2) (w : Iv0 K (CV b) ⟨k, []⟩ G2 H2) : Step K a m G1 H1 ⟨k, m.c⟩ G2 H2 := by
  have no : ∀ b, G1 b = none → H1 b ≠ none → G2 b = none := fun b hg hb => Classical.byContradiction fun z => by
    rcases g.w b z with z | z | z
    · exact z hg
    · exact hb z
    · exact z fe0
  refine v.mk' ⟨g.g, fun c o e _ h => g.h c o (by rw [hb] at e; exact e) fe0 h, fun c h => ?_, fun c h => .inl h⟩ ⟨w.i, fun c hc => ?_, fun e he => ?_, v.nd⟩
  · rcases g.w c h with z | z | z
    · exact .inl z
    · exact .inr (.inl z)
    · exact absurd fe0 z
  · rw [hb] at hc
    cases hc
    obtain ⟨h1, _, h3⟩ := w.vl b rfl
    exact ⟨h1, (v.vl b hb).2.1, h3⟩
  · obtain ⟨h1, h2⟩ := v.ow e he
    refine ⟨no _ h1 h2.some, h2.mono g.g fun hs => ?_⟩
    cases k : H1 e.1 with
    | none => exact absurd k hs
    | some o => exact g.h _ _ (by intro z; exact (v.vl b hb).2.1 e he (Option.some.inj z)) fe0 k
theorem em_callP {P : List D → (D → Prop) → Prop} (h : AvM K a t Γ n fun ds m => P ds fun d => Φ d m) : EvM K a (tCall (spP K P) [] E t) Γ n Φ := fun σ G H S v Q q =>
  h σ G H S v _ fun vs ds m G1 H1 g1 t1 p1 => by
    show spP K P (vs ++ []) H1 Q E
    rw [List.append_nil]
    exact ⟨G1, ds, _, g1.i, t1, p1, fun w d G2 H2 g2 t2 p2 => q w d m G2 H2 (g1.trans (g2.step g1.v)) t2 p2⟩
theorem em_callV {b : Addr} {P : List D → Nat → (D → Nat → Prop) → Prop} (hb : a.v = some b) (h : AvM K a t Γ n fun ds m => ∃ es, ds = .adr b :: es ∧ P es m.n fun d k => Φ d ⟨k, m.c⟩) : EvM K a (tCall (spV K P) [] E t) Γ n Φ := fun σ G H S v Q q =>
  h σ G H S v _ fun vs ds m G1 H1 g1 t1 ⟨es, e, p1⟩ => by
    show spV K P (vs ++ []) H1 Q E
    rw [List.append_nil]
    subst e
    cases t1 with
    | cons ha l =>
      cases ha
      refine ⟨G1, b, _, m.n, es, _, rfl, ⟨g1.i, fun c e => ?_, fun e h => (List.not_mem_nil h).elim, List.nodup_nil⟩, l, p1, fun w d k G2 H2 g2 w2 t2 p2 => q w d ⟨k, m.c⟩ G2 H2 (g1.trans (step_V hb g1.v g2 w2)) t2 p2⟩
      cases e
      obtain ⟨h1, h2, h3⟩ := g1.v.vl b hb
      exact ⟨h1, fe0, h3⟩
theorem em_callN {P : List D → (D → Prop) → Prop} {ix : List Nat} {j l : Nat} (h : AvM K a t Γ n fun ds m => AvM K a tk Γ m fun es o => ds.length = j ∧ es.length = l ∧ P (permD ix (ds ++ es)) fun d => Φ d o) :
    EvM K a (tCallN j l (spP K P) (fun vs zs => permV ix (vs ++ zs)) E t tk) Γ n Φ := fun σ G H S v Q q =>
  h σ G H S v _ fun vs ds m G1 H1 g1 t1 p1 => p1 σ G1 H1 (S.mono g1.g) g1.v _ fun zs es o G2 H2 g2 t2 ⟨l1, l2, p2⟩ =>
    ⟨by rw [t1.length]; exact l1, by rw [t2.length]; exact l2, G2, _, _, g2.i, perm_at ((t1.mono g2.g).append t2), p2, fun w d G3 H3 g3 t3 p3 => q w d o G3 H3 ((g1.trans g2).trans (g3.step g2.v)) t3 p3⟩
/-- C(..) -/
theorem make_core {C : Addr} {P : List D → (List (Str × D) → Prop) → Prop} {n : Mm} {G1 H1 : Hp} {us : List V} {ds : List D} (v1 : Iv K a n G1 H1) (t1 : AtL K G1 us ds) (p1 : P ds fun gs => Φ (.ins C gs) n) {Q : VK}
    (q : ∀ w d m G' H', Step K a n G1 H1 m G' H' → At K G' w d → Φ d m → Q w H') {x dx : Addr} (hx : H1 x = none) (hdx : H1 dx = none) (hne : dx ≠ x) :
    spI K C P (.ref x :: us) (upd (upd H1 dx (.own x)) x (.ins C dx [])) (fun v H2 => v = .non ∧ Q (.ref x) H2) E := by
  have ga := PG.hid (o := .own x) v1.i hdx
  have hx' : upd H1 dx (.own x) x = none := by rw [upd_ne (Ne.symm hne)]; exact hx
  have gb := PG.hid (o := .ins C dx []) ga.i hx'
  have gx : G1 x = none := gnone v1.i hx
  refine ⟨G1, x, dx, us, ds, _, rfl, gb.i, gx, upd_same, t1, p1, fun fs gs G' H' g' gx' hx2 tf pf => ⟨rfl, ?_⟩⟩
  -- the made one is told
  have k1 : ∀ b o, H1 b = some o → H' b = some o := fun b o e => g'.h b o (by intro z; cases z; rw [hx] at e; cases e) (gb.h b o (ga.h b o e))
  have gg : PG G1 H1 (upd G' x (.ins C dx fs)) H' := ⟨g'.g.trans (Ext.upd gx'), k1, fun b u e => by
      by_cases hb : b = x
      · subst hb; rw [upd_same] at e; cases e; exact hx2
      · rw [upd_ne hb] at e; exact g'.i b u e, fun b hb => by
    by_cases h2 : b = x
    · subst h2; exact .inr hx
    · rw [upd_ne h2] at hb
      rcases g'.n b hb with z | z
      · exact .inl z
      · refine .inr ?_
        cases e : H1 b with
        | none => rfl
        | some o => rw [gb.h b o (ga.h b o e)] at z; cases z⟩
  exact q _ _ n _ _ (gg.step v1) (.ins upd_same (tf.mono (Ext.upd gx'))) pf
theorem em_make {C : Addr} {P : List D → (List (Str × D) → Prop) → Prop} (h : AvM K a t Γ n fun ds m => P ds fun gs => Φ (.ins C gs) m) : EvM K a (tMake C (spI K C P) [] E t) Γ n Φ := fun σ G H S v Q q =>
  h σ G H S v _ fun vs ds m G1 H1 g1 t1 p1 x dx hx hdx hne => by
    rw [List.append_nil]
    exact make_core g1.v t1 p1 (fun w d l G2 H2 g2 t2 p2 => q w d l G2 H2 (g1.trans g2) t2 p2) hx hdx hne
end
end DM

set_option linter.all false
set_option maxRecDepth 100000
set_option maxHeartbeats 4000000
namespace DM
open PySem PySem.Spec PyProof.Rows L2

section
variable {K : PySem.W.Frag} {a : Cd} {Γ : EnvD} {n : Mm} {Φ : D → Mm → Prop} {ta tb te tl : TE} {t tk : TA} {E : XK} {N : EnvD → Mm → Prop} {R : Rs} {tu : TS} {d : D}
/-- a property that hands out a field -/
theorem em_prop {C : Addr} {f : Str} (h : EvM K a ta Γ n fun x m => ∃ gs d, x = .ins C gs ∧ gs.lookup f = some d ∧ Φ d m) : EvM K a (tProp C (getSp C f) [] E ta) Γ n Φ := fun σ G H S v Q q =>
  h σ G H S v _ fun x dd m G1 H1 g1 t1 ⟨gs, d, e, el, p⟩ => by
    subst e
    cases t1 with
    | ins hs l =>
      obtain ⟨w, e1, e2⟩ := l.look el
      exact ⟨_, _, _, rfl, g1.i _ _ hs, _, _, _, w, rfl, g1.i _ _ hs, e1, q w d m G1 H1 g1 e2 p⟩
/-- o.f, an attribute -/
theorem em_fld {C : Addr} {f : Str} (cl : Cls K C) (na : NoAttr K C f) (h : EvM K a ta Γ n fun x m => ∃ gs d, x = .ins C gs ∧ gs.lookup f = some d ∧ Φ d m) : EvM K a (tFld K ta f) Γ n Φ := fun σ G H S v Q q =>
  h σ G H S v _ fun x dd m G1 H1 g1 t1 ⟨gs, d, e, el, p⟩ => by
    subst e
    cases t1 with
    | ins hs l =>
      obtain ⟨w, e1, e2⟩ := l.look el
      exact ⟨_, C, _, _, w, rfl, g1.i _ _ hs, cl, na, e1, q w d m G1 H1 g1 e2 p⟩
/-! targets -/
def GM (K : PySem.W.Frag) (a : Cd) (g : TG) (d : D) (Γ : EnvD) (n : Mm) (N : EnvD → Mm → Prop) : Prop := ∀ σ G H v, AtS K G σ Γ → Iv K a n G H → At K G v d →
  ∀ Q : L2.St → Hp → Prop, (∀ σ' Γ' m G' H', Step K a n G H m G' H' → AtS K G' σ' Γ' → N Γ' m → Q σ' H') → g v σ H Q
def GsM (K : PySem.W.Frag) (a : Cd) (g : TGs) (ds : List D) (Γ : EnvD) (n : Mm) (N : EnvD → Mm → Prop) : Prop := ∀ σ G H vs, AtS K G σ Γ → Iv K a n G H → AtL K G vs ds →
  ∀ Q : L2.St → Hp → Prop, (∀ σ' Γ' m G' H', Step K a n G H m G' H' → AtS K G' σ' Γ' → N Γ' m → Q σ' H') → g vs σ H Q
theorem gm_name {i : Nat} (h : N (Γ.set i (some d)) n) : GM K a (gName i) d Γ n N := fun σ G H v S w t Q q => q _ _ n G H (.refl w) (S.set i t) h
theorem gsm_nil (h : N Γ n) : GsM K a gNil [] Γ n N := fun σ G H vs S w t Q q => by
  cases t
  exact ⟨rfl, q _ _ n G H (.refl w) S h⟩
theorem gsm_cons {g : TG} {gr : TGs} {ds : List D} (h : GM K a g d Γ n fun Γ' m => GsM K a gr ds Γ' m N) : GsM K a (gCons g gr) (d :: ds) Γ n N := fun σ G H vs S w t Q q => by
  cases t with
  | cons t0 tr =>
    exact ⟨_, _, rfl, h σ G H _ S w t0 _ fun σ1 Γ1 m G1 H1 g1 S1 p1 => p1 σ1 G1 H1 _ S1 g1.v (tr.mono g1.g) Q fun σ2 Γ2 m2 G2 H2 g2 S2 p2 => q σ2 Γ2 m2 G2 H2 (g1.trans g2) S2 p2⟩
theorem gm_tup {k : Nat} {gs : TGs} {ds : List D} (hl : ds.length = k) (h : GsM K a gs ds Γ n N) : GM K a (gTup K k gs) (.tup ds) Γ n N := fun σ G H v S w t Q q => by
  cases t with
  | tup hs l => exact ⟨_, _, rfl, hs.ext w.i, l.length.trans hl, h σ G H _ S w l Q q⟩
theorem ext_lst {G H : Hp} (z : Ext G H) {p : Addr} {vs : List V} (h : G p = some (.lst vs)) : SqL K H p vs := .inl (.inl (z _ _ h))
theorem gm_unl {k : Nat} {gs : TGs} {ds : List D} (hl : ds.length = k) (h : GsM K a gs ds Γ n N) : GM K a (gUnl K k gs) (.lst ds) Γ n N := fun σ G H v S w t Q q => by
  cases t with
  | lst hs l => exact ⟨_, _, rfl, ext_lst w.i hs, l.length.trans hl, h σ G H _ S w l Q q⟩
theorem sm_asgG {g : TG} (h : EvM K a te Γ n fun d m => GM K a g d Γ m N) : SM K a (tAsg te g) Γ n N R := fun σ G H S z Dn e =>
  h σ G H S z _ fun w d m G1 H1 g1 t1 p1 => p1 σ G1 H1 w (S.mono g1.g) g1.v t1 _ fun σ2 Γ2 m2 G2 H2 g2 S2 p2 => e.nx σ2 Γ2 m2 G2 H2 (g1.trans g2) S2 p2
theorem atl1 {G : Hp} {us : List V} {x : D} (h : AtL K G us [x]) : ∃ u, us = [u] ∧ At K G u x := by
  cases h with | cons a l => cases l; exact ⟨_, rfl, a⟩
theorem atl2 {G : Hp} {us : List V} {x y : D} (h : AtL K G us [x, y]) : ∃ u v, us = [u, v] ∧ At K G u x ∧ At K G v y := by
  cases h with | cons a l => obtain ⟨v, e, b⟩ := atl1 l; subst e; exact ⟨_, v, rfl, a, b⟩
theorem atl3 {G : Hp} {us : List V} {x y z : D} (h : AtL K G us [x, y, z]) : ∃ u v w, us = [u, v, w] ∧ At K G u x ∧ At K G v y ∧ At K G w z := by
  cases h with | cons a l => obtain ⟨v, w, e, b, c⟩ := atl2 l; subst e; exact ⟨_, v, w, rfl, a, b, c⟩
theorem sm_par {i j : Nat} (h : AvM K a t Γ n fun ds m => ∃ x y, ds = [x, y] ∧ N ((Γ.set i (some x)).set j (some y)) m) : SM K a (tPar i j t) Γ n N R := fun σ G H S z Dn e =>
  h σ G H S z _ fun vs ds m G1 H1 g1 t1 ⟨x, y, e0, p⟩ => by
    subst e0
    obtain ⟨u1, u2, e1, h1, h2⟩ := atl2 t1
    subst e1
    exact ⟨_, _, rfl, e.nx _ _ m G1 H1 g1 (((S.mono g1.g).set i h1).set j h2) p⟩
theorem sm_par3 {i j l : Nat} (h : AvM K a t Γ n fun ds m => ∃ x y z, ds = [x, y, z] ∧ N (((Γ.set i (some x)).set j (some y)).set l (some z)) m) : SM K a (tPar3 i j l t) Γ n N R := fun σ G H S z Dn e =>
  h σ G H S z _ fun vs ds m G1 H1 g1 t1 ⟨x, y, w, e0, p⟩ => by
    subst e0
    obtain ⟨u1, u2, u3, e1, h1, h2, h3⟩ := atl3 t1
    subst e1
    exact ⟨_, _, _, rfl, e.nx _ _ m G1 H1 g1 ((((S.mono g1.g).set i h1).set j h2).set l h3) p⟩
/-! loops -/
/-- what a turn leaves: the next word, the end by break -/
abbrev Rs.turn (R : Rs) (bk ct : EnvD → Mm → Prop) : Rs := ⟨R.rt, bk, ct⟩
/-- between two turns -/
def Tn (K : PySem.W.Frag) (a : Cd) (m : Mm) (G1 H1 : Hp) (I : EnvD → Mm → Prop) (σ' : L2.St) (H' : Hp) : Prop := ∃ Γ' l' G', Step K a m G1 H1 l' G' H' ∧ AtS K G' σ' Γ' ∧ I Γ' l'
theorem turn_end {m l' m2 : Mm} {G1 H1 G' H' G2 H2 : Hp} {I : EnvD → Mm → Prop} {Dn : Ends} (e : EnM K a m G1 H1 N R Dn) (g' : Step K a m G1 H1 l' G' H') (g2 : Step K a l' G' H' m2 G2 H2) :
    EnM K a m2 G2 H2 I (R.turn N I) { Dn with nx := Tn K a m G1 H1 I, ct := Tn K a m G1 H1 I, bk := Dn.nx } :=
  ⟨fun σ3 Γ3 m3 G3 H3 g3 S3 p3 => ⟨Γ3, m3, G3, (g'.trans g2).trans g3, S3, p3⟩, fun w d m3 G3 H3 g3 t3 p3 => e.rt w d m3 G3 H3 ((g'.trans g2).trans g3) t3 p3,
   fun σ3 Γ3 m3 G3 H3 g3 S3 p3 => e.nx σ3 Γ3 m3 G3 H3 ((g'.trans g2).trans g3) S3 p3, fun σ3 Γ3 m3 G3 H3 g3 S3 p3 => ⟨Γ3, m3, G3, (g'.trans g2).trans g3, S3, p3⟩⟩
theorem sm_forL {g : TG} (h : EvM K a tl Γ n fun d m => ∃ ds, d = .lst ds ∧ ∃ I : Nat → EnvD → Mm → Prop, I 0 Γ m ∧ (∀ i x Γ' l, ds[i]? = some x → I i Γ' l → GM K a g x Γ' l fun Γ2 l2 => SM K a tu Γ2 l2 (I (i + 1)) (R.turn N (I (i + 1)))) ∧ ∀ Γ' l, I ds.length Γ' l → N Γ' l) :
    SM K a (tFor (iList K tl) g tu) Γ n N R := fun σ G H S z Dn e =>
  h σ G H S z _ fun w d m G1 H1 g1 t1 ⟨ds, e0, I, p0, ps, pe⟩ => by
    subst e0
    have e1 := e.trans g1
    cases t1 with
    | @lst p vs _ hs l =>
    refine ⟨p, rfl, ⟨vs, ext_lst g1.i hs⟩, for_list (xs := vs) (fun i => Tn K a m G1 H1 (I i)) ⟨Γ, m, G1, .refl g1.v, S.mono g1.g, p0⟩ (fun i σ' H' _ ⟨_, _, G', g', _⟩ => ext_lst g'.i (g'.g _ _ hs)) ?_ ?_⟩
    · rintro i x σ' H' hx ⟨Γ', l', G', g', S', p'⟩
      obtain ⟨dx, e3, e2⟩ := l.get' hx
      refine ps i dx Γ' l' e3 p' σ' G' H' x S' g'.v (e2.mono g'.g) _ fun σ2 Γ2 m2 G2 H2 g2 S2 p2 => ?_
      exact p2 σ2 G2 H2 S2 g2.v _ (turn_end e1 g' g2)
    · rintro σ' H' ⟨Γ', l', G', g', S', p'⟩
      rw [l.length] at p'
      exact e1.nx σ' Γ' l' G' H' g' S' (pe Γ' l' p')
theorem sm_forT {g : TG} (h : EvM K a tl Γ n fun d m => ∃ ds, d = .tup ds ∧ ∃ I : Nat → EnvD → Mm → Prop, I 0 Γ m ∧ (∀ i x Γ' l, ds[i]? = some x → I i Γ' l → GM K a g x Γ' l fun Γ2 l2 => SM K a tu Γ2 l2 (I (i + 1)) (R.turn N (I (i + 1)))) ∧ ∀ Γ' l, I ds.length Γ' l → N Γ' l) :
    SM K a (tFor (iTup K tl) g tu) Γ n N R := fun σ G H S z Dn e =>
  h σ G H S z _ fun w d m G1 H1 g1 t1 ⟨ds, e0, I, p0, ps, pe⟩ => by
    subst e0
    have e1 := e.trans g1
    cases t1 with
    | @tup p vs _ hs l =>
    refine ⟨p, rfl, ⟨vs, hs.ext g1.i⟩, for_tup (xs := vs) (fun i => Tn K a m G1 H1 (I i)) ⟨Γ, m, G1, .refl g1.v, S.mono g1.g, p0⟩ (fun i σ' H' _ ⟨_, _, G', g', _⟩ => (hs.ext g'.g).ext g'.i) ?_ ?_⟩
    · rintro i x σ' H' hx ⟨Γ', l', G', g', S', p'⟩
      obtain ⟨dx, e3, e2⟩ := l.get' hx
      refine ps i dx Γ' l' e3 p' σ' G' H' x S' g'.v (e2.mono g'.g) _ fun σ2 Γ2 m2 G2 H2 g2 S2 p2 => ?_
      exact p2 σ2 G2 H2 S2 g2.v _ (turn_end e1 g' g2)
    · rintro σ' H' ⟨Γ', l', G', g', S', p'⟩
      rw [l.length] at p'
      exact e1.nx σ' Γ' l' G' H' g' S' (pe Γ' l' p')
theorem range_core {g : TG} {lo : Int} {c : Nat} {m : Mm} {G1 H1 : Hp} {σ : L2.St} {Dn : Ends} (e1 : EnM K a m G1 H1 N R Dn) (v1 : Iv K a m G1 H1) (S : AtS K G1 σ Γ) (I : Nat → EnvD → Mm → Prop) (p0 : I 0 Γ m)
    (ps : ∀ i Γ' l, i < c → I i Γ' l → GM K a g (.int (lo + i)) Γ' l fun Γ2 l2 => SM K a tu Γ2 l2 (I (i + 1)) (R.turn N (I (i + 1)))) (pe : ∀ Γ' l, I c Γ' l → N Γ' l) :
    ∃ W : Nat → Nat → L2.St → Hp → Prop, (∃ m, W 0 m σ H1) ∧ ∀ i m σ H, W i m σ H →
      ((Itr lo c).stop i H ∧ Dn.nx σ H) ∨ ((Itr lo c).go i H ∧ ∃ N : L2.St → Hp → Prop, (∀ σ' H', N σ' H' → ∃ m', m' < m ∧ W (i + 1) m' σ' H') ∧ ∀ x H', (Itr lo c).yld i H x H' → g x σ H' fun σ2 H2 => tu { Dn with nx := N, ct := N, bk := Dn.nx } σ2 H2) := by
  refine for_range (n := c) (fun i => Tn K a m G1 H1 (I i)) ⟨Γ, m, G1, .refl v1, S, p0⟩ ?_ ?_
  · rintro i σ' H' hi ⟨Γ', l', G', g', S', p'⟩
    refine ps i Γ' l' hi p' σ' G' H' _ S' g'.v (.int _) _ fun σ2 Γ2 m2 G2 H2 g2 S2 p2 => ?_
    exact p2 σ2 G2 H2 S2 g2.v _ (turn_end e1 g' g2)
  · rintro σ' H' ⟨Γ', l', G', g', S', p'⟩
    exact e1.nx σ' Γ' l' G' H' g' S' (pe Γ' l' p')
theorem sm_forR {g : TG} {c : Nat} (h : AvM K a t Γ n fun ds m => ds = [.int c] ∧ c ≤ 1000000 ∧ ∃ I : Nat → EnvD → Mm → Prop, I 0 Γ m ∧ (∀ i Γ' l, i < c → I i Γ' l → GM K a g (.int (0 + i)) Γ' l fun Γ2 l2 => SM K a tu Γ2 l2 (I (i + 1)) (R.turn N (I (i + 1)))) ∧ ∀ Γ' l, I c Γ' l → N Γ' l) :
    SM K a (tFor (iRng1 t) g tu) Γ n N R := fun σ G H S z Dn e =>
  h σ G H S z _ fun us ds m G1 H1 g1 t1 ⟨e0, hc, I, p0, ps, pe⟩ => by
    subst e0
    obtain ⟨u, e2, h1⟩ := atl1 t1
    subst e2; cases h1
    refine ⟨_, rfl, by omega, by omega, ?_⟩
    rw [Int.toNat_natCast]
    exact range_core (e.trans g1) g1.v (S.mono g1.g) I p0 ps pe
/-- range(lo, hi) -/
theorem sm_forR2 {g : TG} {lo hi : Int} (h : AvM K a t Γ n fun ds m => ds = [.int lo, .int hi] ∧ -1000000 ≤ lo ∧ lo ≤ hi ∧ hi ≤ 1000000 ∧ ∃ I : Nat → EnvD → Mm → Prop, I 0 Γ m ∧ (∀ i Γ' l, i < (hi - lo).toNat → I i Γ' l → GM K a g (.int (lo + i)) Γ' l fun Γ2 l2 => SM K a tu Γ2 l2 (I (i + 1)) (R.turn N (I (i + 1)))) ∧ ∀ Γ' l, I (hi - lo).toNat Γ' l → N Γ' l) :
    SM K a (tFor (iRng2 t) g tu) Γ n N R := fun σ G H S z Dn e =>
  h σ G H S z _ fun us ds m G1 H1 g1 t1 ⟨e0, b1, b2, b3, I, p0, ps, pe⟩ => by
    subst e0
    obtain ⟨u1, u2, e2, h1, h2⟩ := atl2 t1
    subst e2; cases h1; cases h2
    exact ⟨lo, hi, rfl, ⟨by omega, by omega, by omega, by omega⟩, range_core (e.trans g1) g1.v (S.mono g1.g) I p0 ps pe⟩
theorem sm_brk (h : R.bk Γ n) : SM K a tBreak Γ n N R := fun σ G H S z Dn e => e.bk σ Γ n G H (.refl z) S h
theorem sm_cont (h : R.ct Γ n) : SM K a tCont Γ n N R := fun σ G H S z Dn e => e.ct σ Γ n G H (.refl z) S h
/-! comprehensions -/
/-- between two turns: the list at Dd has what acc tells -/
def LcI (K : PySem.W.Frag) (a : Cd) (m : Mm) (G1 H1 : Hp) (Dd : Addr) (I : Nat → List D → Mm → Prop) (i : Nat) (H' : Hp) : Prop :=
  ∃ acc vs l G', Step K a m G1 H1 l G' H' ∧ G' Dd = none ∧ Fe l Dd ∧ H' Dd = some (.lst vs) ∧ AtL K G' vs acc ∧ vs.length ≤ i ∧ I i acc l
theorem inv_upd {l : Mm} {G H : Hp} {Dd : Addr} {o : HO} (v : Iv0 K a l G H) (gD : G Dd = none) (fD : Fe l Dd) (hD : some Dd ≠ a.v) : Iv0 K a l G (upd H Dd o) := by
  refine ⟨fun b u e => ?_, fun b hb => ?_, fun e he => ?_, v.nd⟩
  · rw [upd_ne (by intro z; subst z; rw [gD] at e; cases e)]; exact v.i b u e
  · obtain ⟨h1, h2, p, q, r, h3, h4⟩ := v.vl b hb
    exact ⟨h1, h2, p, q, r, by rw [upd_ne (by intro z; subst z; exact hD hb.symm)]; exact h3, h4⟩
  · obtain ⟨h1, h2⟩ := v.ow e he
    refine ⟨h1, h2.mono Ext.rfl' fun _ => upd_ne (fun z => fD e he z)⟩
/-- a thing that was made on the way changes -/
theorem step_upd {m l : Mm} {G1 H1 G H : Hp} {Dd : Addr} {o : HO} (v1 : Iv K a m G1 H1) (hf : H1 Dd = none) (g : Step K a m G1 H1 l G H) (gD : G Dd = none) (fD : Fe l Dd) (hD : some Dd ≠ a.v) : Step K a m G1 H1 l G (upd H Dd o) := by
  refine v1.mk' ⟨g.g, fun b u e hb hu => ?_, g.w, g.o⟩ (inv_upd g.v.toIv0 gD fD hD)
  rw [upd_ne (by intro z; subst z; rw [hf] at hu; cases hu)]
  exact g.h b u e hb hu
/-- it stays one's own, untold -/
theorem own_stays {l l2 : Mm} {G H G2 H2 : Hp} {Dd : Addr} {o : HO} (g : Step K a l G H l2 G2 H2) (gD : G Dd = none) (fD : Fe l Dd) (hD : some Dd ≠ a.v) (e : H Dd = some o) : G2 Dd = none ∧ Fe l2 Dd ∧ H2 Dd = some o := by
  refine ⟨Classical.byContradiction fun z => ?_, Classical.byContradiction fun z => ?_, g.h Dd o hD fD e⟩
  · rcases g.w Dd z with w | w | w
    · exact w gD
    · rw [e] at w; cases w
    · exact w fD
  · rcases g.o Dd z with w | w
    · exact w fD
    · rw [e] at w; cases w
theorem tm_yes {Φ : Bool → Mm → Prop} (h : Φ true n) : TvM K a tYes Γ n Φ := fun σ G H S v Q q => q true n G H (.refl v) h
/-- one turn of a comprehension, its names wiped ahead -/
theorem lc_turn {g : TG} {js : List Nat} {tt : TT} {m : Mm} {G1 H1 : Hp} {Dd : Addr} {I : Nat → List D → Mm → Prop} {i : Nat} {H0 H' G0 : Hp} {σ : L2.St} {x : V} {dx : D} (v1 : Iv K a m G1 H1) (hi : i < 100000) (hf : H1 Dd = none) (hD : some Dd ≠ a.v)
    {acc : List D} {vs : List V} {l : Mm} {G' : Hp} (g0 : Step K a m G1 H1 l G' H') (gD : G' Dd = none) (fD : Fe l Dd) (hDd : H' Dd = some (.lst vs)) (tl : AtL K G' vs acc) (el : vs.length ≤ i)
    (hg : ∀ Q : L2.St → Hp → Prop, (∀ σ2 Γ2, AtS K G' σ2 Γ2 → wipe σ2 js = wipe σ js → TvM K a tt Γ2 l (fun b l1 => (b = true → EvM K a te Γ2 l1 fun y l2 => I (i + 1) (acc ++ [y]) l2) ∧ (b = false → I (i + 1) acc l1)) → Q σ2 H') → g x (wipe σ js) H' Q) :
    g x (wipe σ js) H' fun σ2 H2 => wipe σ2 js = wipe σ js ∧ tt σ2 H2 fun b H3 => if b = true then te σ2 H3 fun y H4 => ∃ acc, H4 Dd = some (.lst acc) ∧ acc.length < sizeLine ∧ LcI K a m G1 H1 Dd I (i + 1) (upd H4 Dd (.lst (acc ++ [y]))) else LcI K a m G1 H1 Dd I (i + 1) H3 := by
  refine hg _ fun σ2 Γ2 S2 hw ht => ⟨hw, ?_⟩
  refine ht σ2 G' H' S2 g0.v _ fun b l1 G2 H2 g2 p2 => ?_
  obtain ⟨d1, d2, d3⟩ := own_stays g2 gD fD hD hDd
  cases b with
  | false =>
    rw [if_neg (by decide)]
    exact ⟨acc, vs, l1, G2, g0.trans g2, d1, d2, d3, tl.mono g2.g, by omega, p2.2 rfl⟩
  | true =>
    rw [if_pos rfl]
    refine p2.1 rfl σ2 G2 H2 (S2.mono g2.g) g2.v _ fun y dy l2 G3 H3 g3 t3 p3 => ?_
    obtain ⟨e1, e2, e3⟩ := own_stays g3 d1 d2 hD d3
    exact ⟨vs, e3, Nat.lt_of_le_of_lt el (Nat.lt_of_lt_of_le hi (by decide)), acc ++ [dy], vs ++ [y], l2, G3, step_upd v1 hf ((g0.trans g2).trans g3) e1 e2 hD, e1, e2, upd_same, ((tl.mono g2.g).mono g3.g).append (.cons t3 .nil), by rw [List.length_append]; exact Nat.succ_le_succ el, p3⟩
theorem hg_name {j : Nat} {tt : TT} {l : Mm} {G' H' : Hp} {σ : L2.St} {x : V} {dx : D} {P : Bool → EnvD → Mm → Prop} (S : AtS K G' σ Γ) (hx : At K G' x dx) {C : EnvD → Prop} (ht : C ((Γ.set j none).set j (some dx))) :
    ∀ Q : L2.St → Hp → Prop, (∀ σ2 Γ2, AtS K G' σ2 Γ2 → wipe σ2 [j] = wipe σ [j] → C Γ2 → Q σ2 H') → gName j x (wipe σ [j]) H' Q := fun Q q => by
  refine q _ _ ((S.put j).set j hx) ?_ ht
  show (((σ.set j none).set j (some x)).set j none) = σ.set j none
  rw [List.set_set, List.set_set]
theorem hg_pair {i j : Nat} (hij : i ≠ j) {l : Mm} {G' H' : Hp} {σ : L2.St} {x : V} {d1 d2 : D} (i0 : Ext G' H') (S : AtS K G' σ Γ) (hx : At K G' x (.tup [d1, d2])) {C : EnvD → Prop} (ht : C ((((Γ.set j none).set i none).set i (some d1)).set j (some d2))) :
    ∀ Q : L2.St → Hp → Prop, (∀ σ2 Γ2, AtS K G' σ2 Γ2 → wipe σ2 [i, j] = wipe σ [i, j] → C Γ2 → Q σ2 H') → gTup K 2 (gCons (gName i) (gCons (gName j) gNil)) x (wipe σ [i, j]) H' Q := fun Q q => by
  cases hx with
  | tup hs l =>
    obtain ⟨u1, u2, e, t1, t2⟩ := atl2 l
    subst e
    refine ⟨_, _, rfl, hs.ext i0, rfl, _, _, rfl, _, _, rfl, rfl, q _ _ ((((S.put j).put i).set i t1).set j t2) ?_ ht⟩
    show ((((((σ.set j none).set i none).set i (some u1)).set j (some u2)).set j none).set i none) = (σ.set j none).set i none
    rw [List.set_set, List.set_set, List.set_comm _ _ hij.symm, List.set_set, List.set_comm _ _ hij, List.set_set]
theorem lc_start {m : Mm} {G1 H1 : Hp} {Dd : Addr} {I : Nat → List D → Mm → Prop} (v1 : Iv K a m G1 H1) (hf : H1 Dd = none) (p0 : I 0 [] m) : LcI K a m G1 H1 Dd I 0 (upd H1 Dd (.lst [])) := by
  have gD : G1 Dd = none := gnone v1.i hf
  refine ⟨[], [], m, G1, (PG.hid v1.i hf).step v1, gD, fun e he z => ?_, upd_same, .nil, Nat.le_refl _, p0⟩
  have := (v1.ow e he).2.some
  rw [z] at this
  exact this hf
theorem lc_end {m : Mm} {G1 H1 : Hp} {Dd : Addr} {I : Nat → List D → Mm → Prop} {c : Nat} {H' : Hp} (v1 : Iv K a m G1 H1) (hf : H1 Dd = none) (hD : some Dd ≠ a.v) (p : LcI K a m G1 H1 Dd I c H') {Q : VK}
    (q : ∀ w d m' G' H', Step K a m G1 H1 m' G' H' → At K G' w d → Φ d m' → Q w H') (k : ∀ acc l, acc.length ≤ c → I c acc l → Φ (.lst acc) l) : Q (.ref Dd) H' := by
  obtain ⟨acc, vs, l, G', g', gD, fD, hDd, tl, el, pi⟩ := p
  refine q _ _ l (upd G' Dd (.lst vs)) _ (v1.mk' ⟨g'.g.trans (Ext.upd gD), g'.h, fun b hb => ?_, g'.o⟩ ⟨fun b u e => ?_, fun b hb => ?_, fun e he => ?_, g'.v.nd⟩) (.lst upd_same (tl.mono (Ext.upd gD))) (k acc l (by rw [← tl.length]; exact el) pi)
  · by_cases h2 : b = Dd
    · subst h2; exact .inr (.inl hf)
    · rw [upd_ne h2] at hb; exact g'.w b hb
  · by_cases hb : b = Dd
    · subst hb; rw [upd_same] at e; cases e; exact hDd
    · rw [upd_ne hb] at e; exact g'.i b u e
  · obtain ⟨q1, q2⟩ := g'.v.vl b hb
    refine ⟨?_, q2⟩
    rw [upd_ne (by intro z; subst z; exact hD hb.symm)]; exact q1
  · obtain ⟨q1, q2⟩ := g'.v.ow e he
    exact ⟨by rw [upd_ne (fun z => fD e he z)]; exact q1, q2.mono (Ext.upd gD) fun _ => rfl⟩
theorem dne_of {G1 H1 : Hp} {m : Mm} {Dd : Addr} (v1 : Iv K a m G1 H1) (hf : H1 Dd = none) : some Dd ≠ a.v := by
  intro e
  obtain ⟨_, _, p, q, r, z, _⟩ := v1.vl Dd e.symm
  rw [hf] at z; cases z
/-! what is walked -/
def IsW (K : PySem.W.Frag) (J : It) (ds : List D) (G1 : Hp) : Prop := ∃ (Gd : Hp → Prop) (Y : Nat → Hp → V → Hp → Prop), Walk J ds.length Gd Y ∧ (∀ H, Ext G1 H → Gd H) ∧
  ∀ i H x H' G, i < ds.length → Ext G1 G → Ext G H → Y i H x H' → ∃ G' d, PG G H G' H' ∧ ds[i]? = some d ∧ At K G' x d
def WkM (K : PySem.W.Frag) (a : Cd) (wi : TI) (Γ : EnvD) (n : Mm) (Φ : List D → Mm → Prop) : Prop := ∀ σ G H, AtS K G σ Γ → Iv K a n G H → ∀ R : It → Hp → Prop, (∀ J ds m G1 H1, Step K a n G H m G1 H1 → IsW K J ds G1 → Φ ds m → R J H1) → wi σ H R
theorem sm_for {wi : TI} {g : TG} (h : WkM K a wi Γ n fun ds m => ∃ I : Nat → EnvD → Mm → Prop, I 0 Γ m ∧ (∀ i x Γ' l, ds[i]? = some x → I i Γ' l → GM K a g x Γ' l fun Γ2 l2 => SM K a tu Γ2 l2 (I (i + 1)) (R.turn N (I (i + 1)))) ∧ ∀ Γ' l, I ds.length Γ' l → N Γ' l) :
    SM K a (tFor wi g tu) Γ n N R := fun σ G H S z Dn e =>
  h σ G H S z _ fun J ds m G1 H1 g1 ⟨Gd, Y, w, hG, hY⟩ ⟨I, p0, ps, pe⟩ => by
    have e1 := e.trans g1
    refine for_it w (fun i => Tn K a m G1 H1 (I i)) ⟨Γ, m, G1, .refl g1.v, S.mono g1.g, p0⟩ (fun i σ' H' _ ⟨_, _, G', g', _⟩ => hG _ (g'.g.trans g'.i)) ?_ ?_
    · rintro i x σ' H' H2 hi ⟨Γ', l', G', g', S', p'⟩ y
      obtain ⟨G2, d, pg, ed, td⟩ := hY i H' x H2 G' hi g'.g g'.i y
      have s2 := g'.trans (pg.step g'.v)
      refine ps i d Γ' l' ed p' σ' G2 H2 x (S'.mono pg.g) s2.v td _ fun σ3 Γ3 m3 G3 H3 g3 S3 p3 => ?_
      exact p3 σ3 G3 H3 S3 g3.v _ (turn_end e1 s2 g3)
    · rintro σ' H' ⟨Γ', l', G', g', S', p'⟩
      exact e1.nx σ' Γ' l' G' H' g' S' (pe Γ' l' p')
theorem em_lc {wi : TI} {tt : TT} {j : Nat} (h : WkM K a wi Γ n fun ds m => ds.length ≤ 100000 ∧ ∃ I : Nat → List D → Mm → Prop, I 0 [] m ∧
      (∀ i x acc l, ds[i]? = some x → I i acc l → TvM K a tt ((Γ.set j none).set j (some x)) l fun b l1 => (b = true → EvM K a te ((Γ.set j none).set j (some x)) l1 fun y l2 => I (i + 1) (acc ++ [y]) l2) ∧ (b = false → I (i + 1) acc l1)) ∧
      ∀ acc l, acc.length ≤ ds.length → I ds.length acc l → Φ (.lst acc) l) :
    EvM K a (tLc wi (gName j) tt te [j]) Γ n Φ := fun σ G H S z Q q =>
  h σ G H S z _ fun J ds m G1 H1 g1 ⟨Gd, Y, w, hG, hY⟩ ⟨hlen, I, p0, ps, pe⟩ => fun Dd hf => by
    have hD := dne_of g1.v hf
    refine lc_it w (LcI K a m G1 H1 Dd I) (lc_start g1.v hf p0) (fun i H' _ ⟨_, _, _, G', g', _⟩ => hG _ (g'.g.trans g'.i)) (fun i x H' H2 hi ⟨acc, vs, l, G', g', gD, fD, hDd, tl, el, pi⟩ y => ?_) fun H' p' => ?_
    · obtain ⟨G2, d, pg, ed, td⟩ := hY i H' x H2 G' hi g'.g g'.i y
      have s1 := pg.step g'.v
      obtain ⟨d1, d2, d3⟩ := own_stays s1 gD fD hD hDd
      exact lc_turn (G0 := G2) (H0 := H2) (dx := d) g1.v (by omega) hf hD (g'.trans s1) d1 d2 d3 (tl.mono pg.g) el (hg_name (l := l) (tt := tt) (P := fun _ _ _ => True) ((S.mono g1.g).mono (g'.g.trans pg.g)) td (C := fun Γ2 => TvM K a tt Γ2 l _) (ps i d acc l ed pi))
    · exact lc_end g1.v hf hD p' (fun w d m2 G2 H2 g2 t2 p2 => q w d m2 G2 H2 (g1.trans g2) t2 p2) pe
/-- over pairs -/
theorem em_lcP {wi : TI} {tt : TT} {i0 j : Nat} (hij : i0 ≠ j) (h : WkM K a wi Γ n fun ds m => ds.length ≤ 100000 ∧ ∃ I : Nat → List D → Mm → Prop, I 0 [] m ∧
      (∀ i x acc l, ds[i]? = some x → I i acc l → ∃ d1 d2, x = .tup [d1, d2] ∧ TvM K a tt ((((Γ.set j none).set i0 none).set i0 (some d1)).set j (some d2)) l fun b l1 => (b = true → EvM K a te ((((Γ.set j none).set i0 none).set i0 (some d1)).set j (some d2)) l1 fun y l2 => I (i + 1) (acc ++ [y]) l2) ∧ (b = false → I (i + 1) acc l1)) ∧
      ∀ acc l, acc.length ≤ ds.length → I ds.length acc l → Φ (.lst acc) l) :
    EvM K a (tLc wi (gTup K 2 (gCons (gName i0) (gCons (gName j) gNil))) tt te [i0, j]) Γ n Φ := fun σ G H S z Q q =>
  h σ G H S z _ fun J ds m G1 H1 g1 ⟨Gd, Y, w, hG, hY⟩ ⟨hlen, I, p0, ps, pe⟩ => fun Dd hf => by
    have hD := dne_of g1.v hf
    refine lc_it w (LcI K a m G1 H1 Dd I) (lc_start g1.v hf p0) (fun i H' _ ⟨_, _, _, G', g', _⟩ => hG _ (g'.g.trans g'.i)) (fun i x H' H2 hi ⟨acc, vs, l, G', g', gD, fD, hDd, tl, el, pi⟩ y => ?_) fun H' p' => ?_
    · obtain ⟨G2, d, pg, ed, td⟩ := hY i H' x H2 G' hi g'.g g'.i y
      have s1 := pg.step g'.v
      obtain ⟨d1, d2, d3⟩ := own_stays s1 gD fD hD hDd
      obtain ⟨u1, u2, ex, pp⟩ := ps i d acc l ed pi
      subst ex
      exact lc_turn (G0 := G2) (H0 := H2) (dx := .tup [u1, u2]) g1.v (by omega) hf hD (g'.trans s1) d1 d2 d3 (tl.mono pg.g) el (hg_pair hij (l := l) s1.i ((S.mono g1.g).mono (g'.g.trans pg.g)) td (C := fun Γ2 => TvM K a tt Γ2 l _) pp)
    · exact lc_end g1.v hf hD p' (fun w d m2 G2 H2 g2 t2 p2 => q w d m2 G2 H2 (g1.trans g2) t2 p2) pe
theorem lcR_core {tt : TT} {j c : Nat} {lo : Int} {m : Mm} {G1 H1 : Hp} {σ : L2.St} (S : AtS K G1 σ Γ) (v1 : Iv K a m G1 H1) (hc : c ≤ 100000) (I : Nat → List D → Mm → Prop) (p0 : I 0 [] m)
      (ps : ∀ i acc l, i < c → I i acc l → TvM K a tt ((Γ.set j none).set j (some (.int (lo + i)))) l fun b l1 => (b = true → EvM K a te ((Γ.set j none).set j (some (.int (lo + i)))) l1 fun y l2 => I (i + 1) (acc ++ [y]) l2) ∧ (b = false → I (i + 1) acc l1))
      (pe : ∀ acc l, acc.length ≤ c → I c acc l → Φ (.lst acc) l) {Q : VK} (q : ∀ w d m' G' H', Step K a m G1 H1 m' G' H' → At K G' w d → Φ d m' → Q w H') :
    ∀ D, H1 D = none → ∃ W : Nat → Nat → Hp → Prop, (∃ m, W 0 m (upd H1 D (.lst []))) ∧ ∀ i m H, W i m H →
  ((Itr lo c).stop i H ∧ Q (.ref D) H) ∨ ((Itr lo c).go i H ∧ ∃ Nx : Hp → Prop, (∀ H', Nx H' → ∃ m', m' < m ∧ W (i + 1) m' H') ∧ ∀ x H', (Itr lo c).yld i H x H' → gName j x (wipe σ [j]) H' fun σ2 H2 => wipe σ2 [j] = wipe σ [j] ∧ tt σ2 H2 fun b H3 =>
    if b = true then te σ2 H3 fun y H4 => ∃ acc, H4 D = some (.lst acc) ∧ acc.length < sizeLine ∧ Nx (upd H4 D (.lst (acc ++ [y]))) else Nx H3) := fun Dd hf => by
  have hD := dne_of v1 hf
  refine lc_range (n := c) (LcI K a m G1 H1 Dd I) (lc_start v1 hf p0) (fun i H' hi ⟨acc, vs, l, G', g', gD, fD, hDd, tl, el, pi⟩ => ?_) fun H' p' => ?_
  · exact lc_turn (G0 := G') (H0 := H') (dx := .int (lo + i)) v1 (by omega) hf hD g' gD fD hDd tl el (hg_name (l := l) (tt := tt) (P := fun _ _ _ => True) (S.mono g'.g) (.int _) (C := fun Γ2 => TvM K a tt Γ2 l _) (ps i acc l hi pi))
  · exact lc_end v1 hf hD p' q pe
theorem em_lcR {tt : TT} {j c : Nat} (h : AvM K a t Γ n fun ds m => ds = [.int c] ∧ c ≤ 100000 ∧ ∃ I : Nat → List D → Mm → Prop, I 0 [] m ∧
      (∀ i acc l, i < c → I i acc l → TvM K a tt ((Γ.set j none).set j (some (.int (0 + i)))) l fun b l1 => (b = true → EvM K a te ((Γ.set j none).set j (some (.int (0 + i)))) l1 fun y l2 => I (i + 1) (acc ++ [y]) l2) ∧ (b = false → I (i + 1) acc l1)) ∧
      ∀ acc l, acc.length ≤ c → I c acc l → Φ (.lst acc) l) :
    EvM K a (tLc (iRng1 t) (gName j) tt te [j]) Γ n Φ := fun σ G H S z Q q =>
  h σ G H S z _ fun us ds m G1 H1 g1 t1 ⟨e0, hc, I, p0, ps, pe⟩ => by
    subst e0
    obtain ⟨u, e2, h1⟩ := atl1 t1
    subst e2; cases h1
    refine ⟨_, rfl, by omega, by omega, ?_⟩
    rw [Int.toNat_natCast]
    exact lcR_core (S.mono g1.g) g1.v hc I p0 ps pe fun w d m2 G2 H2 g2 t2 p2 => q w d m2 G2 H2 (g1.trans g2) t2 p2
theorem em_lcR2 {tt : TT} {j : Nat} {lo hi : Int} (h : AvM K a t Γ n fun ds m => ds = [.int lo, .int hi] ∧ -1000000 ≤ lo ∧ lo ≤ hi ∧ hi ≤ lo + 100000 ∧ hi ≤ 1000000 ∧ ∃ I : Nat → List D → Mm → Prop, I 0 [] m ∧
      (∀ i acc l, i < (hi - lo).toNat → I i acc l → TvM K a tt ((Γ.set j none).set j (some (.int (lo + i)))) l fun b l1 => (b = true → EvM K a te ((Γ.set j none).set j (some (.int (lo + i)))) l1 fun y l2 => I (i + 1) (acc ++ [y]) l2) ∧ (b = false → I (i + 1) acc l1)) ∧
      ∀ acc l, acc.length ≤ (hi - lo).toNat → I (hi - lo).toNat acc l → Φ (.lst acc) l) :
    EvM K a (tLc (iRng2 t) (gName j) tt te [j]) Γ n Φ := fun σ G H S z Q q =>
  h σ G H S z _ fun us ds m G1 H1 g1 t1 ⟨e0, b1, b2, b3, b4, I, p0, ps, pe⟩ => by
    subst e0
    obtain ⟨u1, u2, e2, h1, h2⟩ := atl2 t1
    subst e2; cases h1; cases h2
    exact ⟨lo, hi, rfl, ⟨by omega, by omega, by omega, by omega⟩, lcR_core (S.mono g1.g) g1.v (by omega) I p0 ps pe fun w d m2 G2 H2 g2 t2 p2 => q w d m2 G2 H2 (g1.trans g2) t2 p2⟩
/-! the things that are walked -/
theorem wk_list {Φ : List D → Mm → Prop} (h : EvM K a tl Γ n fun d m => ∃ ds, d = .lst ds ∧ Φ ds m) : WkM K a (iList K tl) Γ n Φ := fun σ G H S z Q q =>
  h σ G H S z _ fun w d m G1 H1 g1 t1 ⟨ds, e0, p⟩ => by
    subst e0
    cases t1 with
    | @lst p0 vs _ hs l =>
    refine ⟨p0, rfl, ⟨vs, ext_lst g1.i hs⟩, q _ ds m G1 H1 g1 ⟨_, _, (by rw [← l.length]; exact walk_list (xs := vs)), fun H' e => ext_lst e hs, fun i H' x H2 G' hi e1 e2 y => ?_⟩ p⟩
    obtain ⟨ey, hx⟩ := y
    subst ey
    obtain ⟨dx, k1, k2⟩ := l.get' hx
    exact ⟨G', dx, PG.refl e2, k1, k2.mono e1⟩
theorem wk_tup {Φ : List D → Mm → Prop} (h : EvM K a tl Γ n fun d m => ∃ ds, d = .tup ds ∧ Φ ds m) : WkM K a (iTup K tl) Γ n Φ := fun σ G H S z Q q =>
  h σ G H S z _ fun w d m G1 H1 g1 t1 ⟨ds, e0, p⟩ => by
    subst e0
    cases t1 with
    | @tup p0 vs _ hs l =>
    refine ⟨p0, rfl, ⟨vs, hs.ext g1.i⟩, q _ ds m G1 H1 g1 ⟨_, _, (by rw [← l.length]; exact walk_tup (xs := vs)), fun H' e => hs.ext e, fun i H' x H2 G' hi e1 e2 y => ?_⟩ p⟩
    obtain ⟨ey, hx⟩ := y
    subst ey
    obtain ⟨dx, k1, k2⟩ := l.get' hx
    exact ⟨G', dx, PG.refl e2, k1, k2.mono e1⟩
def chrD (c : Nat) : D := .str ⟨#[c]⟩
theorem wk_str {Φ : List D → Mm → Prop} (h : EvM K a tl Γ n fun d m => ∃ z : Str, d = .str z ∧ Φ (z.cps.toList.map chrD) m) : WkM K a (iStr tl) Γ n Φ := fun σ G H S z Q q =>
  h σ G H S z _ fun w d m G1 H1 g1 t1 ⟨z, e0, p⟩ => by
    subst e0
    cases t1
    refine ⟨z, rfl, q _ _ m G1 H1 g1 ⟨_, _, (by rw [List.length_map, Array.length_toList]; exact walk_str (z := z)), fun H' e => trivial, fun i H' x H2 G' hi e1 e2 y => ?_⟩ p⟩
    obtain ⟨ey, c, hc, ex⟩ := y
    subst ey ex
    exact ⟨G', chrD c, PG.refl e2, by rw [List.getElem?_map, Array.getElem?_toList, hc]; rfl, .str _⟩
end
end DM

set_option linter.all false
set_option maxRecDepth 100000
set_option maxHeartbeats 4000000
namespace DM
open PySem PySem.Spec PyProof.Rows L2
section
variable {K : PySem.W.Frag}
mutual
def py : D → PyData
  | .non => .none | .bl b => .bool b | .int i => .int i | .str s => .str s | .adr _ => .none | .ty _ => .none | .scr _ => .none
  | .tup ds => .tuple (pyL ds) | .lst ds => .list (pyL ds) | .ins _ _ => .none | .dct _ => .none
def pyL : List D → List PyData
  | [] => [] | d :: ds => py d :: pyL ds
end
mutual
def pur : D → Bool
  | .non | .bl _ | .int _ | .str _ => true
  | .adr _ | .ins _ _ | .ty _ | .scr _ | .dct _ => false
  | .tup ds | .lst ds => purL ds
def purL : List D → Bool
  | [] => true | d :: ds => pur d && purL ds
end
mutual
theorem At.dp {G H : Hp} (i : Ext G H) : ∀ (d : D) {v : V}, At K G v d → pur d = true → Dp K H v (py d)
  | .non, _, h, _ => by cases h; exact .non
  | .bl b, _, h, _ => by cases h; exact .bl b
  | .int b, _, h, _ => by cases h; exact .int b
  | .str b, _, h, _ => by cases h; exact .str b
  | .adr b, _, _, p => by simp [pur] at p
  | .ty b, _, _, p => by simp [pur] at p
  | .scr b, _, _, p => by simp [pur] at p
  | .ins _ _, _, _, p => by simp [pur] at p
  | .dct _, _, _, p => by simp [pur] at p
  | .tup ds, _, h, p => by
    cases h with
    | tup hs l => exact .tup (hs.ext i) (AtL.dp i ds l (by simpa [pur] using p))
  | .lst ds, _, h, p => by
    cases h with
    | lst hs l => exact .lst (.inl (.inl (i _ _ hs))) (AtL.dp i ds l (by simpa [pur] using p))
theorem AtL.dp {G H : Hp} (i : Ext G H) : ∀ (ds : List D) {vs : List V}, AtL K G vs ds → purL ds = true → DpAll K H vs (pyL ds)
  | [], _, h, _ => by cases h; exact .nil
  | d :: ds, _, h, p => by
    cases h with
    | cons hd l =>
      have p' : pur d = true ∧ purL ds = true := by simpa [purL] using p
      exact .cons (At.dp i d hd p'.1) (AtL.dp i ds l p'.2)
end
end

section
variable {K : PySem.W.Frag} {a : Cd} {Γ : EnvD} {n : Mm} {Φ : D → Mm → Prop} {ta tb te tl : TE} {t tk : TA} {E : XK} {N : EnvD → Mm → Prop} {R : Rs} {tu : TS} {d : D}
/-! truth -/
def truD : D → Option Bool
  | .non => some false | .bl b => some b | .int i => some (i != 0)
  | .tup ds => some !ds.isEmpty | .lst ds => some !ds.isEmpty | .dct ds => some !ds.isEmpty | _ => none
theorem tm_tru {Φ : Bool → Mm → Prop} (h : EvM K a ta Γ n fun x m => ∃ b, truD x = some b ∧ Φ b m) : TvM K a (fun σ H Q => ta σ H fun x H' => ∃ k, TruV K x H' k ∧ Q k H') Γ n Φ := fun σ G H S v Q q =>
  h σ G H S v _ fun x dx m G1 H1 g1 t1 ⟨b, e, p⟩ => by
    refine ⟨b, ?_, q b m G1 H1 g1 p⟩
    cases t1 with
    | non => exact (Option.some.inj e).symm
    | bl c => exact (Option.some.inj e).symm
    | int c => exact (Option.some.inj e).symm
    | @tup p vs ds hs l =>
      refine .inr (.inl ⟨vs, hs.ext g1.i, ?_⟩)
      rw [← Option.some.inj e]
      cases l <;> rfl
    | @lst p vs ds hs l =>
      refine .inl ⟨vs, ext_lst g1.i hs, ?_⟩
      rw [← Option.some.inj e]
      cases l <;> rfl
    | @dct p vs ds hs l =>
      refine .inr (.inr ⟨vs, g1.i _ _ hs, ?_⟩)
      rw [← Option.some.inj e]
      cases l <;> rfl
    | _ => simp [truD] at e
theorem tm_truS {Φ : Bool → Mm → Prop} (h : EvM K a ta Γ n fun x m => ∃ s : Str, x = .str s ∧ s.length ≤ sizeLine ∧ Φ ((s.length : Int) != 0) m) : TvM K a (fun σ H Q => ta σ H fun x H' => ∃ k, TruV K x H' k ∧ Q k H') Γ n Φ := fun σ G H S v Q q =>
  h σ G H S v _ fun x dx m G1 H1 g1 t1 ⟨s, e, hs, p⟩ => by
    subst e; cases t1
    exact ⟨_, ⟨hs, rfl⟩, q _ m G1 H1 g1 p⟩
/-! isinstance against a built-in class -/
def tyD : D → Option String
  | .non => some "NoneType" | .bl _ => some "bool" | .int _ => some "int" | .str _ => some "str" | .tup _ => some "tuple" | .lst _ => some "list" | _ => none
theorem cm_isi {x : D} {T T' : String} {b : Bool} (hx : tyD x = some T) (hk : kitB T T' = some b) (hn : ∀ ds, x ≠ .tup ds) (k : Φ (.bl b) n) : CM K a (rIsi K) [x, .ty T'] n Φ := fun G H us l v Q q => by
  obtain ⟨u1, u2, e, h1, h2⟩ := atl2 l
  subst e; cases h2
  refine ⟨_, _, .type T, .type T', b, rfl, .ty T', .base ?_, kit_ty hk, q _ _ n G H (.refl v) (.bl b) k⟩
  cases h1 with
  | non => simp [tyD] at hx; subst hx; exact .non
  | bl c => simp [tyD] at hx; subst hx; exact .bl c
  | int c => simp [tyD] at hx; subst hx; exact .int c
  | str c => simp [tyD] at hx; subst hx; exact .str c
  | tup hs l => exact absurd rfl (hn _)
  | lst hs l => simp [tyD] at hx; subst hx; exact .lst (v.i _ _ hs)
  | _ => simp [tyD] at hx
/-- isinstance against an own class, of an instance of it -/
structure IsiC (K : PySem.W.Frag) (C : Addr) : Prop where
  cl : Cls K C
  ha : PySem.W.findIn K (.ref C) "__class__" = some (some (.builtin "object.__class__"))
  hn : PySem.W.specialIn K (.builtin "object.__class__") "__get__" = some (some (.builtin "getset_descriptor.__get__"))
  htk : PySem.W.takesIn K (.builtin "object.__class__") = some true
  hm : PySem.W.mroIn K C (.type "object") = some true
theorem cm_isiC {C : Addr} {gs : List (Str × D)} (T : IsiC K C) (k : Φ (.bl true) n) : CM K a (rIsi K) [.ins C gs, .adr C] n Φ := fun G H us l v Q q => by
  obtain ⟨u1, u2, e, h1, h2⟩ := atl2 l
  subst e; cases h2
  cases h1 with
  | ins hs l =>
    refine ⟨_, _, .ref C, .ref C, true, rfl, .own C, .base (.ins (v.i _ _ hs) T.cl T.ha T.hn T.htk T.hm), ?_, q _ _ n G H (.refl v) (.bl true) k⟩
    unfold PySem.W.kitOne
    simp
/-! operations -/
theorem rm_I0 {g : Int → Int → V} {i j : Int} {z : D} (hz : ∀ G, At K G (g i j) z) (k : Φ z n) : RM K a (rI0 g) (.int i) (.int j) n Φ := fun G H u v tu tv w Q q => by
  cases tu; cases tv
  exact ⟨_, _, rfl, rfl, q _ _ n G H (.refl w) (hz G) k⟩
theorem rm_I {C : Int → Int → Prop} {g : Int → Int → V} {i j : Int} {z : D} (hc : C i j) (hz : ∀ G, At K G (g i j) z) (k : Φ z n) : RM K a (rI C g) (.int i) (.int j) n Φ := fun G H u v tu tv w Q q => by
  cases tu; cases tv
  exact ⟨_, _, rfl, rfl, hc, q _ _ n G H (.refl w) (hz G) k⟩
theorem atI_of {vs : List V} {ds : List D} {G : Hp} (h : AtL K G vs ds) {i : Int} {x : D} (e : atI ds i = some x) : ∃ v, atI vs i = some v ∧ At K G v x := by
  unfold atI at e ⊢
  rw [h.length]
  cases q : ixN ds.length i with
  | none => rw [q] at e; cases e
  | some j =>
    rw [q] at e
    exact h.get e
theorem rm_ixT {ds : List D} {i : Int} {x : D} (h : atI ds i = some x) (k : Φ x n) : RM K a (rIxT K) (.tup ds) (.int i) n Φ := fun G H u v tu tv w Q q => by
  cases tv
  cases tu with
  | tup hs l =>
    obtain ⟨u, e, t⟩ := atI_of l h
    exact ⟨_, _, _, u, rfl, rfl, hs.ext w.i, e, q u x n G H (.refl w) t k⟩
theorem rm_ixL {ds : List D} {i : Int} {x : D} (h : atI ds i = some x) (k : Φ x n) : RM K a (rIxL K) (.lst ds) (.int i) n Φ := fun G H u v tu tv w Q q => by
  cases tv
  cases tu with
  | lst hs l =>
    obtain ⟨u, e, t⟩ := atI_of l h
    exact ⟨_, _, _, u, rfl, rfl, ext_lst w.i hs, e, q u x n G H (.refl w) t k⟩
theorem rm_eqD {x y : D} (hx : pur x = true) (hy : pur y = true) (sx : SeqAt.shaped (py x) = true) (sy : SeqAt.shaped (py y) = true) (k : Φ (.bl (PyData.eqv (py x) (py y))) n) : RM K a (rEqD K) x y n Φ := fun G H u v tu tv w Q q =>
  ⟨py x, py y, tu.dp w.i x hx, tv.dp w.i y hy, sx, sy, q _ _ n G H (.refl w) (.bl _) k⟩
theorem rm_neD {x y : D} (hx : pur x = true) (hy : pur y = true) (sx : SeqAt.shaped (py x) = true) (sy : SeqAt.shaped (py y) = true) (k : Φ (.bl (!PyData.eqv (py x) (py y))) n) : RM K a (rNeD K) x y n Φ := fun G H u v tu tv w Q q =>
  ⟨py x, py y, tu.dp w.i x hx, tv.dp w.i y hy, sx, sy, q _ _ n G H (.refl w) (.bl _) k⟩
theorem rm_inD {x : D} {ds : List D} (hx : pur x = true) (hy : pur (.lst ds) = true) (sx : SeqAt.shaped (py x) = true) (sy : SeqAt.shaped (py (.lst ds)) = true) (k : Φ (.bl ((pyL ds).any fun z => PyData.eqv z (py x))) n) : RM K a (rInD K) x (.lst ds) n Φ := fun G H u v tu tv i Q q =>
  ⟨py x, pyL ds, tu.dp i.i x hx, tv.dp i.i (.lst ds) hy, sx, sy, q _ _ n G H (.refl i) (.bl _) k⟩
theorem cm_repr {x : D} (hp : pur x = true) (hr : ∃ ds, x = .tup ds ∨ x = .lst ds) (hs : (py x).showable = true) (hn : (py x).hasDict = false) (hd : (py x).depth ≤ 64) (hl : (py x).shown.length ≤ sizeLine) (k : Φ (.str (py x).shown) n) : CM K a (rRepr K) [x] n Φ := fun G H us l i Q q => by
  obtain ⟨u1, e, h1⟩ := atl1 l
  subst e
  have dp := h1.dp i.i x hp
  obtain ⟨ds, hr | hr⟩ := hr
  · subst hr
    cases h1
    exact ⟨_, _, rfl, dp, hs, hn, hd, hl, q _ _ n G H (.refl i) (.str _) k⟩
  · subst hr
    cases h1
    exact ⟨_, _, rfl, dp, hs, hn, hd, hl, q _ _ n G H (.refl i) (.str _) k⟩
theorem rm_eqI {i j : Int} (k : Φ (.bl (decide (i = j))) n) : RM K a rEq (.int i) (.int j) n Φ := fun G H u v tu tv z Q q => by
  cases tu; cases tv
  refine ⟨rfl, ?_⟩
  have e : decide (V.int i = V.int j) = decide (i = j) := decide_eq_decide.mpr ⟨fun h => by injection h, fun h => by rw [h]⟩
  rw [e]
  exact q _ _ n G H (.refl z) (.bl _) k
theorem rm_neI {i j : Int} (k : Φ (.bl (!decide (i = j))) n) : RM K a rNe (.int i) (.int j) n Φ := fun G H u v tu tv z Q q => by
  cases tu; cases tv
  refine ⟨rfl, ?_⟩
  have e : decide (V.int i = V.int j) = decide (i = j) := decide_eq_decide.mpr ⟨fun h => by injection h, fun h => by rw [h]⟩
  rw [e]
  exact q _ _ n G H (.refl z) (.bl _) k
theorem rm_eqB {i j : Bool} (k : Φ (.bl (decide (i = j))) n) : RM K a rEq (.bl i) (.bl j) n Φ := fun G H u v tu tv z Q q => by
  cases tu; cases tv
  refine ⟨rfl, ?_⟩
  have e : decide (V.bl i = V.bl j) = decide (i = j) := decide_eq_decide.mpr ⟨fun h => by injection h, fun h => by rw [h]⟩
  rw [e]
  exact q _ _ n G H (.refl z) (.bl _) k
theorem rm_neB {i j : Bool} (k : Φ (.bl (!decide (i = j))) n) : RM K a rNe (.bl i) (.bl j) n Φ := fun G H u v tu tv z Q q => by
  cases tu; cases tv
  refine ⟨rfl, ?_⟩
  have e : decide (V.bl i = V.bl j) = decide (i = j) := decide_eq_decide.mpr ⟨fun h => by injection h, fun h => by rw [h]⟩
  rw [e]
  exact q _ _ n G H (.refl z) (.bl _) k
theorem rm_eqS {i j : Str} (k : Φ (.bl (decide (i = j))) n) : RM K a rEq (.str i) (.str j) n Φ := fun G H u v tu tv z Q q => by
  cases tu; cases tv
  refine ⟨rfl, ?_⟩
  have e : decide (V.str i = V.str j) = decide (i = j) := decide_eq_decide.mpr ⟨fun h => by injection h, fun h => by rw [h]⟩
  rw [e]
  exact q _ _ n G H (.refl z) (.bl _) k
theorem rm_neS {i j : Str} (k : Φ (.bl (!decide (i = j))) n) : RM K a rNe (.str i) (.str j) n Φ := fun G H u v tu tv z Q q => by
  cases tu; cases tv
  refine ⟨rfl, ?_⟩
  have e : decide (V.str i = V.str j) = decide (i = j) := decide_eq_decide.mpr ⟨fun h => by injection h, fun h => by rw [h]⟩
  rw [e]
  exact q _ _ n G H (.refl z) (.bl _) k
theorem rm_lt {g : Int → Int → Bool} {i j : Int} (k : Φ (.bl (g i j)) n) : RM K a (rI0 fun i j => .bl (g i j)) (.int i) (.int j) n Φ := rm_I0 (fun _ => .bl _) k
theorem rm_add {i j : Int} (k : Φ (.int (i + j)) n) : RM K a (rI0 fun i j => .int (i + j)) (.int i) (.int j) n Φ := rm_I0 (fun _ => .int _) k
theorem rm_sub {i j : Int} (k : Φ (.int (i - j)) n) : RM K a (rI0 fun i j => .int (i - j)) (.int i) (.int j) n Φ := rm_I0 (fun _ => .int _) k
theorem rm_C {C : Int → Int → Prop} {g : Int → Int → Int} {i j : Int} (hc : C i j) (k : Φ (.int (g i j)) n) : RM K a (rI C fun i j => .int (g i j)) (.int i) (.int j) n Φ := rm_I hc (fun _ => .int _) k
theorem rm_addS {i j : Str} (hl : i.length + j.length ≤ sizeLine) (k : Φ (.str (i ++ j)) n) : RM K a (fun x y H Q => ∃ i j, x = .str i ∧ y = .str j ∧ i.length + j.length ≤ sizeLine ∧ Q (.str (i ++ j)) H) (.str i) (.str j) n Φ := fun G H u v tu tv z Q q => by
  cases tu; cases tv
  exact ⟨i, j, rfl, rfl, hl, q _ _ n G H (.refl z) (.str _) k⟩
theorem cm_neg {i : Int} (k : Φ (.int (-i)) n) : CM K a (fun us H Q => ∃ u, us = [u] ∧ rU (fun i => .int (-i)) u H Q) [.int i] n Φ := fun G H us l z Q q => by
  obtain ⟨u, e, h⟩ := atl1 l
  subst e; cases h
  exact ⟨_, rfl, i, rfl, q _ _ n G H (.refl z) (.int _) k⟩
theorem atl_ints {G : Hp} : ∀ {is : List Int} {us : List V}, AtL K G us (is.map D.int) → us = is.map V.int
  | [], us, h => by cases h; rfl
  | i :: is, us, h => by
    cases h with
    | cons a l => cases a; rw [atl_ints l]; rfl
theorem atl_strs {G : Hp} : ∀ {is : List Str} {us : List V}, AtL K G us (is.map D.str) → us = is.map V.str
  | [], us, h => by cases h; rfl
  | i :: is, us, h => by
    cases h with
    | cons a l => cases a; rw [atl_strs l]; rfl
theorem inV_ints (i : Int) : ∀ is : List Int, inV (V.int i) (is.map V.int) = is.any fun j => decide (j = i)
  | [] => rfl
  | j :: is => by
    have ih := inV_ints i is
    unfold inV at ih ⊢
    rw [List.map_cons, List.any_cons, List.any_cons, ih]
    congr 1
theorem flat_ints : ∀ is : List Int, (is.map V.int).all flatV = true
  | [] => rfl
  | j :: is => by rw [List.map_cons, List.all_cons, flat_ints is]; rfl
theorem rm_in {neg : Bool} {i : Int} (is : List Int) {ds : List D} (e : ds = is.map D.int) (k : Φ (.bl (if neg then !(is.any fun j => decide (j = i)) else is.any fun j => decide (j = i))) n) : RM K a (rIn K neg) (.int i) (.tup ds) n Φ := fun G H u v tu tv z Q q => by
  subst e
  cases tu
  cases tv with
  | tup hs l =>
    have eu := atl_ints l
    subst eu
    refine ⟨_, _, rfl, .inr (hs.ext z.i), rfl, flat_ints is, ?_⟩
    rw [inV_ints]
    exact q _ _ n G H (.refl z) (.bl _) k
theorem cm_len {x : D} {ds : List D} (hx : x = .lst ds ∨ x = .tup ds) (k : Φ (.int ds.length) n) : CM K a (fun xs H Q => ∃ p ys, xs = [.ref p] ∧ (SqL K H p ys ∨ SqT K H p ys) ∧ Q (.int ys.length) H) [x] n Φ := fun G H us l z Q q => by
  obtain ⟨u, e, h⟩ := atl1 l
  subst e
  rcases hx with hx | hx
  · subst hx
    cases h with
    | lst hs l => exact ⟨_, _, rfl, .inl (ext_lst z.i hs), by rw [l.length]; exact q _ _ n G H (.refl z) (.int _) k⟩
  · subst hx
    cases h with
    | tup hs l => exact ⟨_, _, rfl, .inr (hs.ext z.i), by rw [l.length]; exact q _ _ n G H (.refl z) (.int _) k⟩
theorem cm_lenStr {s : Str} (hs : s.length ≤ sizeLine) (k : Φ (.int s.length) n) : CM K a (fun xs H Q => ∃ z, xs = [.str z] ∧ z.length ≤ sizeLine ∧ Q (.int z.length) H) [.str s] n Φ := fun G H us l z Q q => by
  obtain ⟨u, e, h⟩ := atl1 l
  subst e; cases h
  exact ⟨s, rfl, hs, q _ _ n G H (.refl z) (.int _) k⟩
theorem cm_int1 {i : Int} (k : Φ (.int i) n) : CM K a (fun xs H Q => (∃ i, xs = [.int i] ∧ Q (.int i) H) ∨ ∃ k, xs = [.bl k] ∧ Q (.int (if k then 1 else 0)) H) [.int i] n Φ := fun G H us l z Q q => by
  obtain ⟨u, e, h⟩ := atl1 l
  subst e; cases h
  exact .inl ⟨i, rfl, q _ _ n G H (.refl z) (.int _) k⟩
theorem cm_intB {b : Bool} (k : Φ (.int (if b then 1 else 0)) n) : CM K a (fun xs H Q => (∃ i, xs = [.int i] ∧ Q (.int i) H) ∨ ∃ k, xs = [.bl k] ∧ Q (.int (if k then 1 else 0)) H) [.bl b] n Φ := fun G H us l z Q q => by
  obtain ⟨u, e, h⟩ := atl1 l
  subst e; cases h
  exact .inr ⟨b, rfl, q _ _ n G H (.refl z) (.int _) k⟩
theorem cm_abs {i : Int} (k : Φ (.int (if i < 0 then -i else i)) n) : CM K a (fun xs H Q => ∃ i, xs = [.int i] ∧ Q (.int (if i < 0 then -i else i)) H) [.int i] n Φ := fun G H us l z Q q => by
  obtain ⟨u, e, h⟩ := atl1 l
  subst e; cases h
  exact ⟨i, rfl, q _ _ n G H (.refl z) (.int _) k⟩
theorem cm_max2 {i j : Int} (k : Φ (.int (if j > i then j else i)) n) : CM K a (fun xs H Q => ∃ i j, xs = [.int i, .int j] ∧ Q (.int (if j > i then j else i)) H) [.int i, .int j] n Φ := fun G H us l z Q q => by
  obtain ⟨u1, u2, e, h1, h2⟩ := atl2 l
  subst e; cases h1; cases h2
  exact ⟨i, j, rfl, q _ _ n G H (.refl z) (.int _) k⟩
theorem cm_gcd {i j : Int} (k : Φ (.int ((Nat.gcd i.natAbs j.natAbs : Nat) : Int)) n) : CM K a rGcd [.int i, .int j] n Φ := fun G H us l z Q q => by
  obtain ⟨u1, u2, e, h1, h2⟩ := atl2 l
  subst e; cases h1; cases h2
  exact ⟨i, j, rfl, q _ _ n G H (.refl z) (.int _) k⟩
theorem cm_sum (is : List Int) {x : D} (hx : x = .lst (is.map D.int)) (k : Φ (.int is.sum) n) : CM K a (rSum K) [x] n Φ := fun G H us l z Q q => by
  subst hx
  obtain ⟨u, e, h⟩ := atl1 l
  subst e
  cases h with
  | lst hs l =>
    have eu := atl_ints l
    subst eu
    exact ⟨_, is, rfl, ext_lst z.i hs, q _ _ n G H (.refl z) (.int _) k⟩
theorem atl_bools {G : Hp} : ∀ {is : List Bool} {us : List V}, AtL K G us (is.map D.bl) → us = is.map V.bl
  | [], us, h => by cases h; rfl
  | i :: is, us, h => by
    cases h with
    | cons a l => cases a; rw [atl_bools l]; rfl
theorem cm_all (bs : List Bool) {x : D} (hx : x = .lst (bs.map D.bl)) (k : Φ (.bl (bs.all id)) n) : CM K a (rAll K) [x] n Φ := fun G H us l z Q q => by
  subst hx
  obtain ⟨u, e, h⟩ := atl1 l
  subst e
  cases h with
  | lst hs l =>
    have eu := atl_bools l
    subst eu
    exact ⟨_, bs, rfl, ext_lst z.i hs, q _ _ n G H (.refl z) (.bl _) k⟩
/-- a body that returns, without a drawing list -/
theorem body_P {P : List D → (D → Prop) → Prop} {t : TS} {Ns : List Str} {vs : List V} {H : Hp} {Q : VK} {E : XK} (h : spP K P vs H Q E) (k : ∀ ds Φ, P ds Φ → SM K C0 t (startD Ns ds) ⟨0, []⟩ (fun _ _ => Φ .non) (.ret fun d _ => Φ d)) : t { nx := fun _ H' => Q .non H', rt := Q } (start Ns vs) H := by
  obtain ⟨G, ds, Φ, i, l, p, q⟩ := h
  refine k ds Φ p _ G H (AtS.start l) ⟨⟨i, fun b e => (by cases e), fun e h => (List.not_mem_nil h).elim, List.nodup_nil⟩, fun _ _ _ _ _ _ _ _ _ _ _ _ x => x.elim⟩ _ ⟨fun σ' Γ' m G' H' g _ z => q .non .non G' H' (g.toGrow.pg g.v.toIv0) .non z, fun v d m G' H' g t z => q v d G' H' (g.toGrow.pg g.v.toIv0) t z, fun _ _ _ _ _ _ _ z => z.elim, fun _ _ _ _ _ _ _ z => z.elim⟩
theorem len_P {P : List D → (D → Prop) → Prop} {c : Nat} {vs : List V} {H : Hp} {Q : VK} {E : XK} (h : spP K P vs H Q E) (k : ∀ ds Φ, P ds Φ → ds.length = c) : vs.length = c := by
  obtain ⟨G, ds, Φ, i, l, p, q⟩ := h
  rw [l.length]
  exact k ds Φ p
theorem body_V {P : List D → Nat → (D → Nat → Prop) → Prop} {t : TS} {Ns : List Str} {vs : List V} {H : Hp} {Q : VK} {E : XK} (h : spV K P vs H Q E) (k : ∀ b ds m Φ, m ≤ 1000000 → P ds m Φ → SM K (CV b) t (startD Ns (.adr b :: ds)) ⟨m, []⟩ (fun _ l => Φ .non l.n) (.ret fun d l => Φ d l.n)) : t { nx := fun _ H' => Q .non H', rt := Q } (start Ns vs) H := by
  obtain ⟨G, b, us, m, ds, Φ, e, v, l, p, q⟩ := h
  subst e
  obtain ⟨_, _, _, _, _, _, _, _, hm⟩ := v.vl b rfl
  exact k b ds m Φ hm p _ G H (AtS.start (.cons (.adr b) l)) ⟨v, fun _ _ _ _ _ _ _ _ _ _ _ _ x => x.elim⟩ _ ⟨fun σ' Γ' m G' H' g _ z => q .non .non m.n G' H' g.toGrow.drop g.v.toIv0.drop .non z, fun v d m G' H' g t z => q v d m.n G' H' g.toGrow.drop g.v.toIv0.drop t z, fun _ _ _ _ _ _ _ z => z.elim, fun _ _ _ _ _ _ _ z => z.elim⟩
theorem len_V {P : List D → Nat → (D → Nat → Prop) → Prop} {c : Nat} {vs : List V} {H : Hp} {Q : VK} {E : XK} (h : spV K P vs H Q E) (k : ∀ ds m Φ, P ds m Φ → ds.length + 1 = c) : vs.length = c := by
  obtain ⟨G, b, us, m, ds, Φ, e, i, l, p, q⟩ := h
  subst e
  rw [List.length_cons, l.length]
  exact k ds m Φ p
theorem len_I {C : Addr} {P : List D → (List (Str × D) → Prop) → Prop} {c : Nat} {vs : List V} {H : Hp} {Q : VK} {E : XK} (h : spI K C P vs H Q E) (k : ∀ ds Φ, P ds Φ → ds.length + 1 = c) : vs.length = c := by
  obtain ⟨G, x, dx, us, ds, Φ, e, i, gx, hx, l, p, q⟩ := h
  subst e
  rw [List.length_cons, l.length]
  exact k ds Φ p
end
end DM

set_option linter.all false
set_option maxRecDepth 100000
set_option maxHeartbeats 4000000
namespace DM
open PySem PySem.Spec PyProof.Rows L2

/-! ### == and != of two instances of a class with an own ==, both answers -/
structure EqC (K : PySem.W.Frag) (C f : Addr) : Prop where
  eqF : PySem.W.findIn K (.ref C) "__eq__" = some (some (.ref f))
  isF : PySem.W.isFn K (.ref f) = true
  cls : ∃ (nm q : Str) (Ns : Addr) (bs : List Value) (hd : Bool) (sn : List Str) (sub : List Value) (ab : Bool) (col : Option Bool) (dd : Option Addr) (k0 k1 k2 k3 k5 : Option Value) (newId : String),
    K.lookup C = some (excClassObj nm q C Ns bs [.type "object"] hd sn sub ab col dd k0 k1 k2 k3 k5 newId) ∧ PySem.W.nsOkIn K Ns = true ∧ PySem.W.nsIn K Ns "__eq__" = some (some (.ref f)) ∧ PySem.W.nsIn K Ns "__ne__" = some none
theorem ns_get {K : PySem.W.Frag} {h : Heap} {B : Addr} {m : Str → Option Value} {x : Str} {v : Value} (X : K.In h) (hm : h.Ns B m) (e : PySem.W.nsIn K B x = some (some v)) : m x = some v := by
  obtain ⟨o, es, ep, ho, hd, _, look⟩ := hm
  unfold PySem.W.nsIn at e
  cases k : K.lookup B with
  | none => rw [k] at e; cases e
  | some ob =>
    have eq := X _ _ k
    rw [ho] at eq
    cases Option.some.inj eq
    obtain ⟨c, dd, dat, sl⟩ := o
    cases hd
    rw [k] at e
    simp only at e
    rw [← look]
    unfold nsFind findBy
    rw [← Array.find?_toList]
    cases z : List.find? (fun en => en.key.isStr x) es.toList with
    | none => rw [z] at e; simp only at e; split at e <;> cases e
    | some en =>
      rw [z] at e
      have := Option.some.inj (Option.some.inj e)
      simp only [Value.isStrOf] at *
      first | (rw [z]; exact congrArg some this) | (simp_all)
def rOwn (C : Addr) (sp : Sp) (neg : Bool) : R2 := fun x y H Q => ∃ a b dx dy fs gs, x = .ref a ∧ y = .ref b ∧ H a = some (.ins C dx fs) ∧ H b = some (.ins C dy gs) ∧ sp [x, y] H (fun v H' => ∃ c, v = .bl c ∧ Q (.bl (neg != c)) H') fun _ _ _ => False
section
variable {X : Cx} {n : Nat} {C f : Addr} {fd : FuncData} {ps : List Str} {sp : Sp}
theorem own_run {pins : List (Addr × Obj)} {σ : L2.St} {H : Hp} {s : Shared} {A : Around} {a b : Addr} {Q : VK} {R : Value → Shared → Prop} {neg : Bool} (F : FnOk X.prog X.w X.K X.mg X.base CX0 n f fd ps sp) (hb : Binds X.K fd ps []) (hrm : Room n A) (hfr : A.frames = X.A.frames)
    (I : Inv X pins σ H s) (h : sp [.ref a, .ref b] H (fun v H' => ∃ c, v = .bl c ∧ Q (.bl (neg != c)) H') fun _ _ _ => False)
    (k : ∀ c s', EP X pins σ Q (.bool (neg != c)) s' → R (.bool c) s') : wpAny (model X.prog X.w) A (call (.ref f) [.ref a, .ref b]) R X.xe s := by
  have e0 : Env0 X.prog X.w X.K X.mg X.base A X.stack s H := by
    have e := I.env0
    exact ⟨by rw [hfr]; exact e.frames, e.mod, e.bs, e.bsz, e.funs, e.frf, e.hok, e.bare⟩
  have hl := F.len _ _ _ _ h
  have r2 : Vals [V.ref a, V.ref b] [Value.ref a, Value.ref b] := .cons rfl (.cons rfl .nil)
  have bb : BindsTo s fd ⟨[.ref a, .ref b], []⟩ (ps.zip [.ref a, .ref b]) := by
    have := hb s [.ref a, .ref b] I.kIn (by simpa using hl)
    simpa using this
  refine wpAny_call (codeAny_mono (F.run A X.stack s H _ _ _ _ _ hrm e0 bb r2 h) fun r s' hq => ?_)
  match r, hq with
  | .error e, hq => exact hq.elim
  | .ok (.ret w), hq =>
    obtain ⟨z, H', I', rz, c, ez, q⟩ := I.after hq
    subst ez
    cases rz
    exact k c s' ⟨.bl (neg != c), H', I', rfl, q⟩
theorem op_eqOwn (T : EqC X.K C f) (F : FnOk X.prog X.w X.K X.mg X.base CX0 n f fd ps sp) (hb : Binds X.K fd ps []) (hr : Room n X.A) : OpR X (compareOp .Eq) (rOwn C sp false) := by
  intro pins s σ H x y v u Q I rx ry h
  obtain ⟨a, b, dx, dy, fs, gs, rfl, rfl, ha, hb', hsp⟩ := h
  cases rx
  cases ry
  obtain ⟨mA, J, _⟩ := ins_get I.hok ha
  obtain ⟨mB, J', _⟩ := ins_get I.hok hb'
  obtain ⟨od, J, _⟩ := J.look
  obtain ⟨od', J', _⟩ := J'.look
  obtain ⟨m, hF⟩ := I.fr
  show wpAny (model X.prog X.w) X.A (richCompare .Eq (.ref a) (.ref b)) _ _ _
  refine PySem.W.cmp_K (op := .Eq) (tb := .ref C) hr.units0 hF I.ok.mod.kin J J'.type (by simp [PySem.W.notFirst]) T.eqF T.isF ?_
  refine own_run (neg := false) F hb hr rfl I hsp fun c s' q => ?_
  cases c <;> exact q
theorem op_neOwn (T : EqC X.K C f) (F : FnOk X.prog X.w X.K X.mg X.base CX0 n f fd ps sp) (hb : Binds X.K fd ps []) (hr : Room (n + 1) X.A) : OpR X (compareOp .NotEq) (rOwn C sp true) := by
  intro pins s σ H x y v u Q I rx ry h
  obtain ⟨a, b, dx, dy, fs, gs, rfl, rfl, ha, hb', hsp⟩ := h
  cases rx
  cases ry
  obtain ⟨mA, J, _⟩ := ins_get I.hok ha
  obtain ⟨mB, J', _⟩ := ins_get I.hok hb'
  obtain ⟨nm, q, Ns, bs, hd, sn, sub, ab, col, dd, k0, k1, k2, k3, k5, newId, hC, hok, he, hne⟩ := T.cls
  obtain ⟨hp, g, dr, tk, os⟩ := s
  have KI : X.K.In hp := I.kIn
  have tF := T.isF
  have hf : ∃ of : Obj, hp.get? f = some of ∧ of.cls = .type "function" := by
    have tG : (X.K.lookup f).map (·.cls) = some (.type "function") := by simpa [PySem.W.isFn, PySem.W.typeIn] using tF
    cases e : X.K.lookup f with
    | none => rw [e] at tG; cases tG
    | some o => rw [e] at tG; exact ⟨o, KI _ _ e, Option.some.inj tG⟩
  obtain ⟨of, hfo, hfc⟩ := hf
  obtain ⟨oa, ha1, ha2⟩ : ∃ o : Obj, hp.get? a = some o ∧ o.cls = .ref C := by
    obtain ⟨_, _, _, e, _⟩ := I.hok a _ ha
    exact ⟨_, e, rfl⟩
  obtain ⟨ob, hb1, hb2⟩ : ∃ o : Obj, hp.get? b = some o ∧ o.cls = .ref C := by
    obtain ⟨_, _, _, e, _⟩ := I.hok b _ hb'
    exact ⟨_, e, rfl⟩
  have own : hp.OwnEqNoNe a C f "object" [.type "object"] :=
    ⟨oa, of, nm, q, Ns, bs, hd, sn, sub, ab, col, dd, k0, k1, k2, k3, k5, newId, hp.nsMap Ns, _, ha1, ha2, KI _ _ hC, .of_isNs (PySem.W.isNs_of_in KI hok), ns_get KI (.of_isNs (PySem.W.isNs_of_in KI hok)) he, hfo, hfc, PySem.F.mro_object, by rw [typeLookup_type]; rfl, PySem.W.nsMap_none_of_in KI hok hne⟩
  refine compareOp_ne_ownEq PySem.F.cmp_object own hb1 hb2 (by have := hr.un; omega) ?_
  refine own_run (neg := true) F hb (hr.in1) rfl I hsp fun c s' q => ⟨c, rfl, ?_⟩
  cases c <;> exact q
end
section
variable {K : PySem.W.Frag} {a : Cd} {n : Mm} {Φ : D → Mm → Prop}
theorem rm_own {C : Addr} {neg : Bool} {gs hs : List (Str × D)} {P : List D → (D → Prop) → Prop} (h : P [.ins C gs, .ins C hs] fun d => ∃ c, d = .bl c ∧ Φ (.bl (neg != c)) n) : RM K a (rOwn C (spP K P) neg) (.ins C gs) (.ins C hs) n Φ := fun G H u v tu tv w Q q => by
  have l : AtL K G [u, v] [.ins C gs, .ins C hs] := .cons tu (.cons tv .nil)
  cases tu with
  | ins h1 _ =>
    cases tv with
    | ins h2 _ =>
      exact ⟨_, _, _, _, _, _, rfl, rfl, w.i _ _ h1, w.i _ _ h2, G, _, _, w.i, l, h, fun u d G' H' g t ⟨c, e, p⟩ => by
        subst e; cases t
        exact ⟨c, rfl, q _ _ n G' H' (g.step w) (.bl _) p⟩⟩
end
end DM

set_option linter.all false
set_option maxRecDepth 100000
set_option maxHeartbeats 4000000
namespace DM
open PySem PySem.Spec PyProof.Rows L2

section
variable {K : PySem.W.Frag} {a : Cd} {Γ : EnvD} {n : Mm} {Φ : D → Mm → Prop} {ta tb te tl to : TE} {t tk : TA} {E : XK} {N : EnvD → Mm → Prop} {R : Rs} {tu : TS} {d : D} {G H : Hp}
abbrev Mm.put (m : Mm) (i : Nat) (p : Addr) (o : OD) : Mm := ⟨m.n, m.c.set i (p, o)⟩
theorem fe_of {m : Mm} {i : Nat} {p : Addr} {o : OD} (h : m.c[i]? = some (p, o)) : ¬ Fe m p := fun z => z (p, o) (List.mem_of_getElem? h) rfl
theorem fe_ne {m : Mm} {i : Nat} {p b : Addr} {o : OD} (f : Fe m b) (h : m.c[i]? = some (p, o)) : b ≠ p := fun z => fe_of h (z ▸ f)
theorem own_one {m : Mm} (v : Iv0 K a m G H) {i j : Nat} {p : Addr} {o o' : OD} (hi : m.c[i]? = some (p, o)) (hj : m.c[j]? = some (p, o')) : i = j := by
  have nd := v.nd
  obtain ⟨li, ei⟩ := List.getElem?_eq_some_iff.mp hi
  obtain ⟨lj, ej⟩ := List.getElem?_eq_some_iff.mp hj
  refine (List.getElem_inj (h₀ := by rw [List.length_map]; exact li) (h₁ := by rw [List.length_map]; exact lj) nd).mp ?_
  rw [List.getElem_map, List.getElem_map, ei, ej]
/-- a thing of one's own changes -/
theorem own_set (v : Iv K a n G H) {i : Nat} {p : Addr} {o o' : OD} {ho : HO} (hi : n.c[i]? = some (p, o)) (hh : HasO K G (upd H p ho) p o') : Step K a n G H (n.put i p o') G (upd H p ho) := by
  have gp : G p = none := (v.ow (p, o) (List.mem_of_getElem? hi)).1
  refine v.mk' ⟨Ext.rfl', fun b u _ hf hb => ?_, fun b h => .inl h, fun b h => .inl fun z => h fun e he => ?_⟩ ⟨fun b u e => ?_, fun b hb => ?_, fun e he => ?_, ?_⟩
  · rw [upd_ne (fe_ne hf hi)]; exact hb
  · rcases List.mem_or_eq_of_mem_set he with q | q
    · exact z e q
    · rw [q]; exact z (p, o) (List.mem_of_getElem? hi)
  · rw [upd_ne (by intro z; subst z; rw [gp] at e; cases e)]; exact v.i b u e
  · obtain ⟨h1, h2, h3⟩ := v.vl b hb
    have hne : b ≠ p := fe_ne h2 hi
    refine ⟨h1, fun e he => ?_, by rw [upd_ne hne]; exact h3⟩
    rcases List.mem_or_eq_of_mem_set he with q | q
    · exact h2 e q
    · rw [q]; exact fun z => hne z.symm
  · obtain ⟨j, hj⟩ := List.mem_iff_getElem?.mp he
    rw [List.getElem?_set] at hj
    by_cases hij : i = j
    · subst hij
      rw [if_pos rfl] at hj
      split at hj
      · cases hj; exact ⟨gp, hh⟩
      · cases hj
    · rw [if_neg hij] at hj
      obtain ⟨q1, q2⟩ := v.ow e (List.mem_of_getElem? hj)
      refine ⟨q1, q2.mono Ext.rfl' fun _ => upd_ne fun z => hij ?_⟩
      obtain ⟨q, w⟩ := e
      cases z
      exact own_one v.toIv0 hi hj
  · show ((n.c.set i (p, o')).map (·.1)).Nodup
    have e : (n.c.set i (p, o')).map (·.1) = n.c.map (·.1) := by
      rw [List.map_set]
      have : (n.c.map (·.1))[i]? = some p := by rw [List.getElem?_map, hi]; rfl
      obtain ⟨l, e⟩ := List.getElem?_eq_some_iff.mp this
      show (n.c.map (·.1)).set i p = _
      conv => lhs; rw [← e]
      exact List.set_getElem_self l
    rw [e]
    exact v.nd
/-- a new thing of one's own -/
theorem own_new (v : Iv K a n G H) {p : Addr} {o : OD} {ho : HO} (hp : H p = none) (hh : HasO K G (upd H p ho) p o) : Step K a n G H ⟨n.n, n.c ++ [(p, o)]⟩ G (upd H p ho) := by
  have gp : G p = none := gnone v.i hp
  have hne : ∀ e ∈ n.c, e.1 ≠ p := fun e he z => (v.ow e he).2.some (z ▸ hp)
  refine v.mk' ⟨Ext.rfl', fun b u _ hf hb => by rw [upd_ne (ne_of_none hb hp)]; exact hb, fun b h => .inl h, fun b h => ?_⟩ ⟨fun b u e => ?_, fun b hb => ?_, fun e he => ?_, ?_⟩
  · by_cases e : b = p
    · subst e; exact .inr hp
    · refine .inl fun z => h fun e' he => ?_
      rcases List.mem_append.mp he with q | q
      · exact z e' q
      · rw [List.mem_singleton.mp q]; exact fun w => e w.symm
  · rw [upd_ne (by intro z; subst z; rw [gp] at e; cases e)]; exact v.i b u e
  · obtain ⟨h1, h2, p1, q1, r1, h3, h4⟩ := v.vl b hb
    have hbp : b ≠ p := ne_of_none h3 hp
    refine ⟨h1, fun e he => ?_, p1, q1, r1, by rw [upd_ne hbp]; exact h3, h4⟩
    rcases List.mem_append.mp he with q | q
    · exact h2 e q
    · rw [List.mem_singleton.mp q]; exact fun w => hbp w.symm
  · rcases List.mem_append.mp he with q | q
    · obtain ⟨q1, q2⟩ := v.ow e q
      exact ⟨q1, q2.mono Ext.rfl' fun _ => upd_ne (hne e q)⟩
    · rw [List.mem_singleton.mp q]; exact ⟨gp, hh⟩
  · rw [List.map_append, List.nodup_append]
    refine ⟨v.nd, by simp, fun x hx y hy => ?_⟩
    obtain ⟨e, he, ex⟩ := List.mem_map.mp hx
    have ey : y = p := by simpa using hy
    rw [← ex, ey]; exact hne e he
/-- .. and is told from now on -/
theorem own_told (v : Iv K a n G H) {i : Nat} {p : Addr} {o : OD} {ho : HO} (hi : n.c[i]? = some (p, o)) (hp : H p = some ho) : Step K a n G H ⟨n.n, n.c.eraseIdx i⟩ (upd G p ho) H := by
  have gp : G p = none := (v.ow (p, o) (List.mem_of_getElem? hi)).1
  have sub : ∀ e, e ∈ n.c.eraseIdx i → e ∈ n.c := fun e he => List.mem_of_mem_eraseIdx he
  refine v.mk' ⟨Ext.upd gp, fun b u _ _ hb => hb, fun b h => ?_, fun b h => .inl fun z => h fun e he => z e (sub e he)⟩ ⟨fun b u e => ?_, fun b hb => ?_, fun e he => ?_, ?_⟩
  · by_cases e : b = p
    · subst e; exact .inr (.inr (fe_of hi))
    · rw [upd_ne e] at h; exact .inl h
  · by_cases e' : b = p
    · subst e'; rw [upd_same] at e; cases e; exact hp
    · rw [upd_ne e'] at e; exact v.i b u e
  · obtain ⟨h1, h2, h3⟩ := v.vl b hb
    exact ⟨by rw [upd_ne (fe_ne h2 hi)]; exact h1, fun e he => h2 e (sub e he), h3⟩
  · obtain ⟨q1, q2⟩ := v.ow e (sub e he)
    have hne : e.1 ≠ p := by
      intro z
      obtain ⟨j, hij, hj⟩ := List.mem_eraseIdx_iff_getElem?.mp he
      obtain ⟨q, w⟩ := e
      cases z
      exact hij (own_one v.toIv0 hj hi)
    exact ⟨by rw [upd_ne hne]; exact q1, q2.mono (Ext.upd gp) fun _ => rfl⟩
  · exact v.nd.sublist ((List.eraseIdx_sublist _ _).map _)
theorem sm_told {i j : Nat} {p : Addr} {ds : List D} (hj : Γ[j]? = some (some (.adr p))) (hi : n.c[i]? = some (p, .lst ds)) (h : SM K a tu (Γ.set j (some (.lst ds))) ⟨n.n, n.c.eraseIdx i⟩ N R) : SM K a tu Γ n N R := fun σ G H S v Dn e => by
  obtain ⟨_, vs, hp, l⟩ := v.ow _ (List.mem_of_getElem? hi)
  have s := own_told v hi hp
  obtain ⟨u, hu, tu'⟩ := S.get hj
  cases tu'
  exact h σ _ H ((S.mono s.g).see hu (.lst upd_same (l.mono s.g))) s.v Dn (e.trans s)
theorem em_told {i j : Nat} {p : Addr} {ds : List D} (hj : Γ[j]? = some (some (.adr p))) (hi : n.c[i]? = some (p, .lst ds)) (h : EvM K a te (Γ.set j (some (.lst ds))) ⟨n.n, n.c.eraseIdx i⟩ Φ) : EvM K a te Γ n Φ := fun σ G H S v Q q => by
  obtain ⟨_, vs, hp, l⟩ := v.ow _ (List.mem_of_getElem? hi)
  have s := own_told v hi hp
  obtain ⟨u, hu, tu'⟩ := S.get hj
  cases tu'
  exact h σ _ H ((S.mono s.g).see hu (.lst upd_same (l.mono s.g))) s.v Q fun w d m G' H' g t p => q w d m G' H' (s.trans g) t p
/-! a look at one's own -/
def flat : D → Bool
  | .non | .bl _ | .int _ | .str _ | .ty _ | .adr _ => true
  | _ => false
theorem flat_at {v : V} {d : D} (h : At K G v d) (f : flat d = true) (G' : Hp) : At K G' v d := by
  cases h with
  | non => exact .non
  | bl b => exact .bl b
  | int b => exact .int b
  | str b => exact .str b
  | ty b => exact .ty b
  | adr b => exact .adr b
  | _ => simp [flat] at f
theorem own_peek (v : Iv K a n G H) {i : Nat} {p : Addr} {o : OD} {ho : HO} (hi : n.c[i]? = some (p, o)) (hp : H p = some ho) : Iv K a ⟨n.n, []⟩ (upd G p ho) H ∧
    ∀ m G' H', Step K a ⟨n.n, []⟩ (upd G p ho) H m G' H' → ∃ G2, Step K a n G H ⟨m.n, n.c⟩ G2 H' := by
  have gp : G p = none := (v.ow (p, o) (List.mem_of_getElem? hi)).1
  have i2 : Ext (upd G p ho) H := fun b u e => by
    by_cases e' : b = p
    · subst e'; rw [upd_same] at e; cases e; exact hp
    · rw [upd_ne e'] at e; exact v.i b u e
  have out : ∀ m G' H', Grow a ⟨n.n, []⟩ (upd G p ho) H m G' H' → Iv0 K a m G' H' → Grow a n G H ⟨m.n, []⟩ G' H' := fun m G' H' g w =>
    ⟨(Ext.upd gp).trans g.g, fun b u hb _ e => g.h b u hb fe0 e, fun b h => by
      rcases g.w b h with z | z | z
      · by_cases e : b = p
        · subst e; exact .inr (.inr (fe_of hi))
        · rw [upd_ne e] at z; exact .inl z
      · exact .inr (.inl z)
      · exact absurd fe0 z, fun b h => absurd fe0 h⟩
  refine ⟨⟨⟨i2, fun b hb => ?_, fun e h => (List.not_mem_nil h).elim, List.nodup_nil⟩, fun cls d f u dv m' G' H' g w e t x => ?_⟩, fun m G' H' s => ?_⟩
  · obtain ⟨h1, h2, h3⟩ := v.vl b hb
    exact ⟨by rw [upd_ne (fe_ne h2 hi)]; exact h1, fe0, h3⟩
  · exact v.xa cls d f u dv ⟨m'.n, m'.c⟩ G' H' ⟨(out m' G' H' g w).g, (out m' G' H' g w).h, (out m' G' H' g w).w, fun b h => (g.o b h).elim (fun z => absurd fe0 z) .inr⟩ w e t x
  · have g := s.toGrow
    let G2 : Hp := fun b => if b = p then none else G' b
    have e2 : ∀ b, b ≠ p → G2 b = G' b := fun b h => if_neg h
    have e3 : G2 p = none := if_pos rfl
    refine ⟨G2, v.mk' ⟨fun b u e => ?_, fun b u hb _ e => g.h b u hb fe0 e, fun b h => ?_, fun b h => .inl h⟩ ⟨fun b u e => ?_, fun b hb => ?_, fun e he => ?_, v.nd⟩⟩
    · have hb : b ≠ p := fun z => by rw [z, gp] at e; cases e
      rw [e2 b hb]
      exact g.g b u (by rw [upd_ne hb]; exact e)
    · have hb : b ≠ p := fun z => h (z ▸ e3)
      rw [e2 b hb] at h
      rcases g.w b h with z | z | z
      · rw [upd_ne hb] at z; exact .inl z
      · exact .inr (.inl z)
      · exact absurd fe0 z
    · have hb : b ≠ p := fun z => by rw [z, e3] at e; cases e
      rw [e2 b hb] at e
      exact s.v.i b u e
    · obtain ⟨h1, h2, h3⟩ := s.v.vl b hb
      obtain ⟨q1, q2, q3⟩ := v.vl b hb
      exact ⟨by rw [e2 b (fe_ne q2 hi)]; exact h1, q2, h3⟩
    · obtain ⟨q1, q2⟩ := v.ow e he
      have hs := q2.some
      cases k : H e.1 with
      | none => exact absurd k hs
      | some u =>
        have k' : H' e.1 = some u := by
          refine g.h _ _ (fun z => ?_) fe0 k
          exact (v.vl _ z.symm).2.1 e he rfl
        refine ⟨?_, q2.mono (fun b w eb => ?_) fun _ => by rw [k', k]⟩
        · by_cases hb : e.1 = p
          · rw [hb]; exact e3
          · rw [e2 _ hb]
            refine Classical.byContradiction fun z => ?_
            rcases g.w _ z with w | w | w
            · rw [upd_ne hb] at w; exact w q1
            · rw [k] at w; cases w
            · exact w fe0
        · have hb : b ≠ p := fun z => by rw [z, gp] at eb; cases eb
          rw [e2 b hb]
          exact g.g b w (by rw [upd_ne hb]; exact eb)
theorem em_peek {i j : Nat} {p : Addr} {ds : List D} (hj : Γ[j]? = some (some (.adr p))) (hi : n.c[i]? = some (p, .lst ds)) (h : EvM K a te (Γ.set j (some (.lst ds))) ⟨n.n, []⟩ fun d m => flat d = true ∧ Φ d ⟨m.n, n.c⟩) : EvM K a te Γ n Φ := fun σ G H S v Q q => by
  obtain ⟨gp, vs, hp, l⟩ := v.ow _ (List.mem_of_getElem? hi)
  obtain ⟨v2, out⟩ := own_peek v hi hp
  obtain ⟨u, hu, tu'⟩ := S.get hj
  cases tu'
  refine h σ _ H ((S.mono (Ext.upd gp)).see hu (.lst upd_same (l.mono (Ext.upd gp)))) v2 Q fun w d m G' H' g t ⟨f, p⟩ => ?_
  obtain ⟨G2, s⟩ := out m G' H' g
  exact q w d _ G2 H' s (flat_at t f G2) p
theorem tm_peek {tt : TT} {Φ : Bool → Mm → Prop} {i j : Nat} {p : Addr} {ds : List D} (hj : Γ[j]? = some (some (.adr p))) (hi : n.c[i]? = some (p, .lst ds)) (h : TvM K a tt (Γ.set j (some (.lst ds))) ⟨n.n, []⟩ fun b m => Φ b ⟨m.n, n.c⟩) : TvM K a tt Γ n Φ := fun σ G H S v Q q => by
  obtain ⟨gp, vs, hp, l⟩ := v.ow _ (List.mem_of_getElem? hi)
  obtain ⟨v2, out⟩ := own_peek v hi hp
  obtain ⟨u, hu, tu'⟩ := S.get hj
  cases tu'
  refine h σ _ H ((S.mono (Ext.upd gp)).see hu (.lst upd_same (l.mono (Ext.upd gp)))) v2 Q fun b m G' H' g p => ?_
  obtain ⟨G2, s⟩ := out m G' H' g
  exact q b _ G2 H' s p
/-! what is done to one's own -/
/-- x = [..], a list of one's own -/
theorem sm_asgO {i : Nat} (h : AvM K a t Γ n fun ds m => ds.length ≤ 1000 ∧ ∀ p, N (Γ.set i (some (.adr p))) ⟨m.n, m.c ++ [(p, .lst ds)]⟩) : SM K a (tAsg (tLst t) (gName i)) Γ n N R := fun σ G H S z Dn e =>
  h σ G H S z _ fun vs ds m G1 H1 g1 t1 ⟨hl, p1⟩ => ⟨by rw [t1.length]; exact Nat.le_trans hl (by decide), fun p hp => by
    have s := own_new (ho := .lst vs) g1.v hp (o := .lst ds) ⟨vs, upd_same, t1⟩
    exact e.nx _ _ _ _ _ (g1.trans s) ((S.mono g1.g).set i (.adr p)) (p1 p)⟩
theorem sm_append {i : Nat} {p : Addr} (h : EvM K a to Γ n fun x m => x = .adr p ∧ (∃ es, m.c[i]? = some (p, .lst es)) ∧ EvM K a te Γ m fun y l => ∃ ds, l.c[i]? = some (p, .lst ds) ∧ ds.length < 100000 ∧ N Γ (l.put i p (.lst (ds ++ [y])))) :
    SM K a (tDrop (tBM K "list" rAppend to (tCons te tNil))) Γ n N R := fun σ G H S z Dn e =>
  h σ G H S z _ fun x dx m G1 H1 g1 t1 ⟨ex, ⟨es, hes⟩, p1⟩ => by
    subst ex; cases t1
    obtain ⟨_, us, hp1, _⟩ := g1.v.ow _ (List.mem_of_getElem? hes)
    refine ⟨.inl ⟨rfl, us, .inl (.inl hp1)⟩, ?_⟩
    refine p1 σ G1 H1 (S.mono g1.g) g1.v _ fun y dy l G2 H2 g2 t2 ⟨ds, hds, hlen, p2⟩ => ?_
    obtain ⟨_, vs, hp2, l2⟩ := g2.v.ow _ (List.mem_of_getElem? hds)
    have hlen2 : vs.length < sizeLine := by rw [l2.length]; exact Nat.lt_of_lt_of_le hlen (by decide)
    refine ⟨p, vs, y, rfl, rfl, hp2, hlen2, ?_⟩
    have s := own_set (ho := .lst (vs ++ [y])) g2.v hds (o' := .lst (ds ++ [dy])) ⟨_, upd_same, l2.append (.cons t2 .nil)⟩
    exact e.nx _ _ _ _ _ ((g1.trans g2).trans s) (((S.mono g1.g).mono g2.g)) p2
theorem AtL.dropLast {vs : List V} {ds : List D} (h : AtL K G vs ds) : AtL K G vs.dropLast ds.dropLast := by
  rw [List.dropLast_eq_take, List.dropLast_eq_take, h.length]; exact h.take _
theorem em_pop {i : Nat} {p : Addr} (h : EvM K a to Γ n fun x m => x = .adr p ∧ ∃ ds y, m.c[i]? = some (p, .lst ds) ∧ ds[ds.length - 1]? = some y ∧ Φ y (m.put i p (.lst ds.dropLast))) : EvM K a (tBM0 K "list" rPop to) Γ n Φ := fun σ G H S z Q q =>
  h σ G H S z _ fun x dx m G1 H1 g1 t1 ⟨ex, ds, y, hds, hy, p1⟩ => by
    subst ex; cases t1
    obtain ⟨_, vs, hp2, l2⟩ := g1.v.ow _ (List.mem_of_getElem? hds)
    refine ⟨.inl ⟨rfl, vs, .inl (.inl hp2)⟩, ?_⟩
    obtain ⟨u, hu, tu'⟩ := l2.get hy
    refine ⟨p, vs, u, rfl, rfl, hp2, by rw [l2.length]; exact hu, ?_⟩
    have s := own_set (ho := .lst vs.dropLast) g1.v hds (o' := .lst ds.dropLast) ⟨_, upd_same, l2.dropLast⟩
    exact q _ _ _ _ _ (g1.trans s) tu' p1
/-! __init__ -/
def putD (f : Str) (d : D) : List (Str × D) → List (Str × D)
  | [] => [(f, d)]
  | (g, x) :: r => if g = f then (g, d) :: r else (g, x) :: putD f d r
theorem putD_at {f : Str} {v : V} {d : D} (t : At K G v d) : ∀ {fs : List (Str × V)} {gs : List (Str × D)}, AtF K G fs gs → AtF K G (putF f v fs) (putD f d gs)
  | [], _, h => by cases h; exact .cons t .nil
  | (g, x) :: r, _, h => by
    cases h with
    | cons b l =>
      show AtF K G (if g = f then _ else _) (if g = f then _ else _)
      split
      · exact .cons t l
      · exact .cons b (putD_at t l)
theorem AtF.length {fs : List (Str × V)} : ∀ {gs : List (Str × D)}, AtF K G fs gs → fs.length = gs.length := by
  induction fs with
  | nil => intro gs h; cases h; rfl
  | cons v vs ih => intro gs h; cases h with | cons _ l => rw [List.length_cons, List.length_cons, ih l]
theorem sm_fldO {C dx : Addr} {f : Str} {i : Nat} {x : Addr} (cl : Cls K C) (na : NoAttr K C f) (h : EvM K a te Γ n fun d m => EvM K a to Γ m fun o l => o = .adr x ∧ ∃ gs, l.c[i]? = some (x, .ins C dx gs) ∧ gs.length < 1000 ∧ N Γ (l.put i x (.ins C dx (putD f d gs)))) :
    SM K a (sFld K to te f) Γ n N R := fun σ G H S z Dn e =>
  h σ G H S z _ fun v d m G1 H1 g1 t1 p1 => p1 σ G1 H1 (S.mono g1.g) g1.v _ fun o od l G2 H2 g2 t2 ⟨eo, gs, hg, hlen, p2⟩ => by
    subst eo; cases t2
    obtain ⟨_, fs, hp, l2⟩ := g2.v.ow _ (List.mem_of_getElem? hg)
    refine ⟨x, C, dx, fs, rfl, hp, cl, na, by rw [l2.length]; exact hlen, ?_⟩
    have s := own_set (ho := .ins C dx (putF f v fs)) g2.v hg (o' := .ins C dx (putD f d gs)) ⟨_, upd_same, putD_at (t1.mono g2.g) l2⟩
    exact e.nx _ _ _ _ _ ((g1.trans g2).trans s) ((S.mono g1.g).mono g2.g) p2
theorem body_I {C : Addr} {P : List D → (List (Str × D) → Prop) → Prop} {t : TS} {Ns : List Str} {vs : List V} {H : Hp} {Q : VK} {E : XK} (h : spI K C P vs H Q E)
    (k : ∀ x dx ds Φ, P ds Φ → SM K C0 t (startD Ns (.adr x :: ds)) ⟨0, [(x, .ins C dx [])]⟩ (fun _ m => ∃ gs, m.c = [(x, .ins C dx gs)] ∧ Φ gs) (.ret fun _ _ => False)) : t { nx := fun _ H' => Q .non H', rt := Q } (start Ns vs) H := by
  obtain ⟨G, x, dx, us, ds, Φ, e, i, gx, hx, l, p, q⟩ := h
  subst e
  refine k x dx ds Φ p _ G H (AtS.start (.cons (.adr x) l)) ⟨⟨i, fun b e => (by cases e), fun e h => ?_, by simp⟩, fun _ _ _ _ _ _ _ _ _ _ _ _ x => x.elim⟩ _ ⟨fun σ' Γ' m G' H' g _ ⟨gs, em, z⟩ => ?_, fun v d m G' H' g t z => z.elim, fun _ _ _ _ _ _ _ z => z.elim, fun _ _ _ _ _ _ _ z => z.elim⟩
  · rw [List.mem_singleton.mp h]; exact ⟨gx, [], hx, .nil⟩
  · have hm : (x, OD.ins C dx gs) ∈ m.c := by rw [em]; exact List.mem_singleton.mpr rfl
    obtain ⟨gx', fs, hx', tf⟩ := g.v.ow _ hm
    refine q fs gs G' H' ⟨g.g, fun b o hb e => g.h b o (by simp) (fun e' he => ?_) e, g.i, fun b hb => ?_⟩ gx' hx' tf z
    · rw [List.mem_singleton.mp he]; exact fun w => hb w.symm
    · rcases g.w b hb with w | w | w
      · exact .inl w
      · exact .inr w
      · refine absurd ?_ w
        refine fun e' he => ?_
        rw [List.mem_singleton.mp he]
        intro w2
        have w2 : x = b := w2
        rw [← w2, gx'] at hb
        exact hb rfl
/-! while -/
theorem sm_while {tc : TT} (I : EnvD → Mm → Prop) (μ : EnvD → Mm → Nat) (p0 : I Γ n) (h : ∀ Γ' l, I Γ' l → TvM K a tc Γ' l fun b l1 => (b = true → SM K a tu Γ' l1 (fun Γ2 l2 => I Γ2 l2 ∧ μ Γ2 l2 < μ Γ' l) (R.turn N fun Γ2 l2 => I Γ2 l2 ∧ μ Γ2 l2 < μ Γ' l)) ∧ (b = false → N Γ' l1)) :
    SM K a (tWhile tc tu) Γ n N R := fun σ G H S z Dn e => by
  refine ⟨fun k σ' H' => ∃ Γ' l' G', Step K a n G H l' G' H' ∧ AtS K G' σ' Γ' ∧ I Γ' l' ∧ μ Γ' l' = k, ⟨_, Γ, n, G, .refl z, S, p0, rfl⟩, ?_⟩
  rintro k σ' H' ⟨Γ', l', G', g', S', p', ek⟩
  refine h Γ' l' p' σ' G' H' S' g'.v _ fun b l1 G1 H1 g1 q => ?_
  have s1 := g'.trans g1
  cases b with
  | false => rw [if_neg (by decide)]; exact e.nx _ _ _ _ _ s1 (S'.mono g1.g) (q.2 rfl)
  | true =>
    rw [if_pos rfl]
    refine ⟨fun σ2 H2 => ∃ Γ2 l2 G2, Step K a n G H l2 G2 H2 ∧ AtS K G2 σ2 Γ2 ∧ I Γ2 l2 ∧ μ Γ2 l2 < k, fun σ2 H2 ⟨Γ2, l2, G2, a1, a2, a3, a4⟩ => ⟨_, a4, Γ2, l2, G2, a1, a2, a3, rfl⟩, ?_⟩
    refine q.1 rfl σ' G1 H1 (S'.mono g1.g) g1.v _ ⟨fun σ3 Γ3 m3 G3 H3 g3 S3 p3 => ⟨Γ3, m3, G3, s1.trans g3, S3, p3.1, ek ▸ p3.2⟩, fun w d m3 G3 H3 g3 t3 p3 => e.rt w d m3 G3 H3 (s1.trans g3) t3 p3,
      fun σ3 Γ3 m3 G3 H3 g3 S3 p3 => e.nx σ3 Γ3 m3 G3 H3 (s1.trans g3) S3 p3, fun σ3 Γ3 m3 G3 H3 g3 S3 p3 => ⟨Γ3, m3, G3, s1.trans g3, S3, p3.1, ek ▸ p3.2⟩⟩
end
end DM

set_option linter.all false
set_option maxRecDepth 100000
set_option maxHeartbeats 4000000
namespace DM
open PySem PySem.Spec PyProof.Rows L2

theorem units128 {A : Around} {k : Nat} (hr : Room k A) : A.units + 128 < cLine := by have := hr.un; omega
theorem units65 {A : Around} {k : Nat} (hr : Room k A) : A.units + 65 < cLine := by have := hr.un; omega
section
variable {K : PySem.W.Frag} {a : Cd} {Γ : EnvD} {n : Mm} {Φ : D → Mm → Prop} {ta tb te tl to : TE} {t tk : TA} {E : XK} {N : EnvD → Mm → Prop} {R : Rs} {tu : TS} {d : D} {G H : Hp}
theorem om_none {Φ : Option Int → Mm → Prop} (k : Φ none n) : OvM K a tNoPart Γ n Φ := fun σ G H S v Q q => q none n G H (.refl v) k
theorem om_some {Φ : Option Int → Mm → Prop} (h : EvM K a te Γ n fun x m => ∃ i, x = .int i ∧ Φ (some i) m) : OvM K a (tPart te) Γ n Φ := fun σ G H S v Q q =>
  h σ G H S v _ fun w d m G1 H1 g1 t1 ⟨j, e, p⟩ => by subst e; cases t1; exact ⟨j, rfl, q (some j) m G1 H1 g1 p⟩
def cutD (ds : List D) (lo hi : Option Int) : List D := (ds.drop (HT.sIx ds.length 0 lo)).take (HT.sIx ds.length ds.length hi - HT.sIx ds.length 0 lo)
theorem cut_at {vs : List V} {ds : List D} (l : AtL K G vs ds) (lo hi : Option Int) : AtL K G (cutV vs lo hi) (cutD ds lo hi) := by
  unfold cutV cutD
  rw [l.length]
  exact (l.drop _).take _
theorem atl_of_ints : ∀ ns : List Int, AtL K G (ns.map V.int) (ns.map D.int)
  | [] => .nil
  | i :: ns => .cons (.int i) (atl_of_ints ns)
/-- what a list, or the script, holds -/
def lstOf : D → Option (List D)
  | .lst ds => some ds | .scr ns => some (ns.map D.int) | _ => none
theorem at_lst (i : Ext G H) {v : V} {d : D} (h : At K G v d) {ds : List D} (e : lstOf d = some ds) : ∃ p vs, v = .ref p ∧ SqL K H p vs ∧ AtL K G vs ds := by
  cases h with
  | lst hs l => cases e; exact ⟨_, _, rfl, ext_lst i hs, l⟩
  | scr hs => cases e; exact ⟨_, _, rfl, (hs.ext i).seq, atl_of_ints _⟩
  | _ => cases e
theorem em_slL {tl th : TO} (h : EvM K a te Γ n fun x m => ∃ ds, lstOf x = some ds ∧ OvM K a tl Γ m fun lo l => OvM K a th Γ l fun hi k => Φ (.lst (cutD ds lo hi)) k) : EvM K a (tSl (rSlL K) te tl th) Γ n Φ := fun σ G H S v Q q =>
  h σ G H S v _ fun w d m G1 H1 g1 t1 ⟨ds, e, p1⟩ => p1 σ G1 H1 (S.mono g1.g) g1.v _ fun lo m2 G2 H2 g2 p2 => p2 σ G2 H2 ((S.mono g1.g).mono g2.g) g2.v _ fun hi m3 G3 H3 g3 p3 => by
    obtain ⟨p, vs, ew, hs, l⟩ := at_lst g3.i ((t1.mono g2.g).mono g3.g) e
    subst ew
    refine ⟨p, vs, rfl, hs, fun q0 hq => ?_⟩
    have gn := PG.new (G := G3) (o := .lst (cutV vs lo hi)) g3.i hq
    exact q _ _ m3 _ _ (((g1.trans g2).trans g3).trans (gn.step g3.v)) (.lst upd_same ((cut_at l lo hi).mono gn.g)) p3
theorem em_slS {tl th : TO} (h : EvM K a te Γ n fun x m => ∃ z : Str, x = .str z ∧ z.length ≤ sizeLine ∧ OvM K a tl Γ m fun lo l => OvM K a th Γ l fun hi k => Φ (.str (cutS z lo hi)) k) : EvM K a (tSl rSlS te tl th) Γ n Φ := fun σ G H S v Q q =>
  h σ G H S v _ fun w d m G1 H1 g1 t1 ⟨z, e, hz, p1⟩ => p1 σ G1 H1 (S.mono g1.g) g1.v _ fun lo m2 G2 H2 g2 p2 => p2 σ G2 H2 ((S.mono g1.g).mono g2.g) g2.v _ fun hi m3 G3 H3 g3 p3 => by
    subst e; cases t1
    exact ⟨z, rfl, hz, q _ _ m3 _ _ ((g1.trans g2).trans g3) (.str _) p3⟩
theorem rm_ixS {x : D} {ds : List D} {i : Int} {y : D} (e : lstOf x = some ds) (h : atI ds i = some y) (k : Φ y n) : RM K a (rIxL K) x (.int i) n Φ := fun G H u v tu tv z Q q => by
  cases tv
  obtain ⟨p, vs, ew, hs, l⟩ := at_lst z.i tu e
  subst ew
  obtain ⟨w, e1, t⟩ := atI_of l h
  exact ⟨p, vs, i, w, rfl, rfl, hs, e1, q w y n G H (.refl z) t k⟩
theorem cm_lenS {x : D} {ds : List D} (hx : lstOf x = some ds) (k : Φ (.int ds.length) n) : CM K a (fun xs H Q => ∃ p ys, xs = [.ref p] ∧ (SqL K H p ys ∨ SqT K H p ys) ∧ Q (.int ys.length) H) [x] n Φ := fun G H us l z Q q => by
  obtain ⟨u, e, h⟩ := atl1 l
  subst e
  obtain ⟨p, vs, ew, hs, l2⟩ := at_lst z.i h hx
  subst ew
  exact ⟨p, vs, rfl, .inl hs, by rw [l2.length]; exact q _ _ n G H (.refl z) (.int _) k⟩
theorem rm_rep {ds : List D} {k : Int} (h0 : 0 ≤ k) (h1 : k ≤ 1000) (h2 : ds.length ≤ 1000) (p : Φ (.lst (List.replicate k.toNat ds).flatten) n) : RM K a rRep (.lst ds) (.int k) n Φ := fun G H u v tu tv z Q q => by
  cases tv
  cases tu with
  | @lst pp vs _ hs l =>
    refine ⟨pp, k, vs, rfl, rfl, z.i _ _ hs, by omega, by omega, ?_, fun b hb => ?_⟩
    · rw [l.length]
      exact Nat.le_trans (Nat.mul_le_mul h2 (show k.toNat ≤ 1000 by omega)) (by decide)
    · have gn := PG.new (G := G) (o := .lst (List.replicate k.toNat vs).flatten) z.i hb
      refine q _ _ n _ _ (gn.step z) (.lst upd_same (AtL.mono gn.g ?_)) p
      generalize k.toNat = c
      induction c with
      | zero => exact .nil
      | succ c ih => rw [List.replicate_succ, List.replicate_succ, List.flatten_cons, List.flatten_cons]; exact l.append ih
theorem rm_cat {xs ys : List D} (h : xs.length + ys.length ≤ 100000) (p : Φ (.lst (xs ++ ys)) n) : RM K a rCat (.lst xs) (.lst ys) n Φ := fun G H u v tu tv z Q q => by
  cases tu with
  | @lst p1 us _ hs l =>
    cases tv with
    | @lst p2 vs _ ht k =>
      refine ⟨p1, p2, us, vs, rfl, rfl, z.i _ _ hs, z.i _ _ ht, by rw [l.length, k.length]; exact Nat.le_trans h (by decide), fun b hb => ?_⟩
      have gn := PG.new (G := G) (o := .lst (us ++ vs)) z.i hb
      exact q _ _ n _ _ (gn.step z) (.lst upd_same ((l.append k).mono gn.g)) p
/-! the drawing list -/
/-- a def that makes the drawing list of the script -/
def spM (K : PySem.W.Frag) : Sp := fun vs H Q _ => ∃ (b : Addr) (ns : List Int) (i : Nat), vs = [.ref b, .int i] ∧ i ≤ 10 ∧ Sc K H b ns ∧ ns.length ≤ 63 ∧
  ∀ (p : Addr) (x y z : Int) (H' : Hp), H p = none → Ext H H' → 0 ≤ z → z ≤ 1 → H' p = some (.lst [.int x, .int y, .int z]) → Q (.ref p) H'
theorem body_M {t : TS} {Ns : List Str} {vs : List V} {H : Hp} {Q : VK} {E : XK} (h : spM K vs H Q E) (k : ∀ (ns : List Int) (i : Nat), ns.length ≤ 63 → i ≤ 10 → SM K C0 t (startD Ns [.scr ns, .int i]) ⟨0, []⟩ (fun _ _ => False) (.ret fun d _ => ∃ x y z : Int, d = .lst [.int x, .int y, .int z] ∧ 0 ≤ z ∧ z ≤ 1)) : t { nx := fun _ H' => Q .non H', rt := Q } (start Ns vs) H := by
  obtain ⟨b, ns, i, e, hi, hs, hl, q⟩ := h
  subst e
  -- of all that stands only the script is told
  have key : ∃ G : Hp, Ext G H ∧ Sc K G b ns ∧ ∀ p ys, G p ≠ none → ∀ G', Ext G G' → G' p ≠ some (.lst ys) := by
    rcases hs with ⟨o, hs⟩ | hs
    · refine ⟨fun c => if c = b then H c else none, fun c u e => ?_, .inl ⟨o, ?_⟩, fun p ys hp G' eg z => ?_⟩
      · have e : (if c = b then H c else none) = some u := e
        by_cases hc : c = b
        · rw [if_pos hc] at e; exact e
        · rw [if_neg hc] at e; cases e
      · show (if b = b then H b else none) = _
        rw [if_pos rfl]; exact hs
      · by_cases hc : p = b
        · subst hc
          have := eg p _ (show (if p = p then H p else none) = some _ by rw [if_pos rfl]; exact hs)
          rw [z] at this; cases this
        · exact hp (if_neg hc)
    · exact ⟨fun _ => none, fun c u e => (by cases e), Or.inr hs, fun p ys hp => absurd rfl hp⟩
  obtain ⟨G, iG, hsG, hno⟩ := key
  refine k ns i hl hi _ G H (AtS.start (.cons (.scr hsG) (.cons (.int _) .nil))) ⟨⟨iG, fun b e => (by cases e), fun e h => (List.not_mem_nil h).elim, List.nodup_nil⟩, fun _ _ _ _ _ _ _ _ _ _ _ _ x => x.elim⟩ _ ⟨fun _ _ _ _ _ _ _ z => z.elim, fun v d m G' H' g tv ⟨x, y, w, e, w0, w1⟩ => ?_, fun _ _ _ _ _ _ _ z => z.elim, fun _ _ _ _ _ _ _ z => z.elim⟩
  subst e
  have pg := g.toGrow.pg g.v.toIv0
  cases tv with
  | @lst p us _ hp l =>
    obtain ⟨u1, u2, u3, eu, h1, h2, h3⟩ := atl3 l
    subst eu
    cases h1; cases h2; cases h3
    have hpn : H p = none := by
      rcases pg.n p (by rw [hp]; simp) with z | z
      · exact absurd hp (hno p _ z G' g.g)
      · exact z
    exact q p x y w H' hpn pg.h w0 w1 (g.i p _ hp)
/-- v[i], v the drawing list: some int -/
theorem rm_v {b : Addr} (i : Nat) (hi : i < 3) (k : ∀ x : Int, (i = 2 → 0 ≤ x ∧ x ≤ n.n ∧ n.n ≤ 1000000) → Φ (.int x) n) : RM K (CV b) (rIxL K) (.adr b) (.int i) n Φ := fun G H u v tu tv z Q q => by
  cases tu; cases tv
  obtain ⟨gb, _, x, y, w, e, h1, h2, h3⟩ := z.vl b rfl
  match i, hi, k with
  | 0, _, k => exact ⟨b, _, 0, .int x, rfl, rfl, .inl (.inl e), rfl, q _ _ n G H (.refl z) (.int x) (k x (by simp))⟩
  | 1, _, k => exact ⟨b, _, 1, .int y, rfl, rfl, .inl (.inl e), rfl, q _ _ n G H (.refl z) (.int y) (k y (by simp))⟩
  | 2, _, k => exact ⟨b, _, 2, .int w, rfl, rfl, .inl (.inl e), rfl, q _ _ n G H (.refl z) (.int w) (k w fun _ => ⟨h1, h2, h3⟩)⟩
theorem vial_upd {b : Addr} {k : Nat} {x y z : Int} (v : Iv K (CV b) n G H) (h1 : 0 ≤ z) (h2 : z ≤ k) (h3 : k ≤ 1000000) : Step K (CV b) n G H ⟨k, n.c⟩ G (upd H b (.lst [.int x, .int y, .int z])) := by
  obtain ⟨gb, fb, _⟩ := v.vl b rfl
  refine v.mk' ⟨Ext.rfl', fun c u hc _ e => by rw [upd_ne (fun z => hc (by rw [z]))]; exact e, fun c h => .inl h, fun c h => .inl h⟩ ⟨fun c u e => ?_, fun c hc => ?_, fun e he => ?_, v.nd⟩
  · rw [upd_ne (fun z => by rw [z, gb] at e; cases e)]; exact v.i c u e
  · cases hc
    exact ⟨gb, fb, x, y, z, upd_same, h1, h2, h3⟩
  · obtain ⟨q1, q2⟩ := v.ow e he
    exact ⟨q1, q2.mono Ext.rfl' fun _ => upd_ne (fb e he)⟩
/-- v[i] = x, i 0 or 1 -/
theorem gm_v01 {b : Addr} {to ti : TE} (i up : Nat) (hi : i < 2) {x : Int} (h : EvM K (CV b) to Γ n fun d m => EvM K (CV b) ti Γ m fun j l => d = .adr b ∧ j = .int i ∧ l.n + up ≤ 1000000 ∧ N Γ ⟨l.n + up, l.c⟩) : GM K (CV b) (gSub to ti rSetL) (.int x) Γ n N := fun σ G H v S w t Q q =>
  h σ G H S w _ fun u d m G1 H1 g1 t1 p1 => p1 σ G1 H1 (S.mono g1.g) g1.v _ fun u2 j l G2 H2 g2 t2 ⟨e1, e2, e3, p2⟩ => by
    subst e1 e2
    cases t1; cases t2; cases t
    obtain ⟨gb, _, x0, y0, z0, e, h1, h2, h3⟩ := g2.v.vl b rfl
    match i, hi with
    | 0, _ => exact ⟨b, _, 0, 0, rfl, rfl, e, rfl, q σ Γ _ G2 _ ((g1.trans g2).trans (vial_upd g2.v (x := x) (y := y0) h1 (by omega) e3)) ((S.mono g1.g).mono g2.g) p2⟩
    | 1, _ => exact ⟨b, _, 1, 1, rfl, rfl, e, rfl, q σ Γ _ G2 _ ((g1.trans g2).trans (vial_upd g2.v (x := x0) (y := x) h1 (by omega) e3)) ((S.mono g1.g).mono g2.g) p2⟩
/-- v[2] = x: the number of draws -/
theorem gm_v2 {b : Addr} {to ti : TE} {x : Int} {m' : Nat} (h0 : 0 ≤ x) (h1 : x ≤ m') (h2 : m' ≤ 1000000) (h : EvM K (CV b) to Γ n fun d m => EvM K (CV b) ti Γ m fun j l => d = .adr b ∧ j = .int 2 ∧ N Γ ⟨m', l.c⟩) : GM K (CV b) (gSub to ti rSetL) (.int x) Γ n N := fun σ G H v S w t Q q =>
  h σ G H S w _ fun u d m G1 H1 g1 t1 p1 => p1 σ G1 H1 (S.mono g1.g) g1.v _ fun u2 j l G2 H2 g2 t2 ⟨e1, e2, p2⟩ => by
    subst e1 e2
    cases t1; cases t2; cases t
    obtain ⟨gb, _, x0, y0, z0, e, _⟩ := g2.v.vl b rfl
    exact ⟨b, _, 2, 2, rfl, rfl, e, rfl, q σ Γ _ G2 _ ((g1.trans g2).trans (vial_upd g2.v (x := x0) (y := y0) h0 h1 h2)) ((S.mono g1.g).mono g2.g) p2⟩
theorem cm_divmod {i j : Int} (h0 : 0 < j) (h1 : j < 1073741824) (k : Φ (.tup [.int (i / j), .int (i % j)]) n) : CM K a (fun xs H Q => ∃ i j, xs = [.int i, .int j] ∧ CDiv i j ∧ ∀ p, H p = none → Q (.ref p) (upd H p (.tup [.int (i / j), .int (i % j)]))) [.int i, .int j] n Φ := fun G H us l z Q q => by
  obtain ⟨u1, u2, e, t1, t2⟩ := atl2 l
  subst e; cases t1; cases t2
  refine ⟨i, j, rfl, ⟨h0, h1⟩, fun p hp => ?_⟩
  have gn := PG.new (G := G) (o := .tup [.int (i / j), .int (i % j)]) z.i hp
  exact q _ _ n _ _ (gn.step z) (.tup (.inl (.inl upd_same)) (.cons (.int _) (.cons (.int _) .nil))) k
/-- right(vial(script, i)) -/
theorem em_fresh {P : List D → Nat → (D → Nat → Prop) → Prop} {E' : XK} (h : AvM K C0 t Γ n fun ds m => ∃ (ns : List Int) (i : Nat), ds = [.scr ns, .int i] ∧ i ≤ 10 ∧ ns.length ≤ 63 ∧ P [] 1 fun d _ => Φ d m) :
    EvM K C0 (tCall (spV K P) [] E (tCons (tCall (spM K) [] E' t) tNil)) Γ n Φ := fun σ G H S z Q q =>
  h σ G H S z _ fun us ds m G1 H1 g1 t1 ⟨ns, i, e, hi, hl, hp⟩ => by
    subst e
    obtain ⟨u1, u2, eu, h1, h2⟩ := atl2 t1
    subst eu
    cases h2
    cases h1 with
    | @scr b _ hs =>
      show spM K ([V.ref b, V.int i] ++ []) H1 _ E'
      refine ⟨b, ns, i, rfl, hi, hs.ext g1.i, hl, fun p x y w H2 hpn e2 w0 w1 e3 => ?_⟩
      show spV K P ([V.ref p] ++ []) H2 Q E
      have gp : G1 p = none := gnone g1.i hpn
      have pg : PG G1 H1 G1 H2 := ⟨Ext.rfl', e2, g1.i.trans e2, fun b h => .inl h⟩
      have s2 := pg.step g1.v
      refine ⟨G1, p, [], 1, [], _, rfl, ⟨g1.i.trans e2, fun b hb => ?_, fun e h => (List.not_mem_nil h).elim, List.nodup_nil⟩, .nil, hp, fun u d l G3 H3 g3 w3 t3 p3 => ?_⟩
      · cases hb
        exact ⟨gp, fe0, x, y, w, e3, w0, w1, by decide⟩
      · have k1 : ∀ b o, H1 b = some o → H3 b = some o := fun b o e => g3.h b o (fun z => by cases z; rw [hpn] at e; cases e) fe0 (e2 b o e)
        have pg3 : PG G1 H1 G3 H3 := ⟨g3.g, k1, w3.i, fun b hb => by
          rcases g3.w b hb with z | z | z
          · exact .inl z
          · refine .inr ?_
            cases k : H1 b with
            | none => rfl
            | some o => rw [e2 b o k] at z; cases z
          · exact absurd fe0 z⟩
        exact q u d m G3 H3 (g1.trans (pg3.step g1.v)) t3 p3
end
end DM

set_option linter.all false
set_option maxRecDepth 100000
set_option maxHeartbeats 4000000
namespace DM
open PySem PySem.Spec PyProof.Rows L2
mutual
def big : D → Nat
  | .int _ => 1921 | .non => 4 | .bl _ => 5 | .tup ds => bigL ds + 3 | .lst ds => bigL ds + 3
  | .str _ => 0 | .adr _ => 0 | .ty _ => 0 | .scr _ => 0 | .ins _ _ => 0 | .dct _ => 0
def bigL : List D → Nat
  | [] => 0 | d :: ds => big d + 2 + bigL ds
end
mutual
def okD : D → Prop
  | .int i => i.natAbs < 10 ^ 200 | .non => True | .bl _ => True | .tup ds => okL ds | .lst ds => okL ds
  | .str _ => False | .adr _ => False | .ty _ => False | .scr _ => False | .ins _ _ => False | .dct _ => False
def okL : List D → Prop
  | [] => True | d :: ds => okD d ∧ okL ds
end
mutual
def dep : D → Nat
  | .int _ => 0 | .non => 0 | .bl _ => 0 | .tup ds => depL ds + 1 | .lst ds => depL ds + 1
  | .str _ => 0 | .adr _ => 0 | .ty _ => 0 | .scr _ => 0 | .ins _ _ => 0 | .dct _ => 0
def depL : List D → Nat
  | [] => 0 | d :: ds => max (dep d) (depL ds)
end
set_option exponentiation.threshold 3000 in
theorem log_lt {x : Nat} (h : x < 10 ^ 200) : x.log2 < 700 := by
  by_cases h0 : x = 0
  · subst h0; decide
  · rw [Nat.log2_lt h0]
    exact Nat.lt_trans h (by decide)
structure ShD (d : D) (p : PyData) (b k : Nat) : Prop where
  sh : p.showable = true
  ln : p.shown.length ≤ b
  nd : p.hasDict = false
  pu : pur d = true
  dp : p.depth = k
structure ShL (ds : List D) (ps : List PyData) (b k : Nat) : Prop where
  sh : PyData.showableAll ps = true
  ln : ((PyData.shownAll ps).map (·.length)).sum + 2 * (PyData.shownAll ps).length ≤ b
  nd : PyData.hasDictAll ps = false
  pu : purL ds = true
  dp : PyData.depthAll ps = k
mutual
theorem shown_le : ∀ d : D, okD d → ShD d (py d) (big d) (dep d)
  | .int i, h => by
    have h' : i.natAbs < 10 ^ 200 := h
    refine ⟨?_, ?_, rfl, rfl, rfl⟩
    · show decide (i.natAbs.log2 < 1920) = true
      exact decide_eq_true (Nat.lt_trans (log_lt h') (by decide))
    · exact int_text_len_1921 (Nat.lt_trans (log_lt h') (by decide))
  | .non, _ => ⟨rfl, (by show (Str.ofString "None").length ≤ 4; decide +kernel), rfl, rfl, rfl⟩
  | .bl b, _ => ⟨rfl, (by cases b; (show (Str.ofString "False").length ≤ 5; decide +kernel); (show (Str.ofString "True").length ≤ 5; decide +kernel)), rfl, rfl, rfl⟩
  | .tup ds, h => by
    obtain ⟨h1, h2, h3, h4, h5⟩ := shownL_le ds h
    refine ⟨h1, ?_, h3, h4, by show PyData.depthAll (pyL ds) + 1 = depL ds + 1; rw [h5]⟩
    exact Nat.le_trans (tupleText_len_le _) (Nat.add_le_add_right h2 3)
  | .lst ds, h => by
    obtain ⟨h1, h2, h3, h4, h5⟩ := shownL_le ds h
    refine ⟨h1, ?_, h3, h4, by show PyData.depthAll (pyL ds) + 1 = depL ds + 1; rw [h5]⟩
    exact Nat.le_trans (listText_len_le _) (Nat.add_le_add_right h2 3)
  | .str _, h => h.elim
  | .adr _, h => h.elim
  | .ty _, h => h.elim
  | .scr _, h => h.elim
  | .ins _ _, h => h.elim
  | .dct _, h => h.elim
theorem shownL_le : ∀ ds : List D, okL ds → ShL ds (pyL ds) (bigL ds) (depL ds)
  | [], _ => ⟨rfl, Nat.le_refl _, rfl, rfl, rfl⟩
  | d :: ds, h => by
    obtain ⟨h1, h2, h3, h4, h5⟩ := shown_le d h.1
    obtain ⟨k1, k2, k3, k4, k5⟩ := shownL_le ds h.2
    refine ⟨?_, ?_, ?_, ?_, ?_⟩
    · show (PyData.showable (py d) && PyData.showableAll (pyL ds)) = true
      rw [h1, k1]; rfl
    · show (((py d).shown :: PyData.shownAll (pyL ds)).map (·.length)).sum + 2 * ((py d).shown :: PyData.shownAll (pyL ds)).length ≤ big d + 2 + bigL ds
      rw [List.map_cons, List.sum_cons, List.length_cons]
      omega
    · show (PyData.hasDict (py d) || PyData.hasDictAll (pyL ds)) = false
      rw [h3, k3]; rfl
    · show (pur d && purL ds) = true
      rw [h4, k4]; rfl
    · show max (PyData.depth (py d)) (PyData.depthAll (pyL ds)) = max (dep d) (depL ds)
      rw [h5, k5]
end
theorem sz24 : (16777216 : Nat) = sizeLine := by rw [sizeLine_eq]
section
variable {K : PySem.W.Frag} {a : Cd} {n : Mm} {Φ : D → Mm → Prop}
theorem cm_reprD {x : D} (ho : okD x) (hr : ∃ ds, x = .tup ds ∨ x = .lst ds) (hb : big x ≤ 16777216) (hd : dep x ≤ 64) (k : Φ (.str (py x).shown) n) : CM K a (rRepr K) [x] n Φ := by
  obtain ⟨h1, h2, h3, h4, h5⟩ := shown_le x ho
  exact cm_repr h4 hr h1 h3 (by rw [h5]; exact hd) (by rw [← sz24]; exact Nat.le_trans h2 hb) k
end
end DM

set_option linter.all false
set_option maxRecDepth 100000
set_option maxHeartbeats 4000000
namespace DM
open PySem PySem.Spec PyProof.Rows L2
/-- the law's own promise: the script in, True out -/
def P_law : List D → (D → Prop) → Prop := fun ds Φ => ∃ ns : List Int, ds = [.scr ns] ∧ ns.length ≤ 63 ∧ Φ (.bl true)
section
variable {P : Program} {w : World} {K : PySem.W.Frag} {mg mb : Str → Option Value} {k : Nat} {fa a : Addr} {fd : FuncData} {x : Str} {s : Shared} {vs : List Value} {ns : List Int}
/-- the law, called on a heap of which the abstract heap H tells the script alone (or nothing) -/
theorem start_at (KX : K.In s.heap) (hns : s.heap.Ns mainGlobals mg) (hb : s.heap.Ns builtinsNs mb) (hbb : ∀ x : Str, x ≠ "__name__" → mb x = bootBuiltins x) (hlim : s.heap.NoLimit) (hg : s.gens = #[])
    (ha : s.heap.get? a = some { cls := .type "list", data := .seq vs.toArray }) (hl : ns.length ≤ 63) (hr : Room k callerA)
    (F : ∀ base : Heap, K.In base → base.Ns mainGlobals mg → FnG P w K mg base CX0 k fa fd [x] (spP K P_law)) (hbind : ∀ (s : Shared) (u : Value), BindsTo s fd ⟨[u], []⟩ [(x, u)])
    (H : Hp) (hok : HOk P w H s.heap) (hA : ∀ b, H b ≠ none → b = a) (hK : H a ≠ none → K.lookup a = none) (hf : ∀ b o, H b = some o → ∃ ob, o = .frz ob (.lst (ns.map V.int))) (hS : Sc K H a ns) :
    codeAny (model P w) callerA (.call (.ref fa) ⟨[.ref a], []⟩) (fun r s' => r = .ok (.ret (.bool true)) ∧ OldK s.heap s'.heap ∧ s'.os = s.os ∧ AllBare s'.gens) s := by
  have free : ∀ b, b ≠ a → H b = none := fun b hne => Classical.byContradiction fun z => hne (hA b z)
  -- what is no list like the script stays in the hidden heap
  have kept : ∀ {b : Addr} {o : Obj}, s.heap.get? b = some o → (∀ es ep, o.data ≠ .dict es ep → True) → (b = a → H a = none) → (hidT s.heap H).get? b = some o := fun {b o} e _ z => by
    refine hidT_get e ?_
    by_cases hba : b = a
    · rw [hba]; exact z hba
    · exact free b hba
  have isdict : ∀ {b : Addr} {m : Str → Option Value}, s.heap.Ns b m → (hidT s.heap H).Ns b m := fun {b m} hN => by
    obtain ⟨o, es, ep, e, d, rest⟩ := hN
    refine ⟨o, es, ep, kept e (fun _ _ _ => trivial) (fun hba => ?_), d, rest⟩
    rw [hba, ha] at e
    cases Option.some.inj e
    cases d
  have inB : K.In (hidT s.heap H) := fun b o e => kept (KX b o e) (fun _ _ _ => trivial) fun hba => Classical.byContradiction fun z => by
    rw [hba, hK z] at e
    cases e
  have md : Mod K mg (hidT s.heap H) := ⟨inB, isdict hns, ⟨mb, isdict hb, hbb⟩, by obtain ⟨mc, q1, q2⟩ := hlim; exact ⟨mc, isdict q1, q2⟩⟩
  have e0 : Env0 P w K mg (hidT s.heap H) callerA [] s H :=
    ⟨rfl, md, fun _ _ e => of_hidT e, Nat.le_of_eq (hidT_size _ _), trivial, fun _ hb => (List.not_mem_nil hb).elim, hok, .of_eq hg⟩
  have prom : spP K P_law [.ref a] H (fun v _ => v = .bl true) (fun _ _ _ => False) :=
    ⟨H, [.scr ns], fun d => d = .bl true, Ext.rfl', .cons (.scr hS) .nil, ⟨ns, rfl, hl, rfl⟩, fun v d G' H' _ t e => by subst e; cases t; rfl⟩
  have run := (F _ inB (isdict hns)).run callerA [] s H ⟨[.ref a], []⟩ [.ref a] [.ref a] _ _ hr rfl e0 (hbind s (.ref a)) (.cons rfl .nil) prom
  refine codeAny_mono run fun r s' z => ?_
  match r, z with
  | .error e, z => exact z.elim
  | .ok (.ret u), z =>
    obtain ⟨v, H', os, bare, un, hok', rv, q⟩ := z
    subst q
    cases (show u = Value.bool true from rv)
    refine ⟨rfl, OldK.of_keep fun b o e => ?_, os, bare⟩
    cases q : H b with
    | none => exact un.keep b o e q (fun y => (List.not_mem_nil y).elim) (List.not_mem_nil)
    | some u =>
      obtain ⟨ob, eu⟩ := hf b u q
      subst eu
      have after := hok' b _ (un.frzs b ob _ q)
      have before := hok b _ q
      have : some o = some ob := e.symm.trans before.1
      cases this
      exact after.1
theorem start_law (KX : K.In s.heap) (hns : s.heap.Ns mainGlobals mg) (hb : s.heap.Ns builtinsNs mb) (hbb : ∀ x : Str, x ≠ "__name__" → mb x = bootBuiltins x) (hlim : s.heap.NoLimit) (hg : s.gens = #[])
    (ha : s.heap.get? a = some { cls := .type "list", data := .seq vs.toArray }) (hi : IntsAre vs ns) (hl : ns.length ≤ 63) (hr : Room k callerA)
    (F : ∀ base : Heap, K.In base → base.Ns mainGlobals mg → FnG P w K mg base CX0 k fa fd [x] (spP K P_law)) (hbind : ∀ (s : Shared) (u : Value), BindsTo s fd ⟨[u], []⟩ [(x, u)]) :
    codeAny (model P w) callerA (.call (.ref fa) ⟨[.ref a], []⟩) (fun r s' => r = .ok (.ret (.bool true)) ∧ OldK s.heap s'.heap ∧ s'.os = s.os ∧ AllBare s'.gens) s := by
  have rv := vals_ints hi
  have line : ns.length ≤ sizeLine := Nat.le_trans hl (by decide)
  cases hk : K.lookup a with
  | some o =>
    have e := KX a o hk
    rw [ha] at e
    cases Option.some.inj e
    refine start_at KX hns hb hbb hlim hg ha hl hr F hbind (fun _ => none) (fun b u z => by cases z) (fun b z => absurd rfl z) (fun z => absurd rfl z) (fun b o z => by cases z) (.inr fun H' => .inr ⟨_, vs.toArray, _, hk, rfl, rfl, rfl, ?_, by simpa using rv⟩)
    rw [List.size_toArray, hi.length]
    exact line
  | none =>
    let T : HO := .frz { cls := .type "list", data := .seq vs.toArray } (.lst (ns.map V.int))
    have at_a : (fun b => if b = a then some T else none) a = some T := if_pos rfl
    refine start_at KX hns hb hbb hlim hg ha hl hr F hbind (fun b => if b = a then some T else none) (fun b u z => ?_) (fun b z => ?_) (fun _ => hk) (fun b o z => ?_) (.inl ⟨_, at_a⟩)
    · have z : (if b = a then some T else none) = some u := z
      by_cases hba : b = a
      · rw [if_pos hba] at z
        cases Option.some.inj z
        subst hba
        exact ⟨ha, by rw [List.length_map]; exact line, vs, _, rv, ha⟩
      · rw [if_neg hba] at z; cases z
    · exact Classical.byContradiction fun hba => z (if_neg hba)
    · have z : (if b = a then some T else none) = some o := z
      by_cases hba : b = a
      · rw [if_pos hba] at z
        exact ⟨_, (Option.some.inj z).symm⟩
      · rw [if_neg hba] at z; cases z
end
/-- what the head leaves of a law, from its def's promise -/
theorem walkG {l : PySem.W.OpenLaw} {k : Nat} {q : Program} {loose : List Str} {XP : (Str → Option Value) → Heap → Prop} {YP : World → Heap → Prop} {d : DefRec} {K : Params → PySem.W.Frag} {x : Str}
    (hn : l.most = some 63) (hdf : d.params.defaults = []) (hr : Room k callerA) (hY : ∀ (w : World) (h : Heap), YP w h → (K w.params).In h)
    (F : ∀ (w : World) (mg : Str → Option Value) (fa : Addr) (h : Heap), (K w.params).In h → h.Ns mainGlobals mg → mg d.name = some (.ref fa) →
      ∃ fd : FuncData, (∀ (s : Shared) (u : Value), BindsTo s fd ⟨[u], []⟩ [(x, u)]) ∧ ∀ base : Heap, (K w.params).In base → base.Ns mainGlobals mg → FnG l.prog w (K w.params) mg base CX0 k fa fd [x] (spP (K w.params) P_law)) :
    PySem.W.WalkO q loose XP YP l.row.toRowW d [] (fun f vs => PySem.call f vs) := by
  refine Att.attach_call hn hdf fun w s₀ s₁ mg mb fa o pm cd doc a vs ns G Y ho hd hcd hmg hobj hints hlen hg => ?_
  obtain ⟨fd, hbd, hF⟩ := F w mg fa _ (hY w _ Y) G.T.g hmg
  exact start_law (hY w _ Y) G.T.g G.T.b G.T.builtins G.T.nolimit hg hobj hints hlen hr hF hbd
end DM

set_option linter.all false
set_option maxRecDepth 100000
set_option maxHeartbeats 4000000
namespace DM
open PySem PySem.Spec PyProof.Rows L2
/-! ### texts: backwards, so many times -/
def revS (z : Str) : Str := ⟨z.cps.toList.reverse.toArray⟩
def repS (z : Str) (k : Int) : Str := ⟨(List.replicate k.toNat z.cps).foldl (· ++ ·) #[]⟩
def tRevS (te : TE) : TE := fun σ H Q => te σ H fun x H1 => ∃ z, x = .str z ∧ z.length ≤ sizeLine ∧ Q (.str (revS z)) H1
section
variable {X : Cx}
theorem pe_revS {e : Expr} {te : TE} {k : Nat} {p1 p2 p3 pos : Pos} (he : PE X e te) : PE X (.Subscript e (.Slice none none (some (.UnaryOp .USub (.Constant (.int 1) k p1) p2)) p3) pos) (tRevS te) := by
  refine PE.mk fun pins s σ H Q I h => ?_
  refine Subscript_ (thn (he.run pins s σ H _ I h) fun v sa ⟨x, Ha, Ja, rv, qv⟩ => ?_)
  obtain ⟨z, ex, hz, q⟩ := qv
  subst ex
  obtain ⟨t, rfl⟩ := rv
  have hstep : PO X (some (.UnaryOp .USub (.Constant (.int 1) k p1) p2)) 
      (tPart (tUn (rU fun i => .int (-i)) (tC (.int 1)))) := po_some (pe_un un_neg pe_int)
  refine wpAny_Slice (thn (po_none.run pins sa σ Ha (fun o Hb => o = none ∧ Hb = Ha) Ja ⟨rfl, rfl⟩) fun wlo sb ⟨l, Hb, Jb, plo, elo, ea⟩ => ?_)
  subst elo ea
  refine thn (po_none.run pins sb σ Hb (fun o Hc => o = none ∧ Hc = Hb) Jb ⟨rfl, rfl⟩) fun whi sc ⟨u, Hc, Jc, phi, ehi, ec⟩ => ?_
  subst ehi ec
  refine thn (hstep.run pins sc σ Hc (fun o Hd => o = some (-1) ∧ Hd = Hc) Jc ⟨1, rfl, -1, rfl, rfl, rfl⟩) fun wst sd ⟨o, Hd, Jd, pst, est, ed⟩ => ?_
  subst est ed
  have Je : L2.Inv X pins σ Hd { sd with heap := sd.heap.push { cls := .type "slice", data := .fields #[wlo, whi, wst] } } := Jd.kept (t' := sd.toks) fun b ob q => Heap.get?_push_of_some _ q
  show wpAny (model X.prog X.w) X.A (subscriptTail e (.Slice none none (some (.UnaryOp .USub (.Constant (.int 1) k p1) p2)) p3) (.str z t) (.ref sd.heap.objs.size)) (EP X pins σ Q) X.xe { sd with heap := sd.heap.push { cls := .type "slice", data := .fields #[wlo, whi, wst] } }
  refine tail_any (ops := [.str z t, .ref sd.heap.objs.size]) (typeIs_str _ z t) slot_str_getitem.lookup ?_ (by with_unfolding_all rfl)
  obtain ⟨ts, hts⟩ : ∃ ts, wst = .int (-1) ts := by cases pst; exact ⟨_, rfl⟩
  have hvl : wlo = .none := by cases plo; rfl
  have hvu : whi = .none := by cases phi; rfl
  subst hts hvl hvu
  refine wpAny_getItem_str_slice (l := none) (u := none) (st := some (-1, ts)) ⟨_, Heap.get?_push_size _ rfl, rfl, rfl⟩ (by rfl) ?_
  have e : (slicePicked z none none (some (-1, ts))).filterMap (z.cps[·]?) = z.cps.toList.reverse := by
    show (Builtin.Str.strSliceIndices none none (-1) z.length).filterMap (z.cps[·]?) = _
    have ea : Builtin.Str.strSliceIndices none none (-1) z.length = sliceRange ((z.length : Int) - 1) (-1) (-1) := by
      rfl
    rw [ea, PySem.W.krv_sliceRange, PySem.W.krv_range, List.filterMap_reverse]
    show ((List.range z.cps.size).filterMap (z.cps[·]?)).reverse = _
    rw [PySem.W.krv_all]
  unfold sliceMade
  rw [if_neg (by simp), e]
  refine ⟨?_, .str _, Hd, Je.tok _, ⟨_, rfl⟩, q⟩
  show (Array.size (List.toArray _)) ≤ _
  rw [List.size_toArray, List.length_reverse, Array.length_toList]
  exact hz
theorem takesN : Takes X (fun _ _ _ _ => False) := fun _ _ x => by
  obtain ⟨_, _, _, _, _, _, _, _, _, _, _, _, _, _, _, _, z⟩ := x
  exact z.elim
theorem op_mul_str : OpR X (binaryOp .Mult) (fun x y H Q => ∃ z k, x = .str z ∧ y = .int k ∧ 2 ≤ k ∧ k ≤ 1000 ∧ z.length ≤ 4000 ∧ Q (.str (repS z k)) H) := by
  intro pins s σ H x y v u Q I rx ry h
  obtain ⟨z, k, rfl, rfl, h1, h2, h3, q⟩ := h
  obtain ⟨t, rfl⟩ := rx
  obtain ⟨t', rfl⟩ := ry
  have hs : (4000000 : Nat) ≤ sizeLine := by decide
  have hmul : z.length * k.toNat ≤ 4000000 := Nat.le_trans (Nat.mul_le_mul h3 (show k.toNat ≤ 1000 by omega)) (by decide)
  refine PySem.P.mul_str (x := z) (n := k) (t := t) (u := t') ?_ (fun _ _ => ?_) (fun _ _ => ?_) ?_
  · have e1 : decide (k < -(2 ^ 63 : Int)) = false := decide_eq_false (by omega)
    have e2 : decide (k ≥ 2 ^ 63) = false := decide_eq_false (by omega)
    rw [e1, e2]; rfl
  · have e3 : (2 ^ 63 - 1 : Int) / 1000 ≤ (2 ^ 63 - 1) / k := by
      rw [Int.le_ediv_iff_mul_le (by omega)]
      have : (2 ^ 63 - 1 : Int) / 1000 * k ≤ (2 ^ 63 - 1 : Int) / 1000 * 1000 := Int.mul_le_mul_of_nonneg_left h2 (by decide)
      exact Int.le_trans this (by decide)
    have e4 : (4000 : Int) ≤ (2 ^ 63 - 1) / 1000 := by decide
    omega
  · show decide (z.length * k.toNat > _) = false
    refine decide_eq_false (Nat.not_lt.mpr (Nat.le_trans hmul ?_))
    decide
  · rw [if_neg (by omega)]
    split
    · next h =>
      have hz : z.length = 0 := by
        simp only [Bool.or_eq_true, beq_iff_eq] at h
        omega
      have hc : z.cps = #[] := Array.eq_empty_of_size_eq_zero hz
      have e : repS z k = z := by
        obtain ⟨c⟩ := z
        have hc : c = #[] := hc
        subst hc
        unfold repS
        congr 1
        generalize k.toNat = m
        induction m with
        | zero => rfl
        | succ m ih => rw [List.replicate_succ, List.foldl_cons]; exact ih
      rw [e] at q
      exact ⟨.str z, H, I, ⟨_, rfl⟩, q⟩
    · refine ⟨?_, .str _, H, I.tok _, ⟨_, rfl⟩, q⟩
      show Array.size _ ≤ _
      have f0 : ∀ (m : Nat) (a : Array Nat), ((List.replicate m z.cps).foldl (· ++ ·) a).size = a.size + m * z.cps.size := by
        intro m
        induction m with
        | zero => intro a; simp
        | succ m ih => intro a; rw [List.replicate_succ, List.foldl_cons, ih, Array.size_append, Nat.succ_mul]; omega
      rw [f0]
      show 0 + k.toNat * z.length ≤ _
      rw [Nat.zero_add, Nat.mul_comm]
      exact Nat.le_trans hmul hs
end
section
variable {K : PySem.W.Frag} {a : Cd} {Γ : EnvD} {n : Mm} {Φ : D → Mm → Prop} {ta tb te tl to : TE} {t tk : TA} {E : XK} {N : EnvD → Mm → Prop} {R : Rs} {tu : TS} {d : D} {G H : Hp}
theorem em_revS (h : EvM K a te Γ n fun x m => ∃ z : Str, x = .str z ∧ z.length ≤ sizeLine ∧ Φ (.str (revS z)) m) : EvM K a (tRevS te) Γ n Φ := fun σ G H S v Q q =>
  h σ G H S v _ fun x dx m G1 H1 g1 t1 ⟨z, e, hz, p⟩ => by
    subst e; cases t1
    exact ⟨z, rfl, hz, q _ _ m G1 H1 g1 (.str _) p⟩
theorem rm_mulS {z : Str} {k : Int} (h1 : 2 ≤ k) (h2 : k ≤ 1000) (h3 : z.length ≤ 4000) (p : Φ (.str (repS z k)) n) : RM K a (fun x y H Q => ∃ z k, x = .str z ∧ y = .int k ∧ 2 ≤ k ∧ k ≤ 1000 ∧ z.length ≤ 4000 ∧ Q (.str (repS z k)) H) (.str z) (.int k) n Φ := fun G H u v tu tv w Q q => by
  cases tu; cases tv
  exact ⟨z, k, rfl, rfl, h1, h2, h3, q _ _ n G H (.refl w) (.str _) p⟩
theorem rm_ixStr {z : Str} {i : Int} {c : Nat} (hz : z.length ≤ sizeLine) (h : atI z.cps.toList i = some c) (p : Φ (chrD c) n) : RM K a rIxS (.str z) (.int i) n Φ := fun G H u v tu tv w Q q => by
  cases tu; cases tv
  exact ⟨z, i, c, rfl, rfl, hz, h, q _ _ n G H (.refl w) (.str _) p⟩
theorem em_join (h : EvM K a to Γ n fun x m => ∃ s : Str, x = .str s ∧ EvM K a te Γ m fun y l => ∃ ys : List Str, y = .lst (ys.map D.str) ∧ (ys.map (·.length)).sum + ys.length * s.length ≤ 16777216 ∧ Φ (.str (Txt.join s ys)) l) :
    EvM K a (tM1 (fun x xs H Q => ∃ a p, ∃ ys : List Str, x = .str a ∧ xs = [.ref p] ∧ (SqL K H p (ys.map V.str) ∨ SqT K H p (ys.map V.str)) ∧ (ys.map (·.length)).sum + ys.length * a.length ≤ 16777216 ∧ Q (.str (Txt.join a ys)) H) to te) Γ n Φ := fun σ G H S v Q q =>
  h σ G H S v _ fun x dx m G1 H1 g1 t1 ⟨s, e, p1⟩ => by
    subst e; cases t1
    refine ⟨⟨s, rfl⟩, ?_⟩
    refine p1 σ G1 H1 (S.mono g1.g) g1.v _ fun y dy l G2 H2 g2 t2 ⟨ys, ey, hl, p2⟩ => ?_
    subst ey
    cases t2 with
    | lst hs l2 =>
      have eu := atl_strs l2
      subst eu
      exact ⟨s, _, ys, rfl, rfl, .inl (ext_lst g2.i hs), hl, q _ _ l G2 H2 (g1.trans g2) (.str _) p2⟩
theorem em_index (h : EvM K a to Γ n fun x m => ∃ s : Str, x = .str s ∧ EvM K a te Γ m fun y l => ∃ (z : Str) (k : Nat), y = .str z ∧ Txt.index0 s z = some k ∧ Φ (.int k) l) : EvM K a (tBMS K "str" (rIndexX fun _ _ _ _ => False) to (tCons te tNil)) Γ n Φ := fun σ G H S v Q q =>
  h σ G H S v _ fun x dx m G1 H1 g1 t1 ⟨s, e, p1⟩ => by
    subst e; cases t1
    refine ⟨rfl, ?_⟩
    refine p1 σ G1 H1 (S.mono g1.g) g1.v _ fun y dy l G2 H2 g2 t2 ⟨z, k, ey, hk, p2⟩ => ?_
    subst ey; cases t2
    exact ⟨s, z, rfl, rfl, fun j hj => by rw [hk] at hj; cases hj; exact q _ _ l G2 H2 (g1.trans g2) (.int _) p2, fun hj => by rw [hk] at hj; cases hj⟩
theorem em_cb1 {r : V → List V → Hp → VK → Prop} (h : EvM K a to Γ n fun x m => ∃ s : Str, x = .str s ∧ EvM K a te Γ m fun y l => CM K a (fun us H Q => ∃ y, us = [y] ∧ r (.str s) [y] H Q) [y] l Φ) : EvM K a (tM1 r to te) Γ n Φ := fun σ G H S v Q q =>
  h σ G H S v _ fun x dx m G1 H1 g1 t1 ⟨s, e, p1⟩ => by
    subst e; cases t1
    refine ⟨⟨s, rfl⟩, ?_⟩
    refine p1 σ G1 H1 (S.mono g1.g) g1.v _ fun y dy l G2 H2 g2 t2 p2 => ?_
    obtain ⟨u, eu, z⟩ := p2 G2 H2 [y] (.cons t2 .nil) g2.v Q fun w d l' G3 H3 g3 t3 p3 => q w d l' G3 H3 ((g1.trans g2).trans g3) t3 p3
    cases eu
    exact z
/-- a written dict with text keys -/
theorem rm_inKD {w : World} {b : Addr} {z : Str} {r : Option Value} (h : PySem.W.nsIn K b z = some r) (p : Φ (.bl r.isSome) n) : RM K a (fun x y H Q => ∃ (z : Str) (r : Option Value), x = .str z ∧ y = .ref b ∧ PySem.W.nsIn K b z = some r ∧ Q (.bl r.isSome) H) (.str z) (.adr b) n Φ := fun G H u v tu tv w Q q => by
  cases tu; cases tv
  exact ⟨z, r, rfl, rfl, h, q _ _ n G H (.refl w) (.bl _) p⟩
theorem rm_ixKD {w : World} {b : Addr} {z : Str} {i : Int} (h : KDct K w b z (.int i)) (p : Φ (.int i) n) : RM K a (rIxD K w) (.adr b) (.str z) n Φ := fun G H u v tu tv w Q q => by
  cases tu; cases tv
  exact ⟨b, z, .int i, rfl, rfl, h, q _ _ n G H (.refl w) (.int _) p⟩
theorem sm_asg3 {g1 g2 g3 : TG} (h : EvM K a te Γ n fun d m => GM K a g1 d Γ m fun Γ1 l1 => GM K a g2 d Γ1 l1 fun Γ2 l2 => GM K a g3 d Γ2 l2 N) : SM K a (tAsg3 te g1 g2 g3) Γ n N R := fun σ G H S z Dn e =>
  h σ G H S z _ fun w d m G1 H1 s1 t1 p1 => p1 σ G1 H1 w (S.mono s1.g) s1.v t1 _ fun σ2 Γ2 m2 G2 H2 s2 S2 p2 => p2 σ2 G2 H2 w S2 s2.v (t1.mono s2.g) _ fun σ3 Γ3 m3 G3 H3 s3 S3 p3 =>
    p3 σ3 G3 H3 w S3 s3.v ((t1.mono s2.g).mono s3.g) _ fun σ4 Γ4 m4 G4 H4 s4 S4 p4 => e.nx σ4 Γ4 m4 G4 H4 (((s1.trans s2).trans s3).trans s4) S4 p4
theorem sm_aug {i : Nat} {x : Int} {f : Int → Int → Int} (hx : Γ[i]? = some (some (.int x))) (h : EvM K a te Γ n fun d m => ∃ y, d = .int y ∧ N (Γ.set i (some (.int (f x y)))) m) : SM K a (tAug i te (ipI f)) Γ n N R := fun σ G H S z Dn e => by
  obtain ⟨u, hu, tu'⟩ := S.get hx
  cases tu'
  refine ⟨_, hu, h σ G H S z _ fun w d m G1 H1 s1 t1 ⟨y, ey, p⟩ => ?_⟩
  subst ey; cases t1
  exact ⟨x, y, rfl, rfl, e.nx _ _ m G1 H1 s1 ((S.mono s1.g).set i (.int _)) p⟩
end
end DM

set_option linter.all false
set_option maxRecDepth 100000
set_option maxHeartbeats 4000000
namespace DM
open PySem PySem.Spec PyProof.Rows L2
/-! ### how great a number is -/
def Bk (k : Nat) (x : Int) : Prop := x.natAbs < 10 ^ k
theorem Bk.up {j k : Nat} {x : Int} (h : Bk j x) (l : j ≤ k) : Bk k x := Nat.lt_of_lt_of_le h (Nat.pow_le_pow_right (by decide) l)
theorem Bk.mul {j k : Nat} {x y : Int} (h : Bk j x) (l : Bk k y) : Bk (j + k) (x * y) := by
  unfold Bk at *
  rw [Int.natAbs_mul, Nat.pow_add]
  exact Nat.mul_lt_mul'' h l
theorem Bk.add {j k : Nat} {x y : Int} (h : Bk j x) (l : Bk k y) : Bk (j + k + 1) (x + y) := by
  unfold Bk at *
  have h1 : x.natAbs < 10 ^ (j + k) := Nat.lt_of_lt_of_le h (Nat.pow_le_pow_right (by decide) (by omega))
  have h2 : y.natAbs < 10 ^ (j + k) := Nat.lt_of_lt_of_le l (Nat.pow_le_pow_right (by decide) (by omega))
  have := Int.natAbs_add_le x y
  rw [Nat.pow_succ]
  omega
theorem Bk.neg {j : Nat} {x : Int} (h : Bk j x) : Bk j (-x) := by
  unfold Bk at *; rw [Int.natAbs_neg]; exact h
theorem Bk.sub {j k : Nat} {x y : Int} (h : Bk j x) (l : Bk k y) : Bk (j + k + 1) (x - y) := by
  rw [Int.sub_eq_add_neg]; exact h.add l.neg
theorem Bk.div {j : Nat} {x y : Int} (h : Bk j x) : Bk j (x / y) := Nat.lt_of_le_of_lt (Int.natAbs_ediv_le_natAbs _ _) h
theorem Bk.log {k x : Nat} (h : x < 10 ^ k) : x.log2 ≤ 4 * k := by
  by_cases h0 : x = 0
  · subst h0; exact Nat.zero_le _
  · have : x < 2 ^ (4 * k) := by
      rw [Nat.pow_mul]
      exact Nat.lt_of_lt_of_le h (Nat.pow_le_pow_left (by decide) k)
    exact Nat.le_of_lt ((Nat.log2_lt h0).mpr this)
theorem mulW {j k : Nat} {x y : Int} (hx : Bk j x) (hy : Bk k y) (h : j + k ≤ 20000) : CMulW x y := by
  have h1 := Bk.log hx
  have h2 := Bk.log hy
  unfold CMulW
  omega
theorem Bk.lit {x : Int} (k : Nat) (h : x.natAbs < 10 ^ k) : Bk k x := h
section
variable {K : PySem.W.Frag} {a : Cd} {Γ : EnvD} {n : Mm} {Φ : D → Mm → Prop} {ta tb te tl to : TE} {t tk : TA} {E : XK} {N : EnvD → Mm → Prop} {R : Rs} {tu : TS} {d : D} {G H : Hp}
theorem em_tupleL (h : EvM K a te Γ n fun x m => ∃ ds, x = .lst ds ∧ Φ (.tup ds) m) : EvM K a (tThen te (kTup K)) Γ n Φ := fun σ G H S v Q q =>
  h σ G H S v _ fun x dx m G1 H1 g1 t1 ⟨ds, e, p⟩ => by
    subst e
    cases t1 with
    | @lst pp vs _ hs l =>
      refine .inl ⟨pp, vs, rfl, ext_lst g1.i hs, fun b hb => ?_⟩
      have gn := PG.new (G := G1) (o := .tup vs) g1.i hb
      exact q _ _ m _ _ (g1.trans (gn.step g1.v)) (.tup (.inl (.inl upd_same)) (l.mono gn.g)) p
theorem em_tupleT (h : EvM K a te Γ n fun x m => ∃ ds, x = .tup ds ∧ Φ (.tup ds) m) : EvM K a (tThen te (kTup K)) Γ n Φ := fun σ G H S v Q q =>
  h σ G H S v _ fun x dx m G1 H1 g1 t1 ⟨ds, e, p⟩ => by
    subst e
    cases t1 with
    | @tup pp vs _ hs l => exact .inr ⟨pp, vs, rfl, hs.ext g1.i, q _ _ m _ _ g1 (.tup hs l) p⟩
/-! of a list, a tuple or a text -/
inductive LenD : D → Nat → Prop
  | lst (ds : List D) : LenD (.lst ds) ds.length
  | tup (ds : List D) : LenD (.tup ds) ds.length
  | str (z : Str) : z.length ≤ 1000000 → LenD (.str z) z.length
theorem cm_lenD {x : D} {c : Nat} (h : LenD x c) (k : Φ (.int c) n) : CM K a (fun xs H Q => ∃ x n, xs = [x] ∧ LenV K x H n ∧ Q (.int n) H) [x] n Φ := fun G H us l z Q q => by
  obtain ⟨u, e, t⟩ := atl1 l
  subst e
  cases h with
  | lst ds =>
    cases t with
    | lst hs l => exact ⟨_, _, rfl, .inl ⟨_, ext_lst z.i hs, rfl⟩, by rw [l.length]; exact q _ _ n G H (.refl z) (.int _) k⟩
  | tup ds =>
    cases t with
    | tup hs l => exact ⟨_, _, rfl, .inr ⟨_, hs.ext z.i, rfl⟩, by rw [l.length]; exact q _ _ n G H (.refl z) (.int _) k⟩
  | str s hs =>
    cases t
    exact ⟨_, _, rfl, ⟨Nat.le_trans hs (by decide), rfl⟩, q _ _ n G H (.refl z) (.int _) k⟩
inductive IxD : D → Nat → D → Prop
  | lst {ds : List D} {j : Nat} {y : D} : ds[j]? = some y → IxD (.lst ds) j y
  | tup {ds : List D} {j : Nat} {y : D} : ds[j]? = some y → IxD (.tup ds) j y
  | str {z : Str} {j c : Nat} : z.length ≤ 1000000 → z.cps.toList[j]? = some c → IxD (.str z) j (chrD c)
theorem rm_ixD {x y : D} {j : Nat} (h : IxD x j y) (p : Φ y n) : RM K a (rIx K) x (.int j) n Φ := fun G H u v tu tv w Q q => by
  cases tv
  cases h with
  | lst e =>
    cases tu with
    | lst hs l =>
      obtain ⟨u, e, t⟩ := atI_of l (atI_nat e)
      exact .inl ⟨_, _, _, u, rfl, rfl, ext_lst w.i hs, e, q u _ n G H (.refl w) t p⟩
  | tup e =>
    cases tu with
    | tup hs l =>
      obtain ⟨u, e, t⟩ := atI_of l (atI_nat e)
      exact .inr (.inl ⟨_, _, _, u, rfl, rfl, hs.ext w.i, e, q u _ n G H (.refl w) t p⟩)
  | str hz e =>
    cases tu
    exact .inr (.inr ⟨_, _, _, rfl, rfl, Nat.le_trans hz (by decide), atI_nat e, q _ _ n G H (.refl w) (.str _) p⟩)
/-- a menu -/
inductive Menu : D → List D → Prop
  | lst (ds : List D) : Menu (.lst ds) ds
  | tup (ds : List D) : Menu (.tup ds) ds
  | str (z : Str) : z.length ≤ 1000000 → Menu (.str z) (z.cps.toList.map chrD)
theorem Menu.len {x : D} {ds : List D} (h : Menu x ds) : LenD x ds.length := by
  cases h with
  | lst => exact .lst _
  | tup => exact .tup _
  | str z hz =>
    rw [List.length_map, Array.length_toList]
    exact .str z hz
theorem Menu.ix {x : D} {ds : List D} (h : Menu x ds) {j : Nat} {y : D} (e : ds[j]? = some y) : IxD x j y := by
  cases h with
  | lst => exact .lst e
  | tup => exact .tup e
  | str z hz =>
    rw [List.getElem?_map] at e
    cases k : z.cps.toList[j]? with
    | none => rw [k] at e; cases e
    | some c => rw [k] at e; cases e; exact .str hz k
theorem sm_mono {ts : TS} {N' : EnvD → Mm → Prop} (h : SM K a ts Γ n N R) (k : ∀ Γ' m, N Γ' m → N' Γ' m) : SM K a ts Γ n N' R := fun σ G H S v Dn e => h σ G H S v Dn ⟨fun σ' Γ' m G' H' g S' p => e.nx σ' Γ' m G' H' g S' (k Γ' m p), e.rt, e.bk, e.ct⟩
theorem sm_cut {ts : TS} (M : EnvD → Mm → Prop) (h1 : SM K a ts Γ n M R) (h2 : ∀ Γ' m, M Γ' m → SM K a tu Γ' m N R) : SM K a (tSeq ts tu) Γ n N R := sm_seq (sm_mono h1 h2)
theorem cutD_len (ds : List D) (lo hi : Option Int) : (cutD ds lo hi).length ≤ ds.length := by
  unfold cutD
  rw [List.length_take, List.length_drop]
  omega
theorem mem_cutD {ds : List D} {lo hi : Option Int} {d : D} (h : d ∈ cutD ds lo hi) : d ∈ ds := List.mem_of_mem_drop (List.mem_of_mem_take h)
end
/-! ### rules that name the written part, said for any writing of it -/
section
variable {X : Cx} {K : PySem.W.Frag}
def tJoinK (K : PySem.W.Frag) (to te : TE) : TE := tM1 (fun x xs H Q => ∃ a p, ∃ ys : List Str, x = .str a ∧ xs = [.ref p] ∧ (SqL K H p (ys.map V.str) ∨ SqT K H p (ys.map V.str)) ∧ (ys.map (·.length)).sum + ys.length * a.length ≤ 16777216 ∧ Q (.str (Txt.join a ys)) H) to te
theorem pe_joinK (hK : X.K = K) {o e : Expr} {to te : TE} {apos pos : Pos} (ho : PE X o to) (he : PE X e te) (hs : starEach [e] X.env = [(false, eval e X.env)] := by rfl) (hbase : attributeBase o "join" X.env (eval o X.env) = eval o X.env := by rfl) (hline : (apos.endLine == pos.line) = true := by rfl) :
    PE X (.Call (.Attribute o "join" apos) [e] [] pos) (tJoinK K to te) := by
  subst hK
  exact pe_join ho he hs hbase hline
theorem pe_indexK (hK : X.K = K) (hc : X.calm = true) {o e : Expr} {es : List Expr} {to : TE} {t : TA} {apos cpos : Pos} (ho : PE X o to) (ha : PA X (e :: es) t)
    (hbase : attributeBase o "index" X.env (eval o X.env) = eval o X.env := by rfl)
    (hfew : ((backTo cpos (starEach (e :: es) X.env)).all (fun x => !x.1) && (backToKw cpos (keywordEach [] X.env)).all (fun x => x.1.isSome)
      && decide ((e :: es).length + ([] : List Keyword).length + (if ([] : List Keyword).isEmpty then 0 else 1) < 30)) = true := by rfl)
    (hline : (apos.endLine == cpos.line) = true := by rfl) (hs : starEach (e :: es) X.env = (false, eval e X.env) :: starEach es X.env := by rfl) (hplain : (backTo cpos (starEach es X.env)).any (·.1) = false := by rfl) :
    PE X (.Call (.Attribute o "index" apos) (e :: es) [] cpos) (tBMS K "str" (rIndexX fun _ _ _ _ => False) to t) := by
  subst hK
  exact pe_bmS PySem.F.plainAttrs_str PySem.F.slot_str_index PySem.F.type_str_index (mt_indexX hc takesN) ho ha hbase hfew hline hs hplain
theorem pi_listK (hK : X.K = K) {tg l : Expr} {tl : TE} (hl : PE X l tl) : PI X tg l (iList K tl) := by
  subst hK
  exact pi_list hl
theorem pi_tupK (hK : X.K = K) {tg l : Expr} {tl : TE} (hl : PE X l tl) : PI X tg l (iTup K tl) := by
  subst hK
  exact pi_tup hl
theorem pe_tupleOfK (hK : X.K = K) {a : Expr} {ta : TE} {p pos : Pos} (hg : Gl X "tuple") (hm : X.mg "tuple" = none) (ha : PE X a ta) (na : starEach [a] X.env = (false, eval a X.env) :: starEach [] X.env := by rfl) :
    PE X (.Call (.Name "tuple" p) [a] [] pos) (tThen ta (kTup K)) := by
  subst hK
  exact pe_tupleOf hg hm ha na
def rInKD (K : PySem.W.Frag) (d : Addr) : R2 := fun x y H Q => ∃ (z : Str) (r : Option Value), x = .str z ∧ y = .ref d ∧ PySem.W.nsIn K d z = some r ∧ Q (.bl r.isSome) H
theorem op_in_kdK {w : World} {d : Addr} {es : Array DictEntry} {n : Nat} (hK : X.K = K) (hw : X.w = w) (D : KDict K w d es n) : OpR X (compareOp .In) (rInKD K d) := by
  subst hK hw
  exact op_in_kd D
def rLenQ (K : PySem.W.Frag) : List V → Hp → VK → Prop := fun xs H Q => ∃ p ys, xs = [.ref p] ∧ (SqL K H p ys ∨ SqT K H p ys) ∧ Q (.int ys.length) H
def rLenX (K : PySem.W.Frag) : List V → Hp → VK → Prop := fun xs H Q => ∃ x n, xs = [x] ∧ LenV K x H n ∧ Q (.int n) H
end
section
variable {K : PySem.W.Frag} {a : Cd} {Γ : EnvD} {n : Mm} {Φ : D → Mm → Prop} {te to : TE}
theorem cm_lenQ {x : D} {ds : List D} (hx : x = .lst ds ∨ x = .tup ds) (k : Φ (.int ds.length) n) : CM K a (rLenQ K) [x] n Φ := cm_len hx k
theorem cm_lenQS {x : D} {ds : List D} (hx : lstOf x = some ds) (k : Φ (.int ds.length) n) : CM K a (rLenQ K) [x] n Φ := cm_lenS hx k
theorem cm_lenX {x : D} {c : Nat} (h : LenD x c) (k : Φ (.int c) n) : CM K a (rLenX K) [x] n Φ := cm_lenD h k
theorem rm_inKDK {b : Addr} {z : Str} {r : Option Value} (h : PySem.W.nsIn K b z = some r) (p : Φ (.bl r.isSome) n) : RM K a (rInKD K b) (.str z) (.adr b) n Φ := fun G H u v tu tv w Q q => by
  cases tu; cases tv
  exact ⟨z, r, rfl, rfl, h, q _ _ n G H (.refl w) (.bl _) p⟩
theorem rm_neSame {x y : D} (h : x = y) (hx : pur x = true) (sx : SeqAt.shaped (py x) = true) (k : Φ (.bl false) n) : RM K a (rNeD K) x y n Φ := by
  subst h
  exact rm_neD hx hx sx sx (by rw [SeqAt.eqv_refl _ (SeqAt.canLay_of_shaped sx)]; exact k)
theorem rm_eqSame {x y : D} (h : x = y) (hx : pur x = true) (sx : SeqAt.shaped (py x) = true) (k : Φ (.bl true) n) : RM K a (rEqD K) x y n Φ := by
  subst h
  exact rm_eqD hx hx sx sx (by rw [SeqAt.eqv_refl _ (SeqAt.canLay_of_shaped sx)]; exact k)
theorem em_lcRX {t : TA} {tt : TT} {j : Nat} (h : AvM K a t Γ n fun ds m => ∃ c : Nat, ds = [.int c] ∧ c ≤ 100000 ∧ ∃ I : Nat → List D → Mm → Prop, I 0 [] m ∧
      (∀ i acc l, i < c → I i acc l → TvM K a tt ((Γ.set j none).set j (some (.int (0 + i)))) l fun b l1 => (b = true → EvM K a te ((Γ.set j none).set j (some (.int (0 + i)))) l1 fun y l2 => I (i + 1) (acc ++ [y]) l2) ∧ (b = false → I (i + 1) acc l1)) ∧
      ∀ acc l, acc.length ≤ c → I c acc l → Φ (.lst acc) l) :
    EvM K a (tLc (iRng1 t) (gName j) tt te [j]) Γ n Φ := fun σ G H S z Q q =>
  h σ G H S z _ fun us ds m G1 H1 g1 t1 ⟨c, e0, hc, I, p0, ps, pe⟩ => by
    subst e0
    obtain ⟨u, e2, h1⟩ := atl1 t1
    subst e2; cases h1
    refine ⟨_, rfl, by omega, by omega, ?_⟩
    rw [Int.toNat_natCast]
    exact lcR_core (S.mono g1.g) g1.v hc I p0 ps pe fun w d m2 G2 H2 g2 t2 p2 => q w d m2 G2 H2 (g1.trans g2) t2 p2
theorem sm_forRX {t : TA} {g : TG} {tu : TS} {N : EnvD → Mm → Prop} {R : Rs} (h : AvM K a t Γ n fun ds m => ∃ c : Nat, ds = [.int c] ∧ c ≤ 1000000 ∧ ∃ I : Nat → EnvD → Mm → Prop, I 0 Γ m ∧ (∀ i Γ' l, i < c → I i Γ' l → GM K a g (.int (0 + i)) Γ' l fun Γ2 l2 => SM K a tu Γ2 l2 (I (i + 1)) (R.turn N (I (i + 1)))) ∧ ∀ Γ' l, I c Γ' l → N Γ' l) :
    SM K a (tFor (iRng1 t) g tu) Γ n N R := fun σ G H S z Dn e =>
  h σ G H S z _ fun us ds m G1 H1 g1 t1 ⟨c, e0, hc, I, p0, ps, pe⟩ => by
    subst e0
    obtain ⟨u, e2, h1⟩ := atl1 t1
    subst e2; cases h1
    refine ⟨_, rfl, by omega, by omega, ?_⟩
    rw [Int.toNat_natCast]
    exact range_core (e.trans g1) g1.v (S.mono g1.g) I p0 ps pe
theorem em_joinK (h : EvM K a to Γ n fun x m => ∃ s : Str, x = .str s ∧ EvM K a te Γ m fun y l => ∃ ys : List Str, y = .lst (ys.map D.str) ∧ (ys.map (·.length)).sum + ys.length * s.length ≤ 16777216 ∧ Φ (.str (Txt.join s ys)) l) : EvM K a (tJoinK K to te) Γ n Φ := em_join h
end
end DM

set_option linter.all false
set_option maxRecDepth 100000
set_option maxHeartbeats 4000000
namespace DM
open PySem PySem.Spec PyProof.Rows L2
/-! ### fractions as rational numbers -/
abbrev qD (q : Rat) : D := .tup [.int q.num, .int (q.den : Int)]
/-- what math.gcd tells -/
def gcdI (a b : Int) : Int := ((Nat.gcd a.natAbs b.natAbs : Nat) : Int)
/-- the divisor of both, with the sign of the second -/
def shr (a b : Int) : Int := if b > 0 then gcdI a b else -gcdI a b
theorem gcdI_pos {a b : Int} (hb : b ≠ 0) : 0 < gcdI a b := by
  unfold gcdI
  have : 0 < Nat.gcd a.natAbs b.natAbs := Nat.gcd_pos_of_pos_right _ (by omega)
  omega
theorem gcdI_dvd_l (a b : Int) : gcdI a b ∣ a := Int.ofNat_dvd_left.mpr (Nat.gcd_dvd_left _ _)
theorem gcdI_dvd_r (a b : Int) : gcdI a b ∣ b := Int.ofNat_dvd_left.mpr (Nat.gcd_dvd_right _ _)
theorem shr_ne {a b : Int} (hb : b ≠ 0) : shr a b ≠ 0 := by
  have := gcdI_pos (a := a) hb
  unfold shr
  split <;> omega
theorem gcd_swap (a b : Int) : ((b.gcd a : Nat) : Int) = gcdI a b := by
  unfold gcdI Int.gcd
  rw [Nat.gcd_comm]
theorem ratio_num {a b : Int} (hb : b ≠ 0) : Int.fdiv a (shr a b) = (Rat.divInt a b).num := by
  rw [Rat.num_divInt, gcd_swap]
  have hg := gcdI_pos (a := a) hb
  have hd := gcdI_dvd_l a b
  unfold shr
  split
  · next h =>
    rw [Int.fdiv_eq_ediv_of_nonneg _ (by omega), Int.sign_eq_one_of_pos (by omega), Int.one_mul]
  · next h =>
    have hs : b.sign = -1 := Int.sign_eq_neg_one_of_neg (by omega)
    rw [hs, Int.fdiv_eq_ediv_of_dvd (Int.neg_dvd.mpr hd), Int.ediv_neg, show -1 * a = -a by omega, Int.neg_ediv_of_dvd hd]
theorem ratio_den {a b : Int} (hb : b ≠ 0) : Int.fdiv b (shr a b) = ((Rat.divInt a b).den : Int) := by
  rw [Rat.den_divInt, if_neg hb, Int.natCast_ediv, gcd_swap]
  have hg := gcdI_pos (a := a) hb
  have hd := gcdI_dvd_r a b
  unfold shr
  split
  · next h =>
    rw [Int.fdiv_eq_ediv_of_nonneg _ (by omega), show ((b.natAbs : Nat) : Int) = b by omega]
  · next h =>
    rw [Int.fdiv_eq_ediv_of_dvd (Int.neg_dvd.mpr hd), Int.ediv_neg, show ((b.natAbs : Nat) : Int) = -b by omega, Int.neg_ediv_of_dvd hd]
theorem add_q (p q : Rat) : Rat.divInt (p.num * q.den + q.num * p.den) (p.den * q.den) = p + q := by
  conv => rhs; rw [← Rat.num_divInt_den p, ← Rat.num_divInt_den q]
  rw [Rat.divInt_add_divInt _ _ (by have := p.den_nz; omega) (by have := q.den_nz; omega)]
theorem sub_q (p q : Rat) : Rat.divInt (p.num * q.den - q.num * p.den) (p.den * q.den) = p - q := by
  conv => rhs; rw [← Rat.num_divInt_den p, ← Rat.num_divInt_den q]
  rw [Rat.divInt_sub_divInt _ _ (by have := p.den_nz; omega) (by have := q.den_nz; omega)]
theorem mul_q (p q : Rat) : Rat.divInt (p.num * q.num) (p.den * q.den) = p * q := by
  conv => rhs; rw [← Rat.num_divInt_den p, ← Rat.num_divInt_den q]
  rw [Rat.divInt_mul_divInt]
theorem div_q (p q : Rat) : Rat.divInt (p.num * q.den) (p.den * q.num) = p / q := by
  conv => rhs; rw [← Rat.num_divInt_den p, ← Rat.num_divInt_den q, Rat.div_def, Rat.inv_divInt]
  rw [Rat.divInt_mul_divInt]
theorem den_ne (p : Rat) : (p.den : Int) ≠ 0 := by have := p.den_nz; omega
theorem den_pos (p : Rat) : (0 : Int) < p.den := by have := p.den_nz; omega
/-- both numbers have at most so many figures -/
structure Sz (k : Nat) (q : Rat) : Prop where
  n : Bk k q.num
  d : Bk k (q.den : Int)
theorem Sz.up {j k : Nat} {q : Rat} (h : Sz j q) (l : j ≤ k) : Sz k q := ⟨h.n.up l, h.d.up l⟩
theorem Bk.add1 {j : Nat} {x y : Int} (h : Bk j x) (l : Bk j y) : Bk (j + 1) (x + y) := by
  unfold Bk at *
  have := Int.natAbs_add_le x y
  rw [Nat.pow_succ]
  omega
theorem Bk.sub1 {j : Nat} {x y : Int} (h : Bk j x) (l : Bk j y) : Bk (j + 1) (x - y) := by
  rw [Int.sub_eq_add_neg]; exact h.add1 l.neg
theorem Sz.of {j : Nat} {a b : Int} (ha : Bk j a) (hb : Bk j b) (h0 : b ≠ 0) : Sz j (Rat.divInt a b) := by
  refine ⟨?_, ?_⟩
  · rw [Rat.num_divInt]
    refine Bk.div ?_
    unfold Bk at *
    rw [Int.natAbs_mul, Int.natAbs_sign_of_ne_zero h0, Nat.one_mul]
    exact ha
  · rw [Rat.den_divInt, if_neg h0]
    unfold Bk at *
    exact Nat.lt_of_le_of_lt (Nat.div_le_self _ _) hb
theorem Sz.add {j k : Nat} {p q : Rat} (h : Sz j p) (l : Sz k q) : Sz (j + k + 1) (p + q) := by
  rw [← add_q]
  exact Sz.of ((h.n.mul l.d).add1 ((l.n.mul h.d).up (by omega))) ((h.d.mul l.d).up (by omega)) (Int.mul_ne_zero (den_ne _) (den_ne _))
theorem Sz.sub {j k : Nat} {p q : Rat} (h : Sz j p) (l : Sz k q) : Sz (j + k + 1) (p - q) := by
  rw [← sub_q]
  exact Sz.of ((h.n.mul l.d).sub1 ((l.n.mul h.d).up (by omega))) ((h.d.mul l.d).up (by omega)) (Int.mul_ne_zero (den_ne _) (den_ne _))
theorem Sz.mul {j k : Nat} {p q : Rat} (h : Sz j p) (l : Sz k q) : Sz (j + k) (p * q) := by
  rw [← mul_q]
  exact Sz.of (h.n.mul l.n) (h.d.mul l.d) (Int.mul_ne_zero (den_ne _) (den_ne _))
theorem Sz.div {j k : Nat} {p q : Rat} (h : Sz j p) (l : Sz k q) (h0 : q ≠ 0) : Sz (j + k) (p / q) := by
  rw [← div_q]
  exact Sz.of (h.n.mul l.d) (h.d.mul l.n) (Int.mul_ne_zero (den_ne _) (fun z => h0 (Rat.num_eq_zero.mp z)))
theorem qD_int (a : Int) : qD (a : Rat) = .tup [.int a, .int 1] := rfl
theorem pow_q (n : Int) (m : Nat) : qD ((n : Rat) ^ (m : Int)) = .tup [.int (n ^ m), .int 1] := by
  show D.tup [.int ((n : Rat) ^ (m : Int)).num, .int (((n : Rat) ^ (m : Int)).den : Int)] = _
  rw [Rat.zpow_natCast, Rat.num_pow, Rat.den_pow, Rat.num_intCast, Rat.den_intCast, Nat.one_pow]
  rfl
theorem pow_neg_q (n : Int) (m : Nat) : Rat.divInt 1 (n ^ m) = (n : Rat) ^ (-(m : Int)) := by
  rw [Rat.zpow_neg, Rat.zpow_natCast]
  have e : ((n : Rat) ^ m) = Rat.divInt (n ^ m) 1 := by
    have := Rat.num_divInt_den ((n : Rat) ^ m)
    rw [Rat.num_pow, Rat.den_pow, Rat.num_intCast, Rat.den_intCast, Nat.one_pow] at this
    exact this.symm
  rw [e, Rat.inv_divInt]
theorem Bk.pow {n : Int} (hn : n.natAbs < 10) : ∀ m : Nat, Bk (m + 1) (n ^ m)
  | 0 => by show Bk 1 (n ^ 0); rw [Int.pow_zero]; unfold Bk; decide
  | m + 1 => by
    have := Bk.mul (j := m + 1) (k := 1) (Bk.pow hn m) (show Bk 1 n from hn)
    rw [← Int.pow_succ] at this
    exact this
theorem Sz.zpow {n : Int} (hn : n.natAbs < 10) (h0 : n ≠ 0) (e : Int) : Sz (e.natAbs + 2) ((n : Rat) ^ e) := by
  rcases Int.natAbs_eq e with h | h
  · generalize e.natAbs = m at h ⊢
    subst h
    have := pow_q n m
    have e1 : ((n : Rat) ^ (m : Int)).num = n ^ m := by rw [Rat.zpow_natCast, Rat.num_pow, Rat.num_intCast]
    have e2 : ((n : Rat) ^ (m : Int)).den = 1 := by rw [Rat.zpow_natCast, Rat.den_pow, Rat.den_intCast, Nat.one_pow]
    exact ⟨by rw [e1]; exact (Bk.pow hn m).up (by omega), by rw [e2]; exact Bk.up (j := 1) (by unfold Bk; decide) (by omega)⟩
  · generalize e.natAbs = m at h ⊢
    subst h
    rw [← pow_neg_q]
    exact (Sz.of (j := m + 1) (Bk.up (j := 1) (by unfold Bk; decide) (by omega)) (Bk.pow hn m) (Int.pow_ne_zero h0)).up (by omega)
/-! ### rules -/
def CDivS (_ j : Int) : Prop := j ≠ 0 ∧ j.natAbs.log2 < 9000
theorem op_fdivS {X : Cx} : OpR X (binaryOp .FloorDiv) (rI CDivS fun i j => .int (i.fdiv j)) := opI fun i j _ _ _ _ _ hc q =>
  floordiv_int hc.1 q (.inl (PyProof.noPylong_of_log2 hc.2))
theorem divS {i j : Int} {k : Nat} (h0 : j ≠ 0) (h : Bk k j) (l : k ≤ 2000) : CDivS i j := ⟨h0, by have := Bk.log h; omega⟩
theorem divWp {i j : Int} {k : Nat} (h0 : 0 < j) (h : Bk k j) (l : k ≤ 2000) : CDivW i j := ⟨h0, by have := Bk.log h; omega⟩
section
variable {K : PySem.W.Frag} {a : Cd} {Γ : EnvD} {n : Mm} {Φ : D → Mm → Prop} {te : TE}
/-- isinstance of a tuple -/
theorem cm_isiT {ds : List D} {T' : String} {b : Bool} (hk : kitB "tuple" T' = some b) (k : Φ (.bl b) n) : CM K a (rIsi K) [.tup ds, .ty T'] n Φ := fun G H us l v Q q => by
  obtain ⟨u1, u2, e, h1, h2⟩ := atl2 l
  subst e; cases h2
  cases h1 with
  | tup hs l =>
    refine ⟨_, _, .type "tuple", .type T', b, rfl, .ty T', ?_, kit_ty hk, q _ _ n G H (.refl v) (.bl b) k⟩
    rcases hs.ext v.i with hs | ⟨o, its, m, hl, hc, _⟩
    · rcases hs with hs | ⟨o, hs⟩
      · exact .base (.tup hs)
      · exact .fTuple hs
    · exact .kTuple hl hc
end
end DM

set_option linter.all false
set_option maxRecDepth 100000
set_option maxHeartbeats 4000000
namespace DM
open PySem PySem.Spec PyProof.Rows L2
/-- repr of data or of None -/
def rReprN (K : PySem.W.Frag) : List V → Hp → VK → Prop := fun xs H Q => (xs = [.non] ∧ Q (.str "None") H) ∨ rRepr K xs H Q
theorem call_repr_any {X : Cx} (hg : X.A.guards = some []) (hu : X.A.units + 128 < cLine) : CallR X (.builtin "repr") (rReprN X.K) := by
  intro pins s σ H xs us Q I r h
  rcases h with ⟨e, q⟩ | h
  · subst e
    obtain ⟨u, rfl, e⟩ := vals1 r
    cases e
    exact PySem.P.repr_of_none ⟨.str "None", H, I.tok _, ⟨_, rfl⟩, q⟩
  · exact call_repr_data hg hu pins s σ H xs us Q I r h
section
variable {K : PySem.W.Frag} {a : Cd} {Γ : EnvD} {n : Mm} {Φ : D → Mm → Prop} {te : TE}
theorem cm_reprNone (k : Φ (.str "None") n) : CM K a (rReprN K) [.non] n Φ := fun G H us l i Q q => by
  obtain ⟨u1, e, h1⟩ := atl1 l
  subst e
  cases h1
  exact .inl ⟨rfl, q _ _ n G H (.refl i) (.str _) k⟩
theorem cm_reprN {x : D} (ho : okD x) (hr : ∃ ds, x = .tup ds ∨ x = .lst ds) (hb : big x ≤ 16777216) (hd : dep x ≤ 64) (k : Φ (.str (py x).shown) n) : CM K a (rReprN K) [x] n Φ := fun G H us l i Q q => .inr (cm_reprD ho hr hb hd k G H us l i Q q)
theorem cm_min2 {i j : Int} (k : Φ (.int (if j < i then j else i)) n) : CM K a (fun xs H Q => ∃ i j, xs = [.int i, .int j] ∧ Q (.int (if j < i then j else i)) H) [.int i, .int j] n Φ := fun G H us l z Q q => by
  obtain ⟨u1, u2, e, h1, h2⟩ := atl2 l
  subst e; cases h1; cases h2
  exact ⟨i, j, rfl, q _ _ n G H (.refl z) (.int _) k⟩
theorem em_slT {tl th : TO} (h : EvM K a te Γ n fun x m => ∃ ds, x = .tup ds ∧ OvM K a tl Γ m fun lo l => OvM K a th Γ l fun hi k => Φ (.tup (cutD ds lo hi)) k) : EvM K a (tSl (rSlA K) te tl th) Γ n Φ := fun σ G H S v Q q =>
  h σ G H S v _ fun w d m G1 H1 g1 t1 ⟨ds, e, p1⟩ => p1 σ G1 H1 (S.mono g1.g) g1.v _ fun lo m2 G2 H2 g2 p2 => p2 σ G2 H2 ((S.mono g1.g).mono g2.g) g2.v _ fun hi m3 G3 H3 g3 p3 => by
    subst e
    have t3 := (t1.mono g2.g).mono g3.g
    cases t3 with
    | @tup pp vs _ hs l =>
      refine ⟨pp, vs, rfl, hs.ext g3.i, fun hz => ?_, fun hz q0 hq => ?_⟩
      · have e : cutD ds lo hi = ds := by
          rw [l.length] at hz
          unfold cutD
          rw [hz.1, hz.2, List.drop_zero, Nat.sub_zero, List.take_length]
        have p4 : Φ (.tup (cutD ds lo hi)) m3 := p3
        rw [e] at p4
        exact q _ _ m3 _ _ ((g1.trans g2).trans g3) (.tup hs l) p4
      · have gn := PG.new (G := G3) (o := .tup (cutV vs lo hi)) g3.i hq
        exact q _ _ m3 _ _ (((g1.trans g2).trans g3).trans (gn.step g3.v)) (.tup (.inl (.inl upd_same)) ((cut_at l lo hi).mono gn.g)) p3
end
end DM

set_option linter.all false
set_option maxRecDepth 100000
set_option maxHeartbeats 4000000
namespace Sl
open PySem PySem.Spec PyProof.Rows L2 DM
def top (i : Nat) : Stmt := PySem.Challenge.pw_pressworlds_k42_whole_views_alike.main.body.getD i (.Pass ⟨0, 0, 0, 0⟩)

abbrev s_is_integer : Stmt := top 13
abbrev n_is_integer : List Str := ["value"]
theorem sc_is_integer : FnScope n_is_integer ["value"] (defScope s_is_integer) := ⟨rfl, rfl, rfl, by decide +kernel, rfl, by decide +kernel, by decide +kernel⟩
abbrev s_check_number : Stmt := top 14
abbrev n_check_number : List Str := ["value"]
theorem sc_check_number : FnScope n_check_number ["value"] (defScope s_check_number) := ⟨rfl, rfl, rfl, by decide +kernel, rfl, by decide +kernel, by decide +kernel⟩
abbrev s_is_ratio : Stmt := top 25
abbrev n_is_ratio : List Str := ["value", "top", "bottom"]
theorem sc_is_ratio : FnScope n_is_ratio ["value"] (defScope s_is_ratio) := ⟨rfl, rfl, rfl, by decide +kernel, rfl, by decide +kernel, by decide +kernel⟩
abbrev s_ratio : Stmt := top 26
abbrev n_ratio : List Str := ["top", "bottom", "shared"]
theorem sc_ratio : FnScope n_ratio ["top", "bottom"] (defScope s_ratio) := ⟨rfl, rfl, rfl, by decide +kernel, rfl, by decide +kernel, by decide +kernel⟩
abbrev s_ratio_less : Stmt := top 27
abbrev n_ratio_less : List Str := ["one", "other"]
theorem sc_ratio_less : FnScope n_ratio_less ["one", "other"] (defScope s_ratio_less) := ⟨rfl, rfl, rfl, by decide +kernel, rfl, by decide +kernel, by decide +kernel⟩
abbrev s_ratio_times : Stmt := top 28
abbrev n_ratio_times : List Str := ["one", "other"]
theorem sc_ratio_times : FnScope n_ratio_times ["one", "other"] (defScope s_ratio_times) := ⟨rfl, rfl, rfl, by decide +kernel, rfl, by decide +kernel, by decide +kernel⟩
abbrev s_ratio_over : Stmt := top 29
abbrev n_ratio_over : List Str := ["one", "other"]
theorem sc_ratio_over : FnScope n_ratio_over ["one", "other"] (defScope s_ratio_over) := ⟨rfl, rfl, rfl, by decide +kernel, rfl, by decide +kernel, by decide +kernel⟩
abbrev s_power_of : Stmt := top 30
abbrev n_power_of : List Str := ["base", "exponent", "power", "square", "left"]
theorem sc_power_of : FnScope n_power_of ["base", "exponent"] (defScope s_power_of) := ⟨rfl, rfl, rfl, by decide +kernel, rfl, by decide +kernel, by decide +kernel⟩
abbrev s_stripped : Stmt := top 31
abbrev n_stripped : List Str := ["number", "factor", "left", "shared"]
theorem sc_stripped : FnScope n_stripped ["number", "factor"] (defScope s_stripped) := ⟨rfl, rfl, rfl, by decide +kernel, rfl, by decide +kernel, by decide +kernel⟩
abbrev s_fits : Stmt := top 32
abbrev n_fits : List Str := ["value", "factor"]
theorem sc_fits : FnScope n_fits ["value", "factor"] (defScope s_fits) := ⟨rfl, rfl, rfl, by decide +kernel, rfl, by decide +kernel, by decide +kernel⟩
abbrev s_exponent_in : Stmt := top 33
abbrev n_exponent_in : List Str := ["value", "base", "top", "bottom", "left", "exponent"]
theorem sc_exponent_in : FnScope n_exponent_in ["value", "base"] (defScope s_exponent_in) := ⟨rfl, rfl, rfl, by decide +kernel, rfl, by decide +kernel, by decide +kernel⟩
abbrev s_View_init : Stmt := inClass (top 38) 0
abbrev n_View_init : List Str := ["self", "factor", "zoom", "shift"]
theorem sc_View_init : FnScope n_View_init ["self", "factor", "zoom", "shift"] (defScope s_View_init) := ⟨rfl, rfl, rfl, by decide +kernel, rfl, by decide +kernel, by decide +kernel⟩
abbrev s_View_factor : Stmt := inClass (top 38) 2
abbrev n_View_factor : List Str := ["self"]
theorem sc_View_factor : FnScope n_View_factor ["self"] (defScope s_View_factor) := ⟨rfl, rfl, rfl, by decide +kernel, rfl, by decide +kernel, by decide +kernel⟩
abbrev s_View_zoom : Stmt := inClass (top 38) 3
abbrev n_View_zoom : List Str := ["self"]
theorem sc_View_zoom : FnScope n_View_zoom ["self"] (defScope s_View_zoom) := ⟨rfl, rfl, rfl, by decide +kernel, rfl, by decide +kernel, by decide +kernel⟩
abbrev s_View_shift : Stmt := inClass (top 38) 4
abbrev n_View_shift : List Str := ["self"]
theorem sc_View_shift : FnScope n_View_shift ["self"] (defScope s_View_shift) := ⟨rfl, rfl, rfl, by decide +kernel, rfl, by decide +kernel, by decide +kernel⟩
abbrev s_pair_of : Stmt := top 39
abbrev n_pair_of : List Str := ["view"]
theorem sc_pair_of : FnScope n_pair_of ["view"] (defScope s_pair_of) := ⟨rfl, rfl, rfl, by decide +kernel, rfl, by decide +kernel, by decide +kernel⟩
abbrev s_view_of : Stmt := top 40
abbrev n_view_of : List Str := ["factor", "pair", "zoom", "shift"]
theorem sc_view_of : FnScope n_view_of ["factor", "pair"] (defScope s_view_of) := ⟨rfl, rfl, rfl, by decide +kernel, rfl, by decide +kernel, by decide +kernel⟩
abbrev s_check_view : Stmt := top 41
abbrev n_check_view : List Str := ["value"]
theorem sc_check_view : FnScope n_check_view ["value"] (defScope s_check_view) := ⟨rfl, rfl, rfl, by decide +kernel, rfl, by decide +kernel, by decide +kernel⟩
abbrev s_check_views : Stmt := top 42
abbrev n_check_views : List Str := ["one", "other"]
theorem sc_check_views : FnScope n_check_views ["one", "other"] (defScope s_check_views) := ⟨rfl, rfl, rfl, by decide +kernel, rfl, by decide +kernel, by decide +kernel⟩
abbrev s_scaled : Stmt := top 43
abbrev n_scaled : List Str := ["factor", "zoom", "number"]
theorem sc_scaled : FnScope n_scaled ["factor", "zoom", "number"] (defScope s_scaled) := ⟨rfl, rfl, rfl, by decide +kernel, rfl, by decide +kernel, by decide +kernel⟩
abbrev s_growth : Stmt := top 45
abbrev n_growth : List Str := ["factor", "zoom"]
theorem sc_growth : FnScope n_growth ["factor", "zoom"] (defScope s_growth) := ⟨rfl, rfl, rfl, by decide +kernel, rfl, by decide +kernel, by decide +kernel⟩
abbrev s_pair_often : Stmt := top 44
abbrev n_pair_often : List Str := ["factor", "pair", "times", "zoom", "shift"]
theorem sc_pair_often : FnScope n_pair_often ["factor", "pair", "times"] (defScope s_pair_often) := ⟨rfl, rfl, rfl, by decide +kernel, rfl, by decide +kernel, by decide +kernel⟩
abbrev s_view_often : Stmt := top 47
abbrev n_view_often : List Str := ["one", "times"]
theorem sc_view_often : FnScope n_view_often ["one", "times"] (defScope s_view_often) := ⟨rfl, rfl, rfl, by decide +kernel, rfl, by decide +kernel, by decide +kernel⟩
abbrev s_view_undone : Stmt := top 46
abbrev n_view_undone : List Str := ["one"]
theorem sc_view_undone : FnScope n_view_undone ["one"] (defScope s_view_undone) := ⟨rfl, rfl, rfl, by decide +kernel, rfl, by decide +kernel, by decide +kernel⟩
abbrev s_pair_between_zoomed : Stmt := top 51
abbrev n_pair_between_zoomed : List Str := ["one", "other", "factor", "apart", "bottom", "power", "goal", "zoom", "left"]
theorem sc_pair_between_zoomed : FnScope n_pair_between_zoomed ["one", "other"] (defScope s_pair_between_zoomed) := ⟨rfl, rfl, rfl, by decide +kernel, rfl, by decide +kernel, by decide +kernel⟩
abbrev s_pair_between : Stmt := top 50
abbrev n_pair_between : List Str := ["one", "other", "exponent"]
theorem sc_pair_between : FnScope n_pair_between ["one", "other"] (defScope s_pair_between) := ⟨rfl, rfl, rfl, by decide +kernel, rfl, by decide +kernel, by decide +kernel⟩
abbrev s_is_view_alike : Stmt := top 48
abbrev n_is_view_alike : List Str := ["one", "other"]
theorem sc_is_view_alike : FnScope n_is_view_alike ["one", "other"] (defScope s_is_view_alike) := ⟨rfl, rfl, rfl, by decide +kernel, rfl, by decide +kernel, by decide +kernel⟩
abbrev s_view_alike : Stmt := top 49
abbrev n_view_alike : List Str := ["one", "other", "pair"]
theorem sc_view_alike : FnScope n_view_alike ["one", "other"] (defScope s_view_alike) := ⟨rfl, rfl, rfl, by decide +kernel, rfl, by decide +kernel, by decide +kernel⟩
abbrev s_l_tub : Stmt := top 53
abbrev n_l_tub : List Str := ["_law_cells", "_law_at", "_law_own", "_law_blend", "_law_k"]
theorem sc_l_tub : FnScope n_l_tub ["_law_cells", "_law_at"] (defScope s_l_tub) := ⟨rfl, rfl, rfl, by decide +kernel, rfl, by decide +kernel, by decide +kernel⟩
abbrev s_l_ladle : Stmt := top 54
abbrev n_l_ladle : List Str := ["_law_tub_here", "_law_upto", "_law_blend", "_law_figure"]
theorem sc_l_ladle : FnScope n_l_ladle ["_law_tub_here", "_law_upto"] (defScope s_l_ladle) := ⟨rfl, rfl, rfl, by decide +kernel, rfl, by decide +kernel, by decide +kernel⟩
abbrev s_l_any_of : Stmt := top 55
abbrev n_l_any_of : List Str := ["_law_tub_here", "_law_things"]
theorem sc_l_any_of : FnScope n_l_any_of ["_law_tub_here", "_law_things"] (defScope s_l_any_of) := ⟨rfl, rfl, rfl, by decide +kernel, rfl, by decide +kernel, by decide +kernel⟩
abbrev s_l_frac : Stmt := top 56
abbrev n_l_frac : List Str := ["_law_top", "_law_bottom", "_law_near", "_law_far"]
theorem sc_l_frac : FnScope n_l_frac ["_law_top", "_law_bottom"] (defScope s_l_frac) := ⟨rfl, rfl, rfl, by decide +kernel, rfl, by decide +kernel, by decide +kernel⟩
abbrev s_l_plus : Stmt := top 57
abbrev n_l_plus : List Str := ["_law_near", "_law_far"]
theorem sc_l_plus : FnScope n_l_plus ["_law_near", "_law_far"] (defScope s_l_plus) := ⟨rfl, rfl, rfl, by decide +kernel, rfl, by decide +kernel, by decide +kernel⟩
abbrev s_l_by : Stmt := top 58
abbrev n_l_by : List Str := ["_law_near", "_law_far"]
theorem sc_l_by : FnScope n_l_by ["_law_near", "_law_far"] (defScope s_l_by) := ⟨rfl, rfl, rfl, by decide +kernel, rfl, by decide +kernel, by decide +kernel⟩
abbrev s_l_minus : Stmt := top 59
abbrev n_l_minus : List Str := ["_law_near", "_law_far"]
theorem sc_l_minus : FnScope n_l_minus ["_law_near", "_law_far"] (defScope s_l_minus) := ⟨rfl, rfl, rfl, by decide +kernel, rfl, by decide +kernel, by decide +kernel⟩
abbrev s_l_power : Stmt := top 60
abbrev n_l_power : List Str := ["_law_n", "_law_k", "_law_found", "_law_turn"]
theorem sc_l_power : FnScope n_l_power ["_law_n", "_law_k"] (defScope s_l_power) := ⟨rfl, rfl, rfl, by decide +kernel, rfl, by decide +kernel, by decide +kernel⟩
abbrev s_l_fits : Stmt := top 61
abbrev n_l_fits : List Str := ["_law_n", "_law_part", "_law_rest", "_law_turn", "_law_near", "_law_far"]
theorem sc_l_fits : FnScope n_l_fits ["_law_n", "_law_part"] (defScope s_l_fits) := ⟨rfl, rfl, rfl, by decide +kernel, rfl, by decide +kernel, by decide +kernel⟩
abbrev s_l_then : Stmt := top 62
abbrev n_l_then : List Str := ["_law_x", "_law_y"]
theorem sc_l_then : FnScope n_l_then ["_law_x", "_law_y"] (defScope s_l_then) := ⟨rfl, rfl, rfl, by decide +kernel, rfl, by decide +kernel, by decide +kernel⟩
abbrev s_l_undone : Stmt := top 63
abbrev n_l_undone : List Str := ["_law_x"]
theorem sc_l_undone : FnScope n_l_undone ["_law_x"] (defScope s_l_undone) := ⟨rfl, rfl, rfl, by decide +kernel, rfl, by decide +kernel, by decide +kernel⟩
abbrev s_l_shift : Stmt := top 64
abbrev n_l_shift : List Str := ["_law_tub_here", "_law_n", "_law_most", "_law_deep", "_law_bottom"]
theorem sc_l_shift : FnScope n_l_shift ["_law_tub_here", "_law_n", "_law_most", "_law_deep"] (defScope s_l_shift) := ⟨rfl, rfl, rfl, by decide +kernel, rfl, by decide +kernel, by decide +kernel⟩
abbrev s_l_small : Stmt := top 65
abbrev n_l_small : List Str := ["_law_tub_here", "_law_n", "_law_zoom"]
theorem sc_l_small : FnScope n_l_small ["_law_tub_here", "_law_n"] (defScope s_l_small) := ⟨rfl, rfl, rfl, by decide +kernel, rfl, by decide +kernel, by decide +kernel⟩
abbrev s_l_view : Stmt := top 66
abbrev n_l_view : List Str := ["_law_x"]
theorem sc_l_view : FnScope n_l_view ["_law_x"] (defScope s_l_view) := ⟨rfl, rfl, rfl, by decide +kernel, rfl, by decide +kernel, by decide +kernel⟩
abbrev s_l_seen : Stmt := top 67
abbrev n_l_seen : List Str := ["_law_view_here"]
theorem sc_l_seen : FnScope n_l_seen ["_law_view_here"] (defScope s_l_seen) := ⟨rfl, rfl, rfl, by decide +kernel, rfl, by decide +kernel, by decide +kernel⟩
abbrev s_l_can_be_alike : Stmt := top 68
abbrev n_l_can_be_alike : List Str := ["_law_x", "_law_y", "_law_gap", "_law_back", "_law_j", "_law_some", "_law_left"]
theorem sc_l_can_be_alike : FnScope n_l_can_be_alike ["_law_x", "_law_y"] (defScope s_l_can_be_alike) := ⟨rfl, rfl, rfl, by decide +kernel, rfl, by decide +kernel, by decide +kernel⟩
abbrev s_l_other : Stmt := top 69
abbrev n_l_other : List Str := ["_law_tub_here", "_law_x", "_law_way", "_law_c"]
theorem sc_l_other : FnScope n_l_other ["_law_tub_here", "_law_x"] (defScope s_l_other) := ⟨rfl, rfl, rfl, by decide +kernel, rfl, by decide +kernel, by decide +kernel⟩
abbrev s_l_pair_right : Stmt := top 70
abbrev n_l_pair_right : List Str := ["_law_x", "_law_y", "_law_mine", "_law_mate", "_law_due", "_law_told", "_law_found"]
theorem sc_l_pair_right : FnScope n_l_pair_right ["_law_x", "_law_y"] (defScope s_l_pair_right) := ⟨rfl, rfl, rfl, by decide +kernel, rfl, by decide +kernel, by decide +kernel⟩
abbrev s_l_right : Stmt := top 71
abbrev n_l_right : List Str := ["_law_tub_here", "_law_n", "_law_x", "_law_c", "_law_pairs", "_law_part", "_law_y"]
theorem sc_l_right : FnScope n_l_right ["_law_tub_here"] (defScope s_l_right) := ⟨rfl, rfl, rfl, by decide +kernel, rfl, by decide +kernel, by decide +kernel⟩
abbrev s_law : Stmt := top 72
abbrev n_law : List Str := ["_law_cells", "_law_at"]
theorem sc_law : FnScope n_law ["_law_cells"] (defScope s_law) := ⟨rfl, rfl, rfl, by decide +kernel, rfl, by decide +kernel, by decide +kernel⟩
structure Tx (w : World) (K : PySem.W.Frag) (mg : Str → Option Value) where
  f_is_integer : Addr
  d_is_integer : FuncData
  F_is_integer : Fun K "is_integer" "is_integer" s_is_integer f_is_integer d_is_integer
  b_is_integer : L2.Binds K d_is_integer ["value"] []
  mg_is_integer : mg "is_integer" = some (.ref f_is_integer)
  f_check_number : Addr
  d_check_number : FuncData
  F_check_number : Fun K "check_number" "check_number" s_check_number f_check_number d_check_number
  b_check_number : L2.Binds K d_check_number ["value"] []
  mg_check_number : mg "check_number" = some (.ref f_check_number)
  f_is_ratio : Addr
  d_is_ratio : FuncData
  F_is_ratio : Fun K "is_ratio" "is_ratio" s_is_ratio f_is_ratio d_is_ratio
  b_is_ratio : L2.Binds K d_is_ratio ["value"] []
  mg_is_ratio : mg "is_ratio" = some (.ref f_is_ratio)
  f_ratio : Addr
  d_ratio : FuncData
  F_ratio : Fun K "ratio" "ratio" s_ratio f_ratio d_ratio
  b_ratio : L2.Binds K d_ratio ["top", "bottom"] []
  mg_ratio : mg "ratio" = some (.ref f_ratio)
  f_ratio_less : Addr
  d_ratio_less : FuncData
  F_ratio_less : Fun K "ratio_less" "ratio_less" s_ratio_less f_ratio_less d_ratio_less
  b_ratio_less : L2.Binds K d_ratio_less ["one", "other"] []
  mg_ratio_less : mg "ratio_less" = some (.ref f_ratio_less)
  f_ratio_times : Addr
  d_ratio_times : FuncData
  F_ratio_times : Fun K "ratio_times" "ratio_times" s_ratio_times f_ratio_times d_ratio_times
  b_ratio_times : L2.Binds K d_ratio_times ["one", "other"] []
  mg_ratio_times : mg "ratio_times" = some (.ref f_ratio_times)
  f_ratio_over : Addr
  d_ratio_over : FuncData
  F_ratio_over : Fun K "ratio_over" "ratio_over" s_ratio_over f_ratio_over d_ratio_over
  b_ratio_over : L2.Binds K d_ratio_over ["one", "other"] []
  mg_ratio_over : mg "ratio_over" = some (.ref f_ratio_over)
  f_power_of : Addr
  d_power_of : FuncData
  F_power_of : Fun K "power_of" "power_of" s_power_of f_power_of d_power_of
  b_power_of : L2.Binds K d_power_of ["base", "exponent"] []
  mg_power_of : mg "power_of" = some (.ref f_power_of)
  f_stripped : Addr
  d_stripped : FuncData
  F_stripped : Fun K "stripped" "stripped" s_stripped f_stripped d_stripped
  b_stripped : L2.Binds K d_stripped ["number", "factor"] []
  mg_stripped : mg "stripped" = some (.ref f_stripped)
  f_fits : Addr
  d_fits : FuncData
  F_fits : Fun K "fits" "fits" s_fits f_fits d_fits
  b_fits : L2.Binds K d_fits ["value", "factor"] []
  mg_fits : mg "fits" = some (.ref f_fits)
  f_exponent_in : Addr
  d_exponent_in : FuncData
  F_exponent_in : Fun K "exponent_in" "exponent_in" s_exponent_in f_exponent_in d_exponent_in
  b_exponent_in : L2.Binds K d_exponent_in ["value", "base"] []
  mg_exponent_in : mg "exponent_in" = some (.ref f_exponent_in)
  f_View_init : Addr
  d_View_init : FuncData
  F_View_init : Fun K "__init__" "View.__init__" s_View_init f_View_init d_View_init
  b_View_init : L2.Binds K d_View_init ["self", "factor", "zoom", "shift"] []
  f_View_factor : Addr
  d_View_factor : FuncData
  F_View_factor : Fun K "factor" "View.factor" s_View_factor f_View_factor d_View_factor
  b_View_factor : L2.Binds K d_View_factor ["self"] []
  f_View_zoom : Addr
  d_View_zoom : FuncData
  F_View_zoom : Fun K "zoom" "View.zoom" s_View_zoom f_View_zoom d_View_zoom
  b_View_zoom : L2.Binds K d_View_zoom ["self"] []
  f_View_shift : Addr
  d_View_shift : FuncData
  F_View_shift : Fun K "shift" "View.shift" s_View_shift f_View_shift d_View_shift
  b_View_shift : L2.Binds K d_View_shift ["self"] []
  f_pair_of : Addr
  d_pair_of : FuncData
  F_pair_of : Fun K "pair_of" "pair_of" s_pair_of f_pair_of d_pair_of
  b_pair_of : L2.Binds K d_pair_of ["view"] []
  mg_pair_of : mg "pair_of" = some (.ref f_pair_of)
  f_view_of : Addr
  d_view_of : FuncData
  F_view_of : Fun K "view_of" "view_of" s_view_of f_view_of d_view_of
  b_view_of : L2.Binds K d_view_of ["factor", "pair"] []
  mg_view_of : mg "view_of" = some (.ref f_view_of)
  f_check_view : Addr
  d_check_view : FuncData
  F_check_view : Fun K "check_view" "check_view" s_check_view f_check_view d_check_view
  b_check_view : L2.Binds K d_check_view ["value"] []
  mg_check_view : mg "check_view" = some (.ref f_check_view)
  f_check_views : Addr
  d_check_views : FuncData
  F_check_views : Fun K "check_views" "check_views" s_check_views f_check_views d_check_views
  b_check_views : L2.Binds K d_check_views ["one", "other"] []
  mg_check_views : mg "check_views" = some (.ref f_check_views)
  f_scaled : Addr
  d_scaled : FuncData
  F_scaled : Fun K "scaled" "scaled" s_scaled f_scaled d_scaled
  b_scaled : L2.Binds K d_scaled ["factor", "zoom", "number"] []
  mg_scaled : mg "scaled" = some (.ref f_scaled)
  f_growth : Addr
  d_growth : FuncData
  F_growth : Fun K "growth" "growth" s_growth f_growth d_growth
  b_growth : L2.Binds K d_growth ["factor", "zoom"] []
  mg_growth : mg "growth" = some (.ref f_growth)
  f_pair_often : Addr
  d_pair_often : FuncData
  F_pair_often : Fun K "pair_often" "pair_often" s_pair_often f_pair_often d_pair_often
  b_pair_often : L2.Binds K d_pair_often ["factor", "pair", "times"] []
  mg_pair_often : mg "pair_often" = some (.ref f_pair_often)
  f_view_often : Addr
  d_view_often : FuncData
  F_view_often : Fun K "view_often" "view_often" s_view_often f_view_often d_view_often
  b_view_often : L2.Binds K d_view_often ["one", "times"] []
  mg_view_often : mg "view_often" = some (.ref f_view_often)
  f_view_undone : Addr
  d_view_undone : FuncData
  F_view_undone : Fun K "view_undone" "view_undone" s_view_undone f_view_undone d_view_undone
  b_view_undone : L2.Binds K d_view_undone ["one"] []
  mg_view_undone : mg "view_undone" = some (.ref f_view_undone)
  f_pair_between_zoomed : Addr
  d_pair_between_zoomed : FuncData
  F_pair_between_zoomed : Fun K "pair_between_zoomed" "pair_between_zoomed" s_pair_between_zoomed f_pair_between_zoomed d_pair_between_zoomed
  b_pair_between_zoomed : L2.Binds K d_pair_between_zoomed ["one", "other"] []
  mg_pair_between_zoomed : mg "pair_between_zoomed" = some (.ref f_pair_between_zoomed)
  f_pair_between : Addr
  d_pair_between : FuncData
  F_pair_between : Fun K "pair_between" "pair_between" s_pair_between f_pair_between d_pair_between
  b_pair_between : L2.Binds K d_pair_between ["one", "other"] []
  mg_pair_between : mg "pair_between" = some (.ref f_pair_between)
  f_is_view_alike : Addr
  d_is_view_alike : FuncData
  F_is_view_alike : Fun K "is_view_alike" "is_view_alike" s_is_view_alike f_is_view_alike d_is_view_alike
  b_is_view_alike : L2.Binds K d_is_view_alike ["one", "other"] []
  mg_is_view_alike : mg "is_view_alike" = some (.ref f_is_view_alike)
  f_view_alike : Addr
  d_view_alike : FuncData
  F_view_alike : Fun K "view_alike" "view_alike" s_view_alike f_view_alike d_view_alike
  b_view_alike : L2.Binds K d_view_alike ["one", "other"] []
  mg_view_alike : mg "view_alike" = some (.ref f_view_alike)
  f_l_tub : Addr
  d_l_tub : FuncData
  F_l_tub : Fun K "_law_tub" "_law_tub" s_l_tub f_l_tub d_l_tub
  b_l_tub : L2.Binds K d_l_tub ["_law_cells", "_law_at"] []
  mg_l_tub : mg "_law_tub" = some (.ref f_l_tub)
  f_l_ladle : Addr
  d_l_ladle : FuncData
  F_l_ladle : Fun K "_law_ladle" "_law_ladle" s_l_ladle f_l_ladle d_l_ladle
  b_l_ladle : L2.Binds K d_l_ladle ["_law_tub_here", "_law_upto"] []
  mg_l_ladle : mg "_law_ladle" = some (.ref f_l_ladle)
  f_l_any_of : Addr
  d_l_any_of : FuncData
  F_l_any_of : Fun K "_law_any_of" "_law_any_of" s_l_any_of f_l_any_of d_l_any_of
  b_l_any_of : L2.Binds K d_l_any_of ["_law_tub_here", "_law_things"] []
  mg_l_any_of : mg "_law_any_of" = some (.ref f_l_any_of)
  f_l_frac : Addr
  d_l_frac : FuncData
  F_l_frac : Fun K "_law_frac" "_law_frac" s_l_frac f_l_frac d_l_frac
  b_l_frac : L2.Binds K d_l_frac ["_law_top", "_law_bottom"] []
  mg_l_frac : mg "_law_frac" = some (.ref f_l_frac)
  f_l_plus : Addr
  d_l_plus : FuncData
  F_l_plus : Fun K "_law_plus" "_law_plus" s_l_plus f_l_plus d_l_plus
  b_l_plus : L2.Binds K d_l_plus ["_law_near", "_law_far"] []
  mg_l_plus : mg "_law_plus" = some (.ref f_l_plus)
  f_l_by : Addr
  d_l_by : FuncData
  F_l_by : Fun K "_law_by" "_law_by" s_l_by f_l_by d_l_by
  b_l_by : L2.Binds K d_l_by ["_law_near", "_law_far"] []
  mg_l_by : mg "_law_by" = some (.ref f_l_by)
  f_l_minus : Addr
  d_l_minus : FuncData
  F_l_minus : Fun K "_law_minus" "_law_minus" s_l_minus f_l_minus d_l_minus
  b_l_minus : L2.Binds K d_l_minus ["_law_near", "_law_far"] []
  mg_l_minus : mg "_law_minus" = some (.ref f_l_minus)
  f_l_power : Addr
  d_l_power : FuncData
  F_l_power : Fun K "_law_power" "_law_power" s_l_power f_l_power d_l_power
  b_l_power : L2.Binds K d_l_power ["_law_n", "_law_k"] []
  mg_l_power : mg "_law_power" = some (.ref f_l_power)
  f_l_fits : Addr
  d_l_fits : FuncData
  F_l_fits : Fun K "_law_fits" "_law_fits" s_l_fits f_l_fits d_l_fits
  b_l_fits : L2.Binds K d_l_fits ["_law_n", "_law_part"] []
  mg_l_fits : mg "_law_fits" = some (.ref f_l_fits)
  f_l_then : Addr
  d_l_then : FuncData
  F_l_then : Fun K "_law_then" "_law_then" s_l_then f_l_then d_l_then
  b_l_then : L2.Binds K d_l_then ["_law_x", "_law_y"] []
  mg_l_then : mg "_law_then" = some (.ref f_l_then)
  f_l_undone : Addr
  d_l_undone : FuncData
  F_l_undone : Fun K "_law_undone" "_law_undone" s_l_undone f_l_undone d_l_undone
  b_l_undone : L2.Binds K d_l_undone ["_law_x"] []
  mg_l_undone : mg "_law_undone" = some (.ref f_l_undone)
  f_l_shift : Addr
  d_l_shift : FuncData
  F_l_shift : Fun K "_law_shift" "_law_shift" s_l_shift f_l_shift d_l_shift
  b_l_shift : L2.Binds K d_l_shift ["_law_tub_here", "_law_n", "_law_most", "_law_deep"] []
  mg_l_shift : mg "_law_shift" = some (.ref f_l_shift)
  f_l_small : Addr
  d_l_small : FuncData
  F_l_small : Fun K "_law_small" "_law_small" s_l_small f_l_small d_l_small
  b_l_small : L2.Binds K d_l_small ["_law_tub_here", "_law_n"] []
  mg_l_small : mg "_law_small" = some (.ref f_l_small)
  f_l_view : Addr
  d_l_view : FuncData
  F_l_view : Fun K "_law_view" "_law_view" s_l_view f_l_view d_l_view
  b_l_view : L2.Binds K d_l_view ["_law_x"] []
  mg_l_view : mg "_law_view" = some (.ref f_l_view)
  f_l_seen : Addr
  d_l_seen : FuncData
  F_l_seen : Fun K "_law_seen" "_law_seen" s_l_seen f_l_seen d_l_seen
  b_l_seen : L2.Binds K d_l_seen ["_law_view_here"] []
  mg_l_seen : mg "_law_seen" = some (.ref f_l_seen)
  f_l_can_be_alike : Addr
  d_l_can_be_alike : FuncData
  F_l_can_be_alike : Fun K "_law_can_be_alike" "_law_can_be_alike" s_l_can_be_alike f_l_can_be_alike d_l_can_be_alike
  b_l_can_be_alike : L2.Binds K d_l_can_be_alike ["_law_x", "_law_y"] []
  mg_l_can_be_alike : mg "_law_can_be_alike" = some (.ref f_l_can_be_alike)
  f_l_other : Addr
  d_l_other : FuncData
  F_l_other : Fun K "_law_other" "_law_other" s_l_other f_l_other d_l_other
  b_l_other : L2.Binds K d_l_other ["_law_tub_here", "_law_x"] []
  mg_l_other : mg "_law_other" = some (.ref f_l_other)
  f_l_pair_right : Addr
  d_l_pair_right : FuncData
  F_l_pair_right : Fun K "_law_pair_right" "_law_pair_right" s_l_pair_right f_l_pair_right d_l_pair_right
  b_l_pair_right : L2.Binds K d_l_pair_right ["_law_x", "_law_y"] []
  mg_l_pair_right : mg "_law_pair_right" = some (.ref f_l_pair_right)
  f_l_right : Addr
  d_l_right : FuncData
  F_l_right : Fun K "_law_right" "_law_right" s_l_right f_l_right d_l_right
  b_l_right : L2.Binds K d_l_right ["_law_tub_here"] []
  mg_l_right : mg "_law_right" = some (.ref f_l_right)
  f_law : Addr
  d_law : FuncData
  F_law : Fun K "law" "law" s_law f_law d_law
  b_law : L2.Binds K d_law ["_law_cells"] []
  mg_law : mg "law" = some (.ref f_law)
  C_View : Addr
  mg_View : mg "View" = some (.ref C_View)
  cl_View : Cls K C_View
  mk_View : Mk K C_View f_View_init
  pp_View_factor : Addr
  pr_View_factor : PropOf K C_View "factor" pp_View_factor f_View_factor
  pp_View_zoom : Addr
  pr_View_zoom : PropOf K C_View "zoom" pp_View_zoom f_View_zoom
  pp_View_shift : Addr
  pr_View_shift : PropOf K C_View "shift" pp_View_shift f_View_shift
  na_View__factor : NoAttr K C_View "_factor"
  na_View__zoom : NoAttr K C_View "_zoom"
  na_View__shift : NoAttr K C_View "_shift"
  isi_View : IsiC K C_View
  t_LEAST_FACTOR : Tok
  c_LEAST_FACTOR : mg "LEAST_FACTOR" = some (.int (2) t_LEAST_FACTOR)
  t_MOST_FACTOR : Tok
  c_MOST_FACTOR : mg "MOST_FACTOR" = some (.int (5) t_MOST_FACTOR)
  t_MOST_ZOOM : Tok
  c_MOST_ZOOM : mg "MOST_ZOOM" = some (.int (400) t_MOST_ZOOM)
  u_ZERO : Addr
  mg_ZERO : mg "ZERO" = some (.ref u_ZERO)
  s_ZERO : ∀ H, SqT K H u_ZERO [.int (0), .int (1)]
  g_gcd : mg "gcd" = some (.builtin "math.gcd")
  n_int : mg "int" = none
  n_bool : mg "bool" = none
  n_tuple : mg "tuple" = none
  n_isinstance : mg "isinstance" = none
  n_len : mg "len" = none
  n_abs : mg "abs" = none
  n_repr : mg "repr" = none
  n_all : mg "all" = none
  n_range : mg "range" = none
  n_divmod : mg "divmod" = none
  n_min : mg "min" = none
  n_max : mg "max" = none
abbrev vw (C : Addr) (n k : Int) (q : Rat) : D := .ins C [("_factor", .int n), ("_zoom", .int k), ("_shift", qD q)]
abbrev pD (k : Int) (q : Rat) : D := .tup [.int k, qD q]
theorem lk_factor (n k : Int) (q : Rat) : List.lookup ("_factor" : Str) [(("_factor" : Str), D.int n), (("_zoom" : Str), D.int k), (("_shift" : Str), qD q)] = some (.int n) := by rfl
theorem lk_zoom (n k : Int) (q : Rat) : List.lookup ("_zoom" : Str) [(("_factor" : Str), D.int n), (("_zoom" : Str), D.int k), (("_shift" : Str), qD q)] = some (.int k) := by rfl
theorem lk_shift (n k : Int) (q : Rat) : List.lookup ("_shift" : Str) [(("_factor" : Str), D.int n), (("_zoom" : Str), D.int k), (("_shift" : Str), qD q)] = some (qD q) := by rfl
theorem em_zero {w : World} {K : PySem.W.Frag} {mg : Str → Option Value} (T : Tx w K mg) {a : Cd} {Γ : EnvD} {n : Mm} {Φ : D → Mm → Prop} (k : Φ (qD 0) n) : EvM K a (tC (.ref T.u_ZERO)) Γ n Φ := em_c (d := qD 0) (fun G => .tup (T.s_ZERO G) (.cons (.int 0) (.cons (.int 1) .nil))) k
/-! ### a step on data -/
local macro_rules | `(tactic| walk_at "bk0") => `(tactic| repeat' (first | assumption | exact Bk.lit 60 (by decide) | with_reducible apply Bk.mul | with_reducible apply Bk.add | with_reducible apply Bk.sub | with_reducible apply Bk.neg | with_reducible apply Bk.div))
local macro_rules | `(tactic| walk_at "bk") => `(tactic| (refine' Bk.up ?qa ?qb; (case qa => walk_at "bk0"); (case qb => decide)))
local macro_rules | `(tactic| walk_at "sz0") => `(tactic| repeat' (first | assumption | with_reducible apply Sz.add | with_reducible apply Sz.sub | with_reducible apply Sz.mul))
local macro_rules | `(tactic| walk_at "sz") => `(tactic| (refine' Sz.up ?qa ?qb; (case qa => walk_at "sz0"); (case qb => decide)))
local macro_rules | `(tactic| walk_at "cnd") => `(tactic| first | assumption | walk_at "sz" | decide | walk_at "bk" | omega)
local macro_rules | `(tactic| walk_at "mulw") => `(tactic| (refine' rm_C (mulW ?qa ?qb ?qc) ?_; (case qa => walk_at "bk0"); (case qb => walk_at "bk0"); (case qc => decide)))
local macro_rules | `(tactic| walk_at "pr") => `(tactic| ((first | refine ⟨rfl, ?_⟩ | refine ⟨_, rfl, ?_⟩ | refine ⟨_, _, rfl, ?_⟩ | refine ⟨_, _, _, rfl, ?_⟩ | refine ⟨_, _, _, _, rfl, ?_⟩ | refine ⟨_, _, _, _, _, rfl, ?_⟩ | refine ⟨_, _, _, _, _, _, rfl, ?_⟩ | refine ⟨_, _, _, _, _, _, _, rfl, ?_⟩); (repeat with_reducible refine And.intro (by walk_at "cnd") ?_)))
local macro_rules | `(tactic| walk_at "dl") => `(tactic| first
  | walk_at "dlx"
  | with_reducible apply sm_ret)
local macro_rules | `(tactic| walk_at "dlx") => `(tactic| first
  | (with_reducible refine sm_seqI fun _ _ => ?_)
  | with_reducible apply sm_next
  | with_reducible apply sm_asg
  | with_reducible apply sm_drop
  | with_reducible apply sm_if
  | with_reducible apply sm_asgG
  | with_reducible apply sm_asg3
  | with_reducible apply sm_par
  | with_reducible apply sm_par3
  | with_reducible apply em_op
  | with_reducible apply em_un
  | with_reducible apply em_tup
  | with_reducible apply em_lst
  | with_reducible apply em_cb
  | with_reducible apply em_if
  | with_reducible apply em_andV
  | with_reducible apply em_orV
  | with_reducible apply em_notV
  | with_reducible apply em_isN
  | with_reducible apply em_notN
  | with_reducible apply em_prop
  | with_reducible apply em_callP
  | with_reducible apply em_callN
  | with_reducible refine em_callV rfl ?_
  | with_reducible apply em_make
  | with_reducible apply em_tupleL
  | with_reducible apply em_joinK
  | with_reducible apply em_int
  | with_reducible apply em_str
  | with_reducible apply em_bl
  | with_reducible apply em_non
  | with_reducible apply em_ty
  | with_reducible refine em_zero ‹Tx _ _ _› ?_
  | with_reducible apply em_adr
  | with_reducible apply am_cons
  | with_reducible apply am_nil
  | with_reducible apply tm_test
  | with_reducible apply tm_B
  | with_reducible apply tm_not
  | with_reducible apply tm_and
  | with_reducible apply tm_or
  | with_reducible apply tm_yes
  | with_reducible apply rm_add
  | with_reducible apply rm_sub
  | with_reducible apply rm_eqI
  | with_reducible apply rm_neI
  | with_reducible apply rm_eqB
  | with_reducible apply rm_neB
  | with_reducible apply cm_neg
  | with_reducible apply rm_lt
  | with_reducible apply cm_int1
  | with_reducible apply cm_abs
  | with_reducible apply cm_max2
  | with_reducible apply cm_min2
  | with_reducible apply cm_gcd
  | ((with_reducible show EvM _ _ (tSl (rSlL _) _ _ _) _ _ _); apply em_slL)
  | ((with_reducible show RM _ _ (rIxT _) (D.tup _) (D.int _) _ _); refine rm_ixT rfl ?_)
  | ((with_reducible show RM _ _ (rIxL _) (D.lst _) (D.int _) _ _); refine rm_ixL rfl ?_)
  | ((with_reducible show GM _ _ (gTup _ _ _) (D.tup _) _ _ _); refine gm_tup rfl ?_)
  | ((with_reducible show GM _ _ (gUnl _ _ _) (D.lst _) _ _ _); refine gm_unl rfl ?_)
  | with_reducible apply om_none
  | with_reducible apply om_some
  | (refine rm_C (C := CMul) (Or.inl ⟨by decide, by decide⟩) ?_)
  | (refine rm_C (C := CMul) (Or.inr ⟨by decide, by decide⟩) ?_)
  | (refine rm_C (C := CPow) ⟨by decide, by decide, by decide⟩ ?_)
  | (refine rm_C (C := fun (_ : Int) (j : Int) => 0 < j) (by decide) ?_)
  | (refine rm_C (C := CDivW) ⟨by decide, by decide +kernel⟩ ?_)
  | walk_at "mulw"
  | with_reducible apply gsm_nil
  | with_reducible apply gsm_cons
  | with_reducible apply gm_name
  | (with_reducible refine em_var rfl ?_)
  | (refine And.intro (show List.length _ ≤ 1000 from by simp) ?_)
  | (with_reducible refine (⟨_, _, rfl, ?_⟩ : ∃ x y, [_, _] = [x, y] ∧ _))
  | (with_reducible refine (⟨_, _, _, rfl, ?_⟩ : ∃ x y z, [_, _, _] = [x, y, z] ∧ _))
  | (refine ⟨_, _, rfl, lk_factor _ _ _, ?_⟩)
  | (refine ⟨_, _, rfl, lk_zoom _ _ _, ?_⟩)
  | (refine ⟨_, _, rfl, lk_shift _ _ _, ?_⟩)
  | (refine ⟨_, rfl, fun z => absurd z (by decide), fun _ => ?_⟩)
  | (refine ⟨fun z => absurd z (by decide), fun _ => ?_⟩)
  | (refine ⟨fun _ => ?_, fun z => absurd z (by decide)⟩)
  | (refine ⟨_, rfl, fun _ => ?_, fun z => absurd z (by decide)⟩)
  | (with_reducible refine (‹∀ Γ' m, SM _ _ _ Γ' m _ _ → _› : ∀ Γ' m, SM _ _ _ Γ' m _ _ → _) _ _ ?_)
  | (with_reducible dsimp only))
section
variable {P : Program} {w : World} {K : PySem.W.Frag} {mg : Str → Option Value} {base : Heap}
def P_is_integer : List D → (D → Prop) → Prop := fun ds Φ => ∃ i, ds = [.int i] ∧ Φ (.bl true)
theorem ok_is_integer (T : Tx w K mg) : FnOk P w K mg base CX0 1 T.f_is_integer T.d_is_integer ["value"] (spP K P_is_integer) := by
  refine T.F_is_integer.ok sc_is_integer (fun vs H Q E h => len_P h fun ds Φ ⟨_, e, _⟩ => by subst e; rfl) (fun cdv A outer s H vs Q E hr h => ?_)
  refine ⟨_, (pss_one (ps_ret (pe_and (pe_callB (r := rIsi K) call_isi rfl T.n_isinstance boot_isinstance (pa_cons (pv 0) (pa_cons (pe_bltn (v := .ty "int") rfl T.n_int boot_int rfl) pa_nil))) (pe_one (pe_not (pe_callB (r := rIsi K) call_isi rfl T.n_isinstance boot_isinstance (pa_cons (pv 0) (pa_cons (pe_bltn (v := .ty "bool") rfl T.n_bool boot_bool rfl) pa_nil)))))))), ?_⟩
  refine body_P h fun ds Φ ⟨i, e, p⟩ => ?_
  subst e
  repeat walk_at "dl"
  refine cm_isi (T := "int") rfl (by decide +kernel) (fun _ => by simp) ⟨true, rfl, fun _ => ?_, (fun z => by cases z)⟩
  repeat walk_at "dl"
  exact cm_isi (T := "int") rfl (by decide +kernel) (fun _ => by simp) ⟨false, rfl, p⟩
def P_check_number : List D → (D → Prop) → Prop := fun ds Φ => ∃ i, ds = [.int i] ∧ Φ .non
theorem ok_check_number (T : Tx w K mg) : FnOk P w K mg base CX0 2 T.f_check_number T.d_check_number ["value"] (spP K P_check_number) := by
  refine T.F_check_number.ok sc_check_number (fun vs H Q E h => len_P h fun ds Φ ⟨_, e, _⟩ => by subst e; rfl) (fun cdv A outer s H vs Q E hr h => ?_)
  refine ⟨_, (pss_one (ps_if (pt_not (pt_val (pe_call (ok_is_integer T) (hr.mono (by decide)) rfl T.mg_is_integer T.F_is_integer.kp T.b_is_integer .nil pass0 (pa_cons (pv 0) pa_nil)))) (pss_one ps_never) pss_nil)), ?_⟩
  refine body_P h fun ds Φ ⟨i, e, p⟩ => ?_
  subst e
  repeat walk_at "dl"
  exact ⟨i, rfl, true, rfl, (fun z => by cases z), fun _ => sm_next p⟩
def P_is_ratio : List D → (D → Prop) → Prop := fun ds Φ => ∃ q : Rat, ds = [qD q] ∧ Φ (.bl true)
theorem gcd_q (q : Rat) : gcdI q.num q.den = 1 := by
  unfold gcdI
  have := q.reduced
  have e : Nat.gcd q.num.natAbs ((q.den : Int)).natAbs = 1 := this
  rw [e]
  rfl
theorem ok_is_ratio (T : Tx w K mg) : FnOk P w K mg base CX0 2 T.f_is_ratio T.d_is_ratio ["value"] (spP K P_is_ratio) := by
  refine T.F_is_ratio.ok sc_is_ratio (fun vs H Q E h => len_P h fun ds Φ ⟨_, e, _⟩ => by subst e; rfl) (fun cdv A outer s H vs Q E hr h => ?_)
  refine ⟨_, (pss_cons (ps_if (PW.pt (pw_or (pt_not (pt_val (pe_callB (r := rIsi K) call_isi rfl T.n_isinstance boot_isinstance (pa_cons (pv 0) (pa_cons (pe_bltn (v := .ty "tuple") rfl T.n_tuple boot_tuple rfl) pa_nil))))) (pw_or1 (pt_cmpR op_ne (pe_callB (r := rLenQ K) call_len_seq rfl T.n_len PySem.boot_len (pa_cons (pv 0) pa_nil)) pe_int (nomark _))))) (pss_one (ps_ret pe_bl)) pss_nil) (pss_cons (ps_asg (pv 0) (pg_tup rfl (pgs_cons (pg_name (i := 1) sc_is_ratio.nd rfl (by first | exact Or.inl rfl | exact Or.inr rfl)) (pgs_cons (pg_name (i := 2) sc_is_ratio.nd rfl (by first | exact Or.inl rfl | exact Or.inr rfl)) pgs_nil)))) (pss_one (ps_ret (pe_and (pe_call (ok_is_integer T) (hr.mono (by decide)) rfl T.mg_is_integer T.F_is_integer.kp T.b_is_integer .nil pass0 (pa_cons (pv 1) pa_nil)) (pe_and (pe_call (ok_is_integer T) (hr.mono (by decide)) rfl T.mg_is_integer T.F_is_integer.kp T.b_is_integer .nil pass0 (pa_cons (pv 2) pa_nil)) (pe_and (pe_cmpR op_gt (pv 2) pe_int (nomark _)) (pe_one (pe_cmpR op_eq (pe_callBfun cr_gcd rfl T.g_gcd (pa_cons (pv 1) (pa_cons (pv 2) pa_nil))) pe_int (nomark _)))))))))), ?_⟩
  refine body_P h fun ds Φ ⟨q, e, p⟩ => ?_
  subst e
  repeat walk_at "dl"
  refine cm_isiT (b := true) (by decide +kernel) ?_
  repeat walk_at "dl"
  refine cm_lenQ (.inr rfl) ?_
  repeat walk_at "dl"
  refine ⟨_, rfl, fun z => absurd z (by simp), fun _ => ?_⟩
  repeat walk_at "dl"
  refine ⟨_, rfl, ?_⟩
  repeat walk_at "dl"
  refine ⟨_, rfl, ?_⟩
  repeat walk_at "dl"
  refine ⟨_, rfl, fun _ => ?_, fun z => absurd (of_decide_eq_false z) (by have := den_pos q; omega)⟩
  repeat walk_at "dl"
  have e := gcd_q q
  unfold gcdI at e
  rw [e]
  exact p
def P_ratio : List D → (D → Prop) → Prop := fun ds Φ => ∃ a b : Int, ds = [.int a, .int b] ∧ b ≠ 0 ∧ Bk 1900 a ∧ Bk 1900 b ∧ Φ (qD (Rat.divInt a b))
theorem shr_bk {a b : Int} (h0 : b ≠ 0) (h : Bk 1900 b) : Bk 1900 (shr a b) := by
  have h1 := gcdI_pos (a := a) h0
  have h2 : gcdI a b ≤ b.natAbs := Int.le_of_dvd (by omega) (Int.dvd_natAbs.mpr (gcdI_dvd_r a b))
  unfold Bk at *
  unfold shr
  split <;> omega
theorem ok_ratio (T : Tx w K mg) : FnOk P w K mg base CX0 1 T.f_ratio T.d_ratio ["top", "bottom"] (spP K P_ratio) := by
  refine T.F_ratio.ok sc_ratio (fun vs H Q E h => len_P h fun ds Φ ⟨_, _, e, _⟩ => by subst e; rfl) (fun cdv A outer s H vs Q E hr h => ?_)
  refine ⟨_, (pss_cons (ps_set (i := 2) sc_ratio.nd rfl (by first | exact Or.inl rfl | exact Or.inr rfl) (pe_ifExp (pt_cmpR op_gt (pv 1) pe_int (nomark _)) (pe_callBfun cr_gcd rfl T.g_gcd (pa_cons (pv 0) (pa_cons (pv 1) pa_nil))) (pe_un un_neg (pe_callBfun cr_gcd rfl T.g_gcd (pa_cons (pv 0) (pa_cons (pv 1) pa_nil)))))) (pss_one (ps_ret (pe_tup (pa_cons (pe_op op_fdivS (pv 0) (pv 2)) (pa_cons (pe_op op_fdivS (pv 1) (pv 2)) pa_nil)))))), ?_⟩
  refine body_P h fun ds Φ ⟨a, b, e, h0, h1, h2, p⟩ => ?_
  subst e
  refine sm_cut (fun Γ' m => Γ' = [some (.int a), some (.int b), some (.int (shr a b))] ∧ m = ⟨0, []⟩) ?_ ?_
  · repeat walk_at "dl"
    unfold shr
    refine ⟨_, rfl, fun z => ?_, fun z => ?_⟩
    · rw [if_pos (of_decide_eq_true z)]
      repeat walk_at "dl"
      exact ⟨rfl, rfl⟩
    · rw [if_neg (of_decide_eq_false z)]
      repeat walk_at "dl"
      exact ⟨rfl, rfl⟩
  rintro Γ' m ⟨e1, e2⟩
  subst e1 e2
  have hs := divS (i := a) (shr_ne (a := a) h0) (shr_bk h0 h2) (by decide)
  have hs2 := divS (i := b) (shr_ne (a := a) h0) (shr_bk h0 h2) (by decide)
  repeat walk_at "dl"
  refine rm_C hs ?_
  repeat walk_at "dl"
  refine rm_C hs2 ?_
  rw [ratio_num h0, ratio_den h0]
  repeat walk_at "dl"
  exact p
def P_less : List D → (D → Prop) → Prop := fun ds Φ => ∃ p q : Rat, ds = [qD p, qD q] ∧ Sz 900 p ∧ Sz 900 q ∧ Φ (qD (p - q))
theorem ok_ratio_less (T : Tx w K mg) : FnOk P w K mg base CX0 2 T.f_ratio_less T.d_ratio_less ["one", "other"] (spP K P_less) := by
  refine T.F_ratio_less.ok sc_ratio_less (fun vs H Q E h => len_P h fun ds Φ ⟨_, _, e, _⟩ => by subst e; rfl) (fun cdv A outer s H vs Q E hr h => ?_)
  refine ⟨_, (pss_one (ps_ret (pe_call (ok_ratio T) (hr.mono (by decide)) rfl T.mg_ratio T.F_ratio.kp T.b_ratio .nil pass0 (pa_cons (pe_op op_sub (pe_op op_mulW (pe_ix (r := rIxT K) ix_tup (pv 0) pe_int (fun _ _ => rfl)) (pe_ix (r := rIxT K) ix_tup (pv 1) pe_int (fun _ _ => rfl))) (pe_op op_mulW (pe_ix (r := rIxT K) ix_tup (pv 1) pe_int (fun _ _ => rfl)) (pe_ix (r := rIxT K) ix_tup (pv 0) pe_int (fun _ _ => rfl)))) (pa_cons (pe_op op_mulW (pe_ix (r := rIxT K) ix_tup (pv 0) pe_int (fun _ _ => rfl)) (pe_ix (r := rIxT K) ix_tup (pv 1) pe_int (fun _ _ => rfl))) pa_nil))))), ?_⟩
  refine body_P h fun ds Φ ⟨u, v, e, hu, hv, p⟩ => ?_
  subst e
  obtain ⟨un, ud⟩ := hu
  obtain ⟨vn, vd⟩ := hv
  repeat walk_at "dl"
  refine ⟨_, _, rfl, Int.mul_ne_zero (den_ne _) (den_ne _), ((un.mul vd).sub1 ((vn.mul ud).up (by decide))).up (by decide), (ud.mul vd).up (by decide), ?_⟩
  rw [sub_q]
  exact p
def P_times : List D → (D → Prop) → Prop := fun ds Φ => ∃ p q : Rat, ds = [qD p, qD q] ∧ Sz 900 p ∧ Sz 900 q ∧ Φ (qD (p * q))
theorem ok_ratio_times (T : Tx w K mg) : FnOk P w K mg base CX0 2 T.f_ratio_times T.d_ratio_times ["one", "other"] (spP K P_times) := by
  refine T.F_ratio_times.ok sc_ratio_times (fun vs H Q E h => len_P h fun ds Φ ⟨_, _, e, _⟩ => by subst e; rfl) (fun cdv A outer s H vs Q E hr h => ?_)
  refine ⟨_, (pss_one (ps_ret (pe_call (ok_ratio T) (hr.mono (by decide)) rfl T.mg_ratio T.F_ratio.kp T.b_ratio .nil pass0 (pa_cons (pe_op op_mulW (pe_ix (r := rIxT K) ix_tup (pv 0) pe_int (fun _ _ => rfl)) (pe_ix (r := rIxT K) ix_tup (pv 1) pe_int (fun _ _ => rfl))) (pa_cons (pe_op op_mulW (pe_ix (r := rIxT K) ix_tup (pv 0) pe_int (fun _ _ => rfl)) (pe_ix (r := rIxT K) ix_tup (pv 1) pe_int (fun _ _ => rfl))) pa_nil))))), ?_⟩
  refine body_P h fun ds Φ ⟨u, v, e, hu, hv, p⟩ => ?_
  subst e
  obtain ⟨un, ud⟩ := hu
  obtain ⟨vn, vd⟩ := hv
  repeat walk_at "dl"
  refine ⟨_, _, rfl, Int.mul_ne_zero (den_ne _) (den_ne _), (un.mul vn).up (by decide), (ud.mul vd).up (by decide), ?_⟩
  rw [mul_q]
  exact p
def P_over : List D → (D → Prop) → Prop := fun ds Φ => ∃ p q : Rat, ds = [qD p, qD q] ∧ q ≠ 0 ∧ Sz 900 p ∧ Sz 900 q ∧ Φ (qD (p / q))
theorem ok_ratio_over (T : Tx w K mg) : FnOk P w K mg base CX0 2 T.f_ratio_over T.d_ratio_over ["one", "other"] (spP K P_over) := by
  refine T.F_ratio_over.ok sc_ratio_over (fun vs H Q E h => len_P h fun ds Φ ⟨_, _, e, _⟩ => by subst e; rfl) (fun cdv A outer s H vs Q E hr h => ?_)
  refine ⟨_, (pss_one (ps_ret (pe_call (ok_ratio T) (hr.mono (by decide)) rfl T.mg_ratio T.F_ratio.kp T.b_ratio .nil pass0 (pa_cons (pe_op op_mulW (pe_ix (r := rIxT K) ix_tup (pv 0) pe_int (fun _ _ => rfl)) (pe_ix (r := rIxT K) ix_tup (pv 1) pe_int (fun _ _ => rfl))) (pa_cons (pe_op op_mulW (pe_ix (r := rIxT K) ix_tup (pv 0) pe_int (fun _ _ => rfl)) (pe_ix (r := rIxT K) ix_tup (pv 1) pe_int (fun _ _ => rfl))) pa_nil))))), ?_⟩
  refine body_P h fun ds Φ ⟨u, v, e, h0, hu, hv, p⟩ => ?_
  subst e
  obtain ⟨un, ud⟩ := hu
  obtain ⟨vn, vd⟩ := hv
  repeat walk_at "dl"
  refine ⟨_, _, rfl, Int.mul_ne_zero (den_ne _) (fun z => h0 (Rat.num_eq_zero.mp z)), (un.mul vd).up (by decide), (ud.mul vn).up (by decide), ?_⟩
  rw [div_q]
  exact p
/-- a factor -/
structure Fa (n : Int) : Prop where
  lo : 2 ≤ n
  hi : n ≤ 5
theorem Fa.small {n : Int} (h : Fa n) : n.natAbs < 10 := by have := h.lo; have := h.hi; omega
theorem Fa.ne {n : Int} (h : Fa n) : n ≠ 0 := by have := h.lo; omega
def P_power_of : List D → (D → Prop) → Prop := fun ds Φ => ∃ n e : Int, ds = [.int n, .int e] ∧ Fa n ∧ e.natAbs ≤ 500 ∧ Φ (qD ((n : Rat) ^ e))
def mu4 (Γ : EnvD) (_ : Mm) : Nat := match Γ[4]? with | some (some (D.int l)) => l.toNat | _ => 0
theorem ok_power_of (T : Tx w K mg) : FnOk P w K mg base CX0 2 T.f_power_of T.d_power_of ["base", "exponent"] (spP K P_power_of) := by
  refine T.F_power_of.ok sc_power_of (fun vs H Q E h => len_P h fun ds Φ ⟨_, _, e, _⟩ => by subst e; rfl) (fun cdv A outer s H vs Q E hr h => ?_)
  refine ⟨_, (pss_cons (ps_set (i := 2) sc_power_of.nd rfl (by first | exact Or.inl rfl | exact Or.inr rfl) pe_int) (pss_cons (ps_set (i := 3) sc_power_of.nd rfl (by first | exact Or.inl rfl | exact Or.inr rfl) (pv 0)) (pss_cons (ps_set (i := 4) sc_power_of.nd rfl (by first | exact Or.inl rfl | exact Or.inr rfl) (pe_callB call_abs rfl T.n_abs boot_abs (pa_cons (pv 1) pa_nil))) (pss_cons (ps_while PassesOwn.never (pt_cmpR op_gt (pv 4) pe_int (nomark _)) (pss_cons (ps_if (pt_cmpR op_eq (pe_op op_mod (pv 4) pe_int) pe_int (nomark _)) (pss_one (ps_set (i := 2) sc_power_of.nd rfl (by first | exact Or.inl rfl | exact Or.inr rfl) (pe_op op_mulW (pv 2) (pv 3)))) pss_nil) (pss_cons (ps_set (i := 3) sc_power_of.nd rfl (by first | exact Or.inl rfl | exact Or.inr rfl) (pe_op op_mulW (pv 3) (pv 3))) (pss_one (ps_set (i := 4) sc_power_of.nd rfl (by first | exact Or.inl rfl | exact Or.inr rfl) (pe_op op_fdivW (pv 4) pe_int)))))) (pss_one (ps_ret (pe_ifExp (pt_cmpR op_ge (pv 1) pe_int (nomark _)) (pe_tup (pa_cons (pv 2) (pa_cons pe_int pa_nil))) (pe_call (ok_ratio T) (hr.mono (by decide)) rfl T.mg_ratio T.F_ratio.kp T.b_ratio .nil pass0 (pa_cons pe_int (pa_cons (pv 2) pa_nil)))))))))), ?_⟩
  refine body_P h fun ds Φ ⟨n, e', e, hn, he, p⟩ => ?_
  subst e
  repeat walk_at "dl"
  have e0 : (if e' < 0 then -e' else e') = ((e'.natAbs : Nat) : Int) := by split <;> omega
  rw [e0]
  refine sm_while (fun Γ' m => ∃ t s l : Nat, t + s * l = e'.natAbs ∧ Γ' = [some (.int n), some (.int e'), some (.int (n ^ t)), some (.int (n ^ s)), some (.int (l : Int))] ∧ m = ⟨0, []⟩) mu4 ⟨0, 1, e'.natAbs, by omega, by rw [Int.pow_zero, Int.pow_one]; rfl, rfl⟩ ?_
  rintro Γ' m ⟨t, s, l, hE, e1, e2⟩
  subst e1 e2
  repeat walk_at "dl"
  refine ⟨_, rfl, fun z => ?_, fun z => ?_⟩
  · have hl : 0 < l := by have := of_decide_eq_true z; omega
    have hsl : s ≤ s * l := Nat.le_mul_of_pos_right _ hl
    have bt := (Bk.pow hn.small t).up (show t + 1 ≤ 501 by omega)
    have bs := (Bk.pow hn.small s).up (show s + 1 ≤ 501 by omega)
    refine sm_cut (fun Γ' m => ∃ t' : Nat, t' + 2 * s * (l / 2) = e'.natAbs ∧ Γ' = [some (.int n), some (.int e'), some (.int (n ^ t')), some (.int (n ^ s)), some (.int (l : Int))] ∧ m = ⟨0, []⟩) ?_ ?_
    · repeat walk_at "dl"
      refine ⟨_, rfl, fun z => ?_, fun z => ?_⟩
      · have hz : l % 2 = 1 := by have := of_decide_eq_true z; omega
        repeat walk_at "dl"
        refine ⟨t + s, ?_, by rw [Int.pow_add]; rfl, rfl⟩
        have : l = 2 * (l / 2) + 1 := by omega
        have e3 : s * l = 2 * s * (l / 2) + s := by
          conv => lhs; rw [this]
          grind
        omega
      · have hz : l % 2 = 0 := by have := of_decide_eq_false z; omega
        repeat walk_at "dl"
        refine ⟨t, ?_, rfl, rfl⟩
        have : l = 2 * (l / 2) := by omega
        have e3 : s * l = 2 * s * (l / 2) := by
          conv => lhs; rw [this]
          grind
        omega
    rintro Γ' m ⟨t', ht, e1, e2⟩
    subst e1 e2
    repeat walk_at "dl"
    refine ⟨⟨t', 2 * s, l / 2, ht, ?_, rfl⟩, ?_⟩
    · rw [← Int.pow_add, show s + s = 2 * s by omega]
      rfl
    · show ((l : Int) / 2).toNat < (l : Int).toNat
      omega
  · have hl : l = 0 := by have := of_decide_eq_false z; omega
    subst hl
    have ht : t = e'.natAbs := by omega
    repeat walk_at "dl"
    refine ⟨_, rfl, fun z => ?_, fun z => ?_⟩
    · have hz : 0 ≤ e' := of_decide_eq_true z
      repeat walk_at "dl"
      have := pow_q n t
      rw [show (t : Int) = e' by omega] at this
      rw [this] at p
      exact p
    · have hz : e' < 0 := by have := of_decide_eq_false z; omega
      repeat walk_at "dl"
      refine ⟨_, _, rfl, Int.pow_ne_zero hn.ne, Bk.up (j := 1) (by unfold Bk; decide) (by decide), (Bk.pow hn.small t).up (by omega), ?_⟩
      rw [pow_neg_q, show (-(t : Int)) = e' by omega]
      exact p
theorem gcd_one {l n : Int} {m : Nat} (h0 : 0 < l) (hd : l ∣ n ^ m) (hg : gcdI l n = 1) : l = 1 := by
  have h1 : Nat.gcd l.natAbs n.natAbs = 1 := by
    unfold gcdI at hg
    omega
  have h2 : l.natAbs ∣ n.natAbs ^ m := by
    have := Int.natAbs_dvd_natAbs.mpr hd
    rwa [Int.natAbs_pow] at this
  have h3 : Nat.gcd l.natAbs (n.natAbs ^ m) = 1 := Nat.Coprime.pow_right m h1
  have h4 := Nat.gcd_eq_left h2
  omega
def mu2 (Γ : EnvD) (_ : Mm) : Nat := match Γ[2]? with | some (some (D.int l)) => l.toNat | _ => 0
def P_stripped : List D → (D → Prop) → Prop := fun ds Φ => ∃ d n : Int, ds = [.int d, .int n] ∧ Fa n ∧ 0 < d ∧ Bk 900 d ∧ ∀ l : Int, (l = 1 ↔ ∃ m : Nat, d ∣ n ^ m) → Φ (.int l)
theorem fit_step {l n g : Int} (hg : g ∣ l) (hn : g ∣ n) : (∃ m : Nat, l / g ∣ n ^ m) ↔ ∃ m : Nat, l ∣ n ^ m := by
  have e := Int.mul_ediv_cancel' hg
  constructor
  · rintro ⟨m, h⟩
    refine ⟨m + 1, ?_⟩
    rw [← e, Int.pow_succ, Int.mul_comm (n ^ m) n]
    exact Int.mul_dvd_mul hn h
  · rintro ⟨m, h⟩
    exact ⟨m, Int.dvd_trans (Int.ediv_dvd_of_dvd hg) h⟩
theorem fit_end {l n : Int} (hl : 0 < l) (hg : gcdI l n = 1) : l = 1 ↔ ∃ m : Nat, l ∣ n ^ m :=
  ⟨fun e => ⟨0, by rw [e]; exact Int.one_dvd _⟩, fun ⟨_, h⟩ => gcd_one hl h hg⟩
theorem ok_stripped (T : Tx w K mg) : FnOk P w K mg base CX0 1 T.f_stripped T.d_stripped ["number", "factor"] (spP K P_stripped) := by
  refine T.F_stripped.ok sc_stripped (fun vs H Q E h => len_P h fun ds Φ ⟨_, _, e, _⟩ => by subst e; rfl) (fun cdv A outer s H vs Q E hr h => ?_)
  refine ⟨_, (pss_cons (ps_set (i := 2) sc_stripped.nd rfl (by first | exact Or.inl rfl | exact Or.inr rfl) (pv 0)) (pss_cons (ps_set (i := 3) sc_stripped.nd rfl (by first | exact Or.inl rfl | exact Or.inr rfl) (pe_callBfun cr_gcd rfl T.g_gcd (pa_cons (pv 2) (pa_cons (pv 1) pa_nil)))) (pss_cons (ps_while PassesOwn.never (pt_cmpR op_gt (pv 3) pe_int (nomark _)) (pss_cons (ps_set (i := 2) sc_stripped.nd rfl (by first | exact Or.inl rfl | exact Or.inr rfl) (pe_op op_fdivW (pv 2) (pv 3))) (pss_one (ps_set (i := 3) sc_stripped.nd rfl (by first | exact Or.inl rfl | exact Or.inr rfl) (pe_callBfun cr_gcd rfl T.g_gcd (pa_cons (pv 2) (pa_cons (pv 1) pa_nil))))))) (pss_one (ps_ret (pv 2)))))), ?_⟩
  refine body_P h fun ds Φ ⟨d, n, e, hn, h0, hb, p⟩ => ?_
  subst e
  repeat walk_at "dl"
  refine sm_while (fun Γ' m => ∃ l : Int, 0 < l ∧ ((∃ m : Nat, l ∣ n ^ m) ↔ ∃ m : Nat, d ∣ n ^ m) ∧ Bk 900 l ∧ Γ' = [some (.int d), some (.int n), some (.int l), some (.int (gcdI l n))] ∧ m = ⟨0, []⟩) mu2 ⟨d, h0, Iff.rfl, hb, rfl, rfl⟩ ?_
  rintro Γ' m ⟨l, hl, hd, bl, e1, e2⟩
  subst e1 e2
  have hg := gcdI_pos (a := l) hn.ne
  have gl : gcdI l n ∣ l := gcdI_dvd_l l n
  have gn : gcdI l n ≤ n := Int.le_of_dvd (by have := hn.lo; omega) (gcdI_dvd_r l n)
  repeat walk_at "dl"
  refine ⟨_, rfl, fun z => ?_, fun z => ?_⟩
  · have hz : 1 < gcdI l n := of_decide_eq_true z
    have hq := Int.mul_ediv_cancel' gl
    have q0 : 0 < l / gcdI l n := Int.ediv_pos_of_pos_of_dvd hl (by omega) gl
    have q1 : l / gcdI l n < l := by
      have := Int.mul_lt_mul_of_pos_right hz q0
      omega
    repeat walk_at "dl"
    refine rm_C (divWp hg (k := 1) (by unfold Bk; have := hn.hi; omega) (by decide)) ?_
    repeat walk_at "dl"
    refine ⟨⟨l / gcdI l n, q0, (fit_step gl (gcdI_dvd_r l n)).trans hd, bl.div, rfl, rfl⟩, ?_⟩
    show (l / gcdI l n).toNat < l.toNat
    omega
  · have hz : gcdI l n = 1 := by have := of_decide_eq_false z; omega
    repeat walk_at "dl"
    exact p l ((fit_end hl hz).trans hd)
def Fit (n : Int) (q : Rat) : Prop := ∃ m : Nat, (q.den : Int) ∣ n ^ m
def P_fits : List D → (D → Prop) → Prop := fun ds Φ => ∃ (q : Rat) (n : Int), ds = [qD q, .int n] ∧ Fa n ∧ Sz 900 q ∧ ∀ b : Bool, (b = true ↔ Fit n q) → Φ (.bl b)
theorem ok_fits (T : Tx w K mg) : FnOk P w K mg base CX0 2 T.f_fits T.d_fits ["value", "factor"] (spP K P_fits) := by
  refine T.F_fits.ok sc_fits (fun vs H Q E h => len_P h fun ds Φ ⟨_, _, e, _⟩ => by subst e; rfl) (fun cdv A outer s H vs Q E hr h => ?_)
  refine ⟨_, (pss_one (ps_ret (pe_cmpR op_eq (pe_call (ok_stripped T) (hr.mono (by decide)) rfl T.mg_stripped T.F_stripped.kp T.b_stripped .nil pass0 (pa_cons (pe_ix (r := rIxT K) ix_tup (pv 0) pe_int (fun _ _ => rfl)) (pa_cons (pv 1) pa_nil))) pe_int (nomark _)))), ?_⟩
  refine body_P h fun ds Φ ⟨q, n, e, hn, hq, p⟩ => ?_
  subst e
  repeat walk_at "dl"
  refine ⟨_, _, rfl, hn, den_pos q, hq.d, fun l hl => ?_⟩
  repeat walk_at "dl"
  exact p _ (by rw [decide_eq_true_iff]; exact hl)
theorem fit_of {n a b : Int} {m : Nat} (hb : b ≠ 0) (h : b ∣ n ^ m) : Fit n (Rat.divInt a b) := by
  refine ⟨m, Int.dvd_trans ?_ h⟩
  rw [Rat.den_divInt, if_neg hb]
  refine Int.dvd_trans (Int.natCast_dvd_natCast.mpr (Nat.div_dvd_of_dvd (?_ : b.gcd a ∣ b.natAbs))) (Int.natAbs_dvd.mpr (Int.dvd_refl b))
  exact Nat.gcd_dvd_left _ _
theorem Fit.mul {n : Int} {p q : Rat} (h : Fit n p) (l : Fit n q) : Fit n (p * q) := by
  obtain ⟨i, hi⟩ := h
  obtain ⟨j, hj⟩ := l
  rw [← mul_q]
  exact fit_of (m := i + j) (Int.mul_ne_zero (den_ne _) (den_ne _)) (by rw [Int.pow_add]; exact Int.mul_dvd_mul hi hj)
theorem Fit.add {n : Int} {p q : Rat} (h : Fit n p) (l : Fit n q) : Fit n (p + q) := by
  obtain ⟨i, hi⟩ := h
  obtain ⟨j, hj⟩ := l
  rw [← add_q]
  exact fit_of (m := i + j) (Int.mul_ne_zero (den_ne _) (den_ne _)) (by rw [Int.pow_add]; exact Int.mul_dvd_mul hi hj)
theorem Fit.int (n a : Int) : Fit n (a : Rat) := ⟨0, by rw [Rat.den_intCast]; exact Int.one_dvd _⟩
theorem Fit.zpow {n : Int} (hn : Fa n) (e : Int) : Fit n ((n : Rat) ^ e) := by
  rcases Int.natAbs_eq e with h | h
  · generalize e.natAbs = m at h
    subst h
    refine ⟨0, ?_⟩
    rw [Rat.zpow_natCast, Rat.den_pow, Rat.den_intCast, Nat.one_pow]
    exact Int.one_dvd _
  · generalize e.natAbs = m at h
    subst h
    rw [← pow_neg_q]
    exact fit_of (m := m) (Int.pow_ne_zero hn.ne) (Int.dvd_refl _)
theorem Fa.q {n : Int} (h : Fa n) : (n : Rat) ≠ 0 := fun z => h.ne (by
  have := congrArg Rat.num z
  rwa [Rat.num_intCast] at this)
theorem zpow_ne_one {n k : Int} (hn : Fa n) (hk : k ≠ 0) : (n : Rat) ^ k ≠ 1 := by
  have key : ∀ m : Nat, m ≠ 0 → (n : Rat) ^ (m : Int) ≠ 1 := by
    intro m hm z
    have h := congrArg Rat.num z
    rw [Rat.zpow_natCast, Rat.num_pow, Rat.num_intCast] at h
    have h1 : n.natAbs ^ m = 1 := by
      have := congrArg Int.natAbs h
      rwa [Int.natAbs_pow] at this
    have h2 : 2 ^ m ≤ n.natAbs ^ m := Nat.pow_le_pow_left (by have := hn.lo; omega) m
    have h3 : m < 2 ^ m := Nat.lt_two_pow_self
    omega
  rcases Int.natAbs_eq k with h | h
  · rw [h]; exact key _ (by omega)
  · rw [h, Rat.zpow_neg]
    intro z
    refine key k.natAbs (by omega) ?_
    have := congrArg (fun x : Rat => x⁻¹) z
    simp only [Rat.inv_inv] at this
    rw [this]
    decide +kernel
/-- how far a view done so often shifts -/
def qoft (n k : Int) (q : Rat) (t : Int) : Rat := if k = 0 then (t : Rat) * q else q * (((n : Rat) ^ (k * t) - 1) / ((n : Rat) ^ k - 1))
def gro (n k t : Int) : Rat := ((n : Rat) ^ (k * t) - 1) / ((n : Rat) ^ k - 1)
theorem gro_succ {n k : Int} (hn : Fa n) (hk : k ≠ 0) (t : Int) : gro n k (t + 1) = (n : Rat) ^ k * gro n k t + 1 := by
  unfold gro
  have h0 : (n : Rat) ^ k - 1 ≠ 0 := fun z => zpow_ne_one hn hk (by grind)
  have e : (n : Rat) ^ (k * (t + 1)) = (n : Rat) ^ (k * t) * (n : Rat) ^ k := by
    rw [← Rat.zpow_add hn.q, show k * (t + 1) = k * t + k by grind]
  rw [e]
  generalize (n : Rat) ^ k = x at *
  generalize (n : Rat) ^ (k * t) = y at *
  grind
theorem gro_zero (n k : Int) : gro n k 0 = 0 := by
  unfold gro
  rw [Int.mul_zero, Rat.zpow_zero]
  grind
theorem gro_fit {n k : Int} (hn : Fa n) (hk : k ≠ 0) (t : Int) : Fit n (gro n k t) := by
  have pos : ∀ (k : Int), k ≠ 0 → ∀ m : Nat, Fit n (gro n k m) := by
    intro k hk m
    induction m with
    | zero => rw [show ((0 : Nat) : Int) = 0 from rfl, gro_zero]; exact Fit.int n 0
    | succ m ih =>
      rw [show ((m + 1 : Nat) : Int) = (m : Int) + 1 by omega, gro_succ hn hk]
      exact ((Fit.zpow hn k).mul ih).add (Fit.int n 1)
  rcases Int.natAbs_eq t with h | h
  · rw [h]; exact pos k hk _
  · have h2 := pos (-k) (by omega) t.natAbs
    have e : gro n k t = (n : Rat) ^ (-k) * (-1 : Int) * gro n (-k) t.natAbs := by
      unfold gro
      have h0 : (n : Rat) ^ k - 1 ≠ 0 := fun z => zpow_ne_one hn hk (by grind)
      have h1 : (n : Rat) ^ (-k) - 1 ≠ 0 := fun z => zpow_ne_one hn (k := -k) (by omega) (by grind)
      have e2 : (n : Rat) ^ k * (n : Rat) ^ (-k) = 1 := by
        rw [← Rat.zpow_add hn.q, show k + -k = 0 by omega, Rat.zpow_zero]
      have e4 : k * t = -k * (t.natAbs : Int) := by
        generalize t.natAbs = m at h
        rw [h, Int.mul_neg, Int.neg_mul]
      rw [e4]
      have e3 : ((-1 : Int) : Rat) = -1 := rfl
      rw [e3]
      generalize (n : Rat) ^ k = x at *
      generalize (n : Rat) ^ (-k) = y at *
      generalize (n : Rat) ^ (-k * (t.natAbs : Int)) = u at *
      grind
    rw [e]
    exact ((Fit.zpow hn _).mul (Fit.int n _)).mul h2
theorem qoft_fit {n k : Int} {q : Rat} (hn : Fa n) (hq : Fit n q) (t : Int) : Fit n (qoft n k q t) := by
  unfold qoft
  split
  · exact (Fit.int n t).mul hq
  · next h => exact hq.mul (gro_fit hn h t)
def P_View_init : List D → (List (Str × D) → Prop) → Prop := fun ds Φ => ∃ (n k : Int) (q : Rat), ds = [.int n, .int k, qD q] ∧ Fa n ∧ k.natAbs ≤ 400 ∧ Fit n q ∧ Sz 900 q ∧ Φ [("_factor", .int n), ("_zoom", .int k), ("_shift", qD q)]
theorem ok_View_init (T : Tx w K mg) : FnOk P w K mg base CX0 3 T.f_View_init T.d_View_init ["self", "factor", "zoom", "shift"] (spI K T.C_View P_View_init) := by
  refine T.F_View_init.ok sc_View_init (fun vs H Q E h => len_I h fun ds Φ ⟨_, _, _, e, _⟩ => by subst e; rfl) (fun cdv A outer s H vs Q E hr h => ?_)
  refine ⟨_, (pss_cons (ps_if (PW.pt (pw_or (pt_not (pt_val (pe_call (ok_is_integer T) (hr.mono (by decide)) rfl T.mg_is_integer T.F_is_integer.kp T.b_is_integer .nil pass0 (pa_cons (pv 1) pa_nil)))) (pw_or (pt_cmpR op_lt (pv 1) (pe_glob (v := .int (2)) rfl T.c_LEAST_FACTOR ⟨_, rfl⟩) (nomark _)) (pw_or1 (pt_cmpR op_gt (pv 1) (pe_glob (v := .int (5)) rfl T.c_MOST_FACTOR ⟨_, rfl⟩) (nomark _)))))) (pss_one ps_never) pss_nil) (pss_cons (ps_if (PW.pt (pw_or (pt_not (pt_val (pe_call (ok_is_integer T) (hr.mono (by decide)) rfl T.mg_is_integer T.F_is_integer.kp T.b_is_integer .nil pass0 (pa_cons (pv 2) pa_nil)))) (pw_or1 (pt_cmpR op_gt (pe_callB call_abs rfl T.n_abs boot_abs (pa_cons (pv 2) pa_nil)) (pe_glob (v := .int (400)) rfl T.c_MOST_ZOOM ⟨_, rfl⟩) (nomark _))))) (pss_one ps_never) pss_nil) (pss_cons (ps_if (PW.pt (pw_or (pt_not (pt_val (pe_call (ok_is_ratio T) (hr.mono (by decide)) rfl T.mg_is_ratio T.F_is_ratio.kp T.b_is_ratio .nil pass0 (pa_cons (pv 3) pa_nil)))) (pw_or1 (pt_not (pt_val (pe_call (ok_fits T) (hr.mono (by decide)) rfl T.mg_fits T.F_fits.kp T.b_fits .nil pass0 (pa_cons (pv 3) (pa_cons (pv 1) pa_nil)))))))) (pss_one ps_never) pss_nil) (pss_cons (ps_fld (pv 0) (pv 1) rfl) (pss_cons (ps_fld (pv 0) (pv 2) rfl) (pss_one (ps_fld (pv 0) (pv 3) rfl))))))), ?_⟩
  refine body_I h fun sx dx ds Φ ⟨n, k, q, e, hn, hk, hf, hq, p⟩ => ?_
  subst e
  have h1 := hn.lo
  have h2 := hn.hi
  repeat walk_at "dl"
  refine ⟨_, rfl, ?_⟩
  repeat walk_at "dl"
  refine ⟨_, rfl, fun z => absurd (of_decide_eq_true z) (by omega), fun _ => ?_⟩
  repeat walk_at "dl"
  refine ⟨_, rfl, fun z => absurd (of_decide_eq_true z) (by omega), fun _ => ?_⟩
  repeat walk_at "dl"
  refine ⟨_, rfl, ?_⟩
  repeat walk_at "dl"
  refine ⟨_, rfl, fun z => absurd (of_decide_eq_true z) (by split <;> omega), fun _ => ?_⟩
  repeat walk_at "dl"
  refine ⟨_, rfl, ?_⟩
  repeat walk_at "dl"
  refine ⟨_, _, rfl, hn, hq, fun b hb => ?_⟩
  rw [hb.mpr hf]
  repeat walk_at "dl"
  refine sm_fldO (i := 0) (x := sx) (dx := dx) T.cl_View T.na_View__factor ?_
  repeat walk_at "dl"
  refine ⟨rfl, [], rfl, by decide, ?_⟩
  repeat walk_at "dl"
  refine sm_fldO (i := 0) (x := sx) (dx := dx) T.cl_View T.na_View__zoom ?_
  repeat walk_at "dl"
  refine ⟨rfl, _, rfl, Nat.lt_of_sub_eq_succ rfl, ?_⟩
  repeat walk_at "dl"
  refine sm_fldO (i := 0) (x := sx) (dx := dx) T.cl_View T.na_View__shift ?_
  repeat walk_at "dl"
  exact ⟨rfl, _, rfl, Nat.lt_of_sub_eq_succ rfl, _, rfl, p⟩
theorem ok_View_factor (T : Tx w K mg) : FnOk P w K mg base CX0 1 T.f_View_factor T.d_View_factor ["self"] (getSp T.C_View "_factor") := by
  refine T.F_View_factor.ok sc_View_factor (fun vs H Q E h => by obtain ⟨a, dx, fs, v, e, _⟩ := h; rw [e]; rfl) (fun cdv A outer s H vs Q E hr h => ?_)
  obtain ⟨a, dx, fs, v, e, ha, hl, q⟩ := h
  subst e
  exact ⟨_, (pss_one (ps_ret (pe_fld (pv 0) rfl))), .ref a, rfl, a, T.C_View, dx, fs, v, rfl, ha, T.cl_View, T.na_View__factor, hl, q⟩
theorem ok_View_zoom (T : Tx w K mg) : FnOk P w K mg base CX0 1 T.f_View_zoom T.d_View_zoom ["self"] (getSp T.C_View "_zoom") := by
  refine T.F_View_zoom.ok sc_View_zoom (fun vs H Q E h => by obtain ⟨a, dx, fs, v, e, _⟩ := h; rw [e]; rfl) (fun cdv A outer s H vs Q E hr h => ?_)
  obtain ⟨a, dx, fs, v, e, ha, hl, q⟩ := h
  subst e
  exact ⟨_, (pss_one (ps_ret (pe_fld (pv 0) rfl))), .ref a, rfl, a, T.C_View, dx, fs, v, rfl, ha, T.cl_View, T.na_View__zoom, hl, q⟩
theorem ok_View_shift (T : Tx w K mg) : FnOk P w K mg base CX0 1 T.f_View_shift T.d_View_shift ["self"] (getSp T.C_View "_shift") := by
  refine T.F_View_shift.ok sc_View_shift (fun vs H Q E h => by obtain ⟨a, dx, fs, v, e, _⟩ := h; rw [e]; rfl) (fun cdv A outer s H vs Q E hr h => ?_)
  obtain ⟨a, dx, fs, v, e, ha, hl, q⟩ := h
  subst e
  exact ⟨_, (pss_one (ps_ret (pe_fld (pv 0) rfl))), .ref a, rfl, a, T.C_View, dx, fs, v, rfl, ha, T.cl_View, T.na_View__shift, hl, q⟩
def P_pair_of (C : Addr) : List D → (D → Prop) → Prop := fun ds Φ => ∃ (n k : Int) (q : Rat), ds = [vw C n k q] ∧ Φ (pD k q)
theorem ok_pair_of (T : Tx w K mg) : FnOk P w K mg base CX0 3 T.f_pair_of T.d_pair_of ["view"] (spP K (P_pair_of T.C_View)) := by
  refine T.F_pair_of.ok sc_pair_of (fun vs H Q E h => len_P h fun ds Φ ⟨_, _, _, e, _⟩ => by subst e; rfl) (fun cdv A outer s H vs Q E hr h => ?_)
  refine ⟨_, (pss_one (ps_ret (pe_tup (pa_cons (pe_prop (pv 0) T.cl_View T.pr_View_zoom (ok_View_zoom T) (hr.mono (by decide)) T.b_View_zoom .nil pass0 rfl) (pa_cons (pe_prop (pv 0) T.cl_View T.pr_View_shift (ok_View_shift T) (hr.mono (by decide)) T.b_View_shift .nil pass0 rfl) pa_nil))))), ?_⟩
  refine body_P h fun ds Φ ⟨n, k, q, e, p⟩ => ?_
  subst e
  repeat walk_at "dl"
  exact p
theorem eqv_qD (p q : Rat) : PyData.eqv (py (qD p)) (py (qD q)) = decide (p = q) := by
  show ((p.num == q.num) && (((p.den : Int) == (q.den : Int)) && true)) = _
  rw [Bool.and_true, Bool.eq_iff_iff, Bool.and_eq_true, beq_iff_eq, beq_iff_eq, decide_eq_true_iff]
  exact ⟨fun h => Rat.ext h.1 (by omega), fun h => by subst h; exact ⟨rfl, rfl⟩⟩
theorem eqv_pD (k k' : Int) (p q : Rat) : PyData.eqv (py (pD k p)) (py (pD k' q)) = decide (k = k' ∧ p = q) := by
  show ((k == k') && (PyData.eqv (py (qD p)) (py (qD q)) && true)) = _
  rw [Bool.and_true, eqv_qD, Bool.decide_and]
  rfl
def P_view_of (C : Addr) : List D → (D → Prop) → Prop := fun ds Φ => ∃ (n k : Int) (q : Rat), ds = [.int n, pD k q] ∧ Fa n ∧ k.natAbs ≤ 400 ∧ Fit n q ∧ Sz 900 q ∧ Φ (vw C n k q)
theorem ok_view_of (T : Tx w K mg) : FnOk P w K mg base CX0 5 T.f_view_of T.d_view_of ["factor", "pair"] (spP K (P_view_of T.C_View)) := by
  refine T.F_view_of.ok sc_view_of (fun vs H Q E h => len_P h fun ds Φ ⟨_, _, _, e, _⟩ => by subst e; rfl) (fun cdv A outer s H vs Q E hr h => ?_)
  refine ⟨_, (pss_cons (ps_asg (pv 1) (pg_tup rfl (pgs_cons (pg_name (i := 2) sc_view_of.nd rfl (by first | exact Or.inl rfl | exact Or.inr rfl)) (pgs_cons (pg_name (i := 3) sc_view_of.nd rfl (by first | exact Or.inl rfl | exact Or.inr rfl)) pgs_nil)))) (pss_cons (ps_if (pt_cmpR op_gt (pe_callB call_abs rfl T.n_abs boot_abs (pa_cons (pv 2) pa_nil)) (pe_glob (v := .int (400)) rfl T.c_MOST_ZOOM ⟨_, rfl⟩) (nomark _)) (pss_one ps_never) pss_nil) (pss_one (ps_ret (pe_make T.mk_View (ok_View_init T) (hr.mono (by decide)) rfl T.mg_View T.b_View_init .nil pass0 (pa_cons (pv 0) (pa_cons (pv 2) (pa_cons (pv 3) pa_nil)))))))), ?_⟩
  refine body_P h fun ds Φ ⟨n, k, q, e, hn, hk, hf, hq, p⟩ => ?_
  subst e
  repeat walk_at "dl"
  refine ⟨_, rfl, fun z => absurd (of_decide_eq_true z) (by split <;> omega), fun _ => ?_⟩
  repeat walk_at "dl"
  refine ⟨_, _, _, rfl, hn, hk, hf, hq, ?_⟩
  exact p
def P_check_view (C : Addr) : List D → (D → Prop) → Prop := fun ds Φ => ∃ (n k : Int) (q : Rat), ds = [vw C n k q] ∧ Φ .non
theorem ok_check_view (T : Tx w K mg) : FnOk P w K mg base CX0 1 T.f_check_view T.d_check_view ["value"] (spP K (P_check_view T.C_View)) := by
  refine T.F_check_view.ok sc_check_view (fun vs H Q E h => len_P h fun ds Φ ⟨_, _, _, e, _⟩ => by subst e; rfl) (fun cdv A outer s H vs Q E hr h => ?_)
  refine ⟨_, (pss_one (ps_if (pt_not (pt_val (pe_callB (r := rIsi K) call_isi rfl T.n_isinstance boot_isinstance (pa_cons (pv 0) (pa_cons (pe_glob (v := .ref T.C_View) rfl T.mg_View rfl) pa_nil))))) (pss_one ps_never) pss_nil)), ?_⟩
  refine body_P h fun ds Φ ⟨n, k, q, e, p⟩ => ?_
  subst e
  repeat walk_at "dl"
  exact cm_isiC T.isi_View ⟨true, rfl, (fun z => by cases z), fun _ => sm_next p⟩
def P_check_views (C : Addr) : List D → (D → Prop) → Prop := fun ds Φ => ∃ (n k : Int) (q : Rat) (k' : Int) (q' : Rat), ds = [vw C n k q, vw C n k' q'] ∧ Φ .non
theorem ok_check_views (T : Tx w K mg) : FnOk P w K mg base CX0 3 T.f_check_views T.d_check_views ["one", "other"] (spP K (P_check_views T.C_View)) := by
  refine T.F_check_views.ok sc_check_views (fun vs H Q E h => len_P h fun ds Φ ⟨_, _, _, _, _, e, _⟩ => by subst e; rfl) (fun cdv A outer s H vs Q E hr h => ?_)
  refine ⟨_, (pss_cons (ps_expr (pe_call (ok_check_view T) (hr.mono (by decide)) rfl T.mg_check_view T.F_check_view.kp T.b_check_view .nil pass0 (pa_cons (pv 0) pa_nil))) (pss_cons (ps_expr (pe_call (ok_check_view T) (hr.mono (by decide)) rfl T.mg_check_view T.F_check_view.kp T.b_check_view .nil pass0 (pa_cons (pv 1) pa_nil))) (pss_one (ps_if (pt_cmpR op_ne (pe_prop (pv 0) T.cl_View T.pr_View_factor (ok_View_factor T) (hr.mono (by decide)) T.b_View_factor .nil pass0 rfl) (pe_prop (pv 1) T.cl_View T.pr_View_factor (ok_View_factor T) (hr.mono (by decide)) T.b_View_factor .nil pass0 rfl) (nomark _)) (pss_one ps_never) pss_nil)))), ?_⟩
  refine body_P h fun ds Φ ⟨n, k, q, k', q', e, p⟩ => ?_
  subst e
  repeat walk_at "dl"
  refine ⟨_, _, _, rfl, ?_⟩
  repeat walk_at "dl"
  refine ⟨_, _, _, rfl, ?_⟩
  repeat walk_at "dl"
  refine ⟨_, rfl, fun z => absurd z (by simp), fun _ => ?_⟩
  repeat walk_at "dl"
  exact p
def P_scaled : List D → (D → Prop) → Prop := fun ds Φ => ∃ (n k : Int) (q : Rat), ds = [.int n, .int k, qD q] ∧ Fa n ∧ k.natAbs ≤ 500 ∧ Sz 900 q ∧ Φ (qD ((n : Rat) ^ k * q))
theorem ok_scaled (T : Tx w K mg) : FnOk P w K mg base CX0 3 T.f_scaled T.d_scaled ["factor", "zoom", "number"] (spP K P_scaled) := by
  refine T.F_scaled.ok sc_scaled (fun vs H Q E h => len_P h fun ds Φ ⟨_, _, _, e, _⟩ => by subst e; rfl) (fun cdv A outer s H vs Q E hr h => ?_)
  refine ⟨_, (pss_one (ps_ret (pe_call (ok_ratio_times T) (hr.mono (by decide)) rfl T.mg_ratio_times T.F_ratio_times.kp T.b_ratio_times .nil pass0 (pa_cons (pe_call (ok_power_of T) (hr.mono (by decide)) rfl T.mg_power_of T.F_power_of.kp T.b_power_of .nil pass0 (pa_cons (pv 0) (pa_cons (pv 1) pa_nil))) (pa_cons (pv 2) pa_nil))))), ?_⟩
  refine body_P h fun ds Φ ⟨n, k, q, e, hn, hk, hq, p⟩ => ?_
  subst e
  repeat walk_at "dl"
  refine ⟨_, _, rfl, hn, hk, ?_⟩
  repeat walk_at "dl"
  exact ⟨_, _, rfl, (Sz.zpow hn.small hn.ne k).up (by omega), hq, p⟩
def P_growth : List D → (D → Prop) → Prop := fun ds Φ => ∃ (n k : Int), ds = [.int n, .int k] ∧ Fa n ∧ k.natAbs ≤ 400 ∧ Φ (qD ((n : Rat) ^ k - 1))
theorem sz1 : Sz 1 (1 : Rat) := ⟨by unfold Bk; decide, by unfold Bk; decide⟩
theorem ok_growth (T : Tx w K mg) : FnOk P w K mg base CX0 3 T.f_growth T.d_growth ["factor", "zoom"] (spP K P_growth) := by
  refine T.F_growth.ok sc_growth (fun vs H Q E h => len_P h fun ds Φ ⟨_, _, e, _⟩ => by subst e; rfl) (fun cdv A outer s H vs Q E hr h => ?_)
  refine ⟨_, (pss_one (ps_ret (pe_call (ok_ratio_less T) (hr.mono (by decide)) rfl T.mg_ratio_less T.F_ratio_less.kp T.b_ratio_less .nil pass0 (pa_cons (pe_call (ok_power_of T) (hr.mono (by decide)) rfl T.mg_power_of T.F_power_of.kp T.b_power_of .nil pass0 (pa_cons (pv 0) (pa_cons (pv 1) pa_nil))) (pa_cons (pe_tup (pa_cons pe_int (pa_cons pe_int pa_nil))) pa_nil))))), ?_⟩
  refine body_P h fun ds Φ ⟨n, k, e, hn, hk, p⟩ => ?_
  subst e
  repeat walk_at "dl"
  refine ⟨_, _, rfl, hn, by omega, ?_⟩
  repeat walk_at "dl"
  have hz := (Sz.zpow hn.small hn.ne k).up (show k.natAbs + 2 ≤ 402 by omega)
  exact ⟨_, (1 : Rat), rfl, hz.up (by decide), sz1.up (by decide), p⟩
def P_pair_often : List D → (D → Prop) → Prop := fun ds Φ => ∃ (n k : Int) (q : Rat) (t : Int), ds = [.int n, pD k q, .int t] ∧ Fa n ∧ k.natAbs ≤ 400 ∧ (k * t).natAbs ≤ 400 ∧ Sz 80 q ∧ Bk 60 t ∧ Φ (pD (k * t) (qoft n k q t))
theorem szi {k : Nat} {t : Int} (h : Bk (k + 1) t) : Sz (k + 1) (t : Rat) := ⟨h, Bk.up (j := 1) (by rw [Rat.den_intCast]; unfold Bk; decide) (by omega)⟩
theorem qoft_no (n k : Int) (q : Rat) : qoft n k q 0 = 0 := by
  unfold qoft
  rw [Int.mul_zero]
  split
  · exact Rat.zero_mul _
  · rw [Rat.zpow_zero, Rat.sub_self, Rat.div_def, Rat.zero_mul, Rat.mul_zero]
theorem ok_pair_often (T : Tx w K mg) : FnOk P w K mg base CX0 4 T.f_pair_often T.d_pair_often ["factor", "pair", "times"] (spP K P_pair_often) := by
  refine T.F_pair_often.ok sc_pair_often (fun vs H Q E h => len_P h fun ds Φ ⟨_, _, _, _, e, _⟩ => by subst e; rfl) (fun cdv A outer s H vs Q E hr h => ?_)
  refine ⟨_, (pss_cons (ps_asg (pv 1) (pg_tup rfl (pgs_cons (pg_name (i := 3) sc_pair_often.nd rfl (by first | exact Or.inl rfl | exact Or.inr rfl)) (pgs_cons (pg_name (i := 4) sc_pair_often.nd rfl (by first | exact Or.inl rfl | exact Or.inr rfl)) pgs_nil)))) (pss_cons (ps_if (pt_cmpR op_eq (pv 2) pe_int (nomark _)) (pss_one (ps_ret (pe_tup (pa_cons pe_int (pa_cons (pe_glob (v := .ref T.u_ZERO) rfl T.mg_ZERO rfl) pa_nil))))) pss_nil) (pss_cons (ps_if (pt_cmpR op_eq (pv 3) pe_int (nomark _)) (pss_one (ps_ret (pe_tup (pa_cons pe_int (pa_cons (pe_call (ok_ratio_times T) (hr.mono (by decide)) rfl T.mg_ratio_times T.F_ratio_times.kp T.b_ratio_times .nil pass0 (pa_cons (pe_tup (pa_cons (pv 2) (pa_cons pe_int pa_nil))) (pa_cons (pv 4) pa_nil))) pa_nil))))) pss_nil) (pss_one (ps_ret (pe_tup (pa_cons (pe_op op_mulW (pv 3) (pv 2)) (pa_cons (pe_call (ok_ratio_times T) (hr.mono (by decide)) rfl T.mg_ratio_times T.F_ratio_times.kp T.b_ratio_times .nil pass0 (pa_cons (pv 4) (pa_cons (pe_call (ok_ratio_over T) (hr.mono (by decide)) rfl T.mg_ratio_over T.F_ratio_over.kp T.b_ratio_over .nil pass0 (pa_cons (pe_call (ok_growth T) (hr.mono (by decide)) rfl T.mg_growth T.F_growth.kp T.b_growth .nil pass0 (pa_cons (pv 0) (pa_cons (pe_op op_mulW (pv 3) (pv 2)) pa_nil))) (pa_cons (pe_call (ok_growth T) (hr.mono (by decide)) rfl T.mg_growth T.F_growth.kp T.b_growth .nil pass0 (pa_cons (pv 0) (pa_cons (pv 3) pa_nil))) pa_nil))) pa_nil))) pa_nil)))))))), ?_⟩
  refine body_P h fun ds Φ ⟨n, k, q, t, e, hn, hk, hkt, hq, ht, p⟩ => ?_
  subst e
  have hz1 := (Sz.zpow hn.small hn.ne k).up (show k.natAbs + 2 ≤ 402 by omega)
  have hz2 := (Sz.zpow hn.small hn.ne (k * t)).up (show (k * t).natAbs + 2 ≤ 402 by omega)
  have bk : Bk 10 k := by unfold Bk; omega
  repeat walk_at "dl"
  refine ⟨_, rfl, fun z0 => ?_, fun z0 => ?_⟩
  · have ht0 : t = 0 := of_decide_eq_true z0
    subst ht0
    repeat walk_at "dl"
    rw [qoft_no, Int.mul_zero] at p
    exact p
  repeat walk_at "dl"
  refine ⟨_, rfl, fun z => ?_, fun z => ?_⟩
  · have hk0 : k = 0 := of_decide_eq_true z
    subst hk0
    repeat walk_at "dl"
    refine ⟨(t : Rat), _, rfl, (szi (k := 59) ht).up (by decide), hq.up (by decide), ?_⟩
    repeat walk_at "dl"
    unfold qoft at p
    rw [if_pos rfl, Int.zero_mul] at p
    exact p
  · have hk0 : k ≠ 0 := of_decide_eq_false z
    have h0 : (n : Rat) ^ k - 1 ≠ 0 := fun z => zpow_ne_one hn hk0 (by grind)
    repeat walk_at "dl"
    refine ⟨_, _, rfl, hn, hkt, ?_⟩
    repeat walk_at "dl"
    refine ⟨_, _, rfl, hn, hk, ?_⟩
    repeat walk_at "dl"
    refine ⟨_, _, rfl, h0, (hz2.sub sz1).up (by decide), (hz1.sub sz1).up (by decide), ?_⟩
    repeat walk_at "dl"
    refine ⟨_, _, rfl, hq.up (by decide), ((hz2.sub sz1).div (hz1.sub sz1) h0).up (by decide), ?_⟩
    repeat walk_at "dl"
    unfold qoft at p
    rw [if_neg hk0] at p
    exact p
theorem qoft_neg {n k : Int} (hn : Fa n) (q : Rat) : qoft n k q (-1) = -((n : Rat) ^ (-k) * q) := by
  unfold qoft
  have e3 : ((-1 : Int) : Rat) = -1 := rfl
  split
  · next h =>
    subst h
    rw [e3, Int.neg_zero, Rat.zpow_zero]
    grind
  · next h =>
    have h0 : (n : Rat) ^ k - 1 ≠ 0 := fun z => zpow_ne_one hn h (by grind)
    have e2 : (n : Rat) ^ k * (n : Rat) ^ (-k) = 1 := by
      rw [← Rat.zpow_add hn.q, show k + -k = 0 by omega, Rat.zpow_zero]
    rw [show k * -1 = -k by omega]
    generalize (n : Rat) ^ k = x at *
    generalize (n : Rat) ^ (-k) = y at *
    grind
theorem szn {k : Nat} {q : Rat} (h : Sz k q) : Sz k (-q) := ⟨show Bk k (-q.num) from h.n.neg, show Bk k (q.den : Int) from h.d⟩
theorem Fit.neg {n : Int} {q : Rat} (h : Fit n q) : Fit n (-q) := by
  obtain ⟨m, hm⟩ := h
  exact ⟨m, show (q.den : Int) ∣ n ^ m from hm⟩
/-- n ** k, k at most so great -/
theorem zsz {n k : Int} (hn : Fa n) {c : Nat} (h : k.natAbs ≤ c) : Sz (c + 2) ((n : Rat) ^ k) := (Sz.zpow hn.small hn.ne k).up (by omega)
theorem qoft_sz {n k : Int} {q : Rat} {t : Int} (hn : Fa n) (hk : k.natAbs ≤ 400) (hkt : (k * t).natAbs ≤ 400) (hq : Sz 80 q) (ht : Bk 60 t) : Sz 900 (qoft n k q t) := by
  unfold qoft
  split
  · exact ((szi (k := 59) ht).mul hq).up (by decide)
  · next h =>
    have h0 : (n : Rat) ^ k - 1 ≠ 0 := fun z => zpow_ne_one hn h (by grind)
    exact (hq.mul (((zsz hn hkt).sub sz1).div ((zsz hn hk).sub sz1) h0)).up (by decide)
def P_view_often (C : Addr) : List D → (D → Prop) → Prop := fun ds Φ => ∃ (n k : Int) (q : Rat) (t : Int), ds = [vw C n k q, .int t] ∧ Fa n ∧ k.natAbs ≤ 400 ∧ (k * t).natAbs ≤ 400 ∧ Fit n q ∧ Sz 80 q ∧ Bk 60 t ∧ Φ (vw C n (k * t) (qoft n k q t))
theorem ok_view_often (T : Tx w K mg) : FnOk P w K mg base CX0 6 T.f_view_often T.d_view_often ["one", "times"] (spP K (P_view_often T.C_View)) := by
  refine T.F_view_often.ok sc_view_often (fun vs H Q E h => len_P h fun ds Φ ⟨_, _, _, _, e, _⟩ => by subst e; rfl) (fun cdv A outer s H vs Q E hr h => ?_)
  refine ⟨_, (pss_cons (ps_expr (pe_call (ok_check_view T) (hr.mono (by decide)) rfl T.mg_check_view T.F_check_view.kp T.b_check_view .nil pass0 (pa_cons (pv 0) pa_nil))) (pss_cons (ps_expr (pe_call (ok_check_number T) (hr.mono (by decide)) rfl T.mg_check_number T.F_check_number.kp T.b_check_number .nil pass0 (pa_cons (pv 1) pa_nil))) (pss_cons (ps_if (pt_cmpR op_gt (pe_callB call_abs rfl T.n_abs boot_abs (pa_cons (pe_op op_mulW (pe_prop (pv 0) T.cl_View T.pr_View_zoom (ok_View_zoom T) (hr.mono (by decide)) T.b_View_zoom .nil pass0 rfl) (pv 1)) pa_nil)) (pe_glob (v := .int (400)) rfl T.c_MOST_ZOOM ⟨_, rfl⟩) (nomark _)) (pss_one ps_never) pss_nil) (pss_one (ps_ret (pe_call (ok_view_of T) (hr.mono (by decide)) rfl T.mg_view_of T.F_view_of.kp T.b_view_of .nil pass0 (pa_cons (pe_prop (pv 0) T.cl_View T.pr_View_factor (ok_View_factor T) (hr.mono (by decide)) T.b_View_factor .nil pass0 rfl) (pa_cons (pe_call (ok_pair_often T) (hr.mono (by decide)) rfl T.mg_pair_often T.F_pair_often.kp T.b_pair_often .nil pass0 (pa_cons (pe_prop (pv 0) T.cl_View T.pr_View_factor (ok_View_factor T) (hr.mono (by decide)) T.b_View_factor .nil pass0 rfl) (pa_cons (pe_call (ok_pair_of T) (hr.mono (by decide)) rfl T.mg_pair_of T.F_pair_of.kp T.b_pair_of .nil pass0 (pa_cons (pv 0) pa_nil)) (pa_cons (pv 1) pa_nil)))) pa_nil)))))))), ?_⟩
  refine body_P h fun ds Φ ⟨n, k, q, t, e, hn, hk, hkt, hf, hq, ht, p⟩ => ?_
  subst e
  have bk : Bk 10 k := by unfold Bk; omega
  repeat walk_at "dl"
  refine ⟨_, _, _, rfl, ?_⟩
  repeat walk_at "dl"
  refine ⟨_, rfl, ?_⟩
  repeat walk_at "dl"
  refine ⟨_, rfl, fun z => absurd (of_decide_eq_true z) (by generalize k * t = m at *; split <;> omega), fun _ => ?_⟩
  repeat walk_at "dl"
  refine ⟨_, _, _, rfl, ?_⟩
  repeat walk_at "dl"
  refine ⟨_, _, _, _, rfl, hn, hk, hkt, hq, ht, ?_⟩
  repeat walk_at "dl"
  exact ⟨_, _, _, rfl, hn, hkt, qoft_fit hn hf t, qoft_sz hn hk hkt hq ht, p⟩
theorem sz0 : Sz 1 (0 : Rat) := ⟨by unfold Bk; decide, by unfold Bk; decide⟩
theorem zz {n : Int} (hn : Fa n) (i j : Int) : (n : Rat) ^ (i + j) = (n : Rat) ^ i * (n : Rat) ^ j := Rat.zpow_add hn.q i j
theorem zz1 {n : Int} (hn : Fa n) (i : Int) : (n : Rat) ^ i * (n : Rat) ^ (-i) = 1 := by
  rw [← Rat.zpow_add hn.q, show i + -i = 0 by omega, Rat.zpow_zero]
theorem pow_q' (n : Int) (m : Nat) : ((n : Rat) ^ (m : Int)) = ((n ^ m : Int) : Rat) := by
  rw [Rat.zpow_natCast, Rat.intCast_pow]
theorem den_q (q : Rat) : (q.den : Rat) ≠ 0 := fun z => by
  have h : ((q.den : Int) : Rat) = ((0 : Int) : Rat) := by rw [Rat.intCast_natCast]; exact z
  have h2 := Rat.intCast_inj.mp h
  have := q.den_pos
  omega
theorem num_eq (q : Rat) : (q.den : Rat) * q = (q.num : Rat) := by
  have h := Rat.num_divInt_den q
  rw [Rat.divInt_eq_div] at h
  have h2 := den_q q
  rw [Rat.intCast_natCast] at h
  generalize (q.den : Rat) = a at *
  generalize (q.num : Rat) = b at *
  grind
theorem fit_iff {n : Int} (hn : Fa n) (r : Rat) : Fit n r ↔ ∃ (m : Nat) (z : Int), (n : Rat) ^ (m : Int) * r = (z : Rat) := by
  constructor
  · rintro ⟨m, c, hc⟩
    refine ⟨m, c * r.num, ?_⟩
    have e : ((n ^ m : Int) : Rat) = (r.den : Rat) * (c : Rat) := by rw [hc, Rat.intCast_mul]; rfl
    rw [pow_q', e, Rat.intCast_mul, ← num_eq r]
    grind
  · rintro ⟨m, z, h⟩
    have h0 : n ^ m ≠ 0 := Int.pow_ne_zero hn.ne
    have e : r = Rat.divInt z (n ^ m) := by
      rw [Rat.divInt_eq_div]
      rw [pow_q'] at h
      have h1 : ((n ^ m : Int) : Rat) ≠ 0 := fun z => h0 (Rat.intCast_inj.mp z)
      rw [← h]
      generalize ((n ^ m : Int) : Rat) = x at *
      grind
    rw [e]
    exact fit_of h0 (Int.dvd_refl _)
def Fj (n k : Int) (p q : Rat) (j : Int) : Prop := Fit n (((n : Rat) ^ j * p - q) / ((n : Rat) ^ k - 1))
theorem g_ne {n k : Int} (hn : Fa n) (hk : k ≠ 0) : (n : Rat) ^ k - 1 ≠ 0 := fun z => zpow_ne_one hn hk (by grind)
theorem Fj_add {n k : Int} {p q : Rat} (hn : Fa n) (hk : k ≠ 0) (hp : Fit n p) {j : Int} (h : Fj n k p q j) (t : Int) : Fj n k p q (j + k * t) := by
  have e : ((n : Rat) ^ (j + k * t) * p - q) / ((n : Rat) ^ k - 1) = ((n : Rat) ^ j * p - q) / ((n : Rat) ^ k - 1) + (n : Rat) ^ j * gro n k t * p := by
    unfold gro
    have h0 := g_ne hn hk
    rw [zz hn]
    generalize (n : Rat) ^ k = x at *
    generalize (n : Rat) ^ j = y at *
    generalize (n : Rat) ^ (k * t) = u at *
    grind
  unfold Fj
  rw [e]
  exact h.add (((Fit.zpow hn j).mul (gro_fit hn hk t)).mul hp)
theorem Fj_swap {n k : Int} {p q : Rat} (hn : Fa n) (hk : k ≠ 0) {j : Int} (h : Fj n k p q j) : Fj n k q p (-j) := by
  have e : ((n : Rat) ^ (-j) * q - p) / ((n : Rat) ^ k - 1) = -((n : Rat) ^ (-j) * (((n : Rat) ^ j * p - q) / ((n : Rat) ^ k - 1))) := by
    have h0 := g_ne hn hk
    have h1 := zz1 hn j
    generalize (n : Rat) ^ k = x at *
    generalize (n : Rat) ^ j = y at *
    generalize (n : Rat) ^ (-j) = u at *
    grind
  unfold Fj
  rw [e]
  exact ((Fit.zpow hn _).mul h).neg
theorem Fj_undone {n k : Int} {p q : Rat} (hn : Fa n) (hk : k ≠ 0) (j : Int) : Fj n (-k) (-((n : Rat) ^ (-k) * p)) (-((n : Rat) ^ (-k) * q)) j ↔ Fj n k p q j := by
  have e : ((n : Rat) ^ j * -((n : Rat) ^ (-k) * p) - -((n : Rat) ^ (-k) * q)) / ((n : Rat) ^ (-k) - 1) = ((n : Rat) ^ j * p - q) / ((n : Rat) ^ k - 1) := by
    have h0 := g_ne hn hk
    have h2 := g_ne hn (k := -k) (by omega)
    have h1 := zz1 hn k
    generalize (n : Rat) ^ k = x at *
    generalize (n : Rat) ^ j = y at *
    generalize (n : Rat) ^ (-k) = u at *
    grind
  unfold Fj
  rw [e]
def Cj (n k : Int) (p q : Rat) : Prop := if k = 0 then ∃ j : Int, (n : Rat) ^ j * p = q else ∃ j : Int, Fj n k p q j
theorem Cj_symm {n k : Int} {p q : Rat} (hn : Fa n) (h : Cj n k p q) : Cj n k q p := by
  unfold Cj at *
  split at h
  · obtain ⟨j, e⟩ := h
    rw [if_pos (by assumption)]
    refine ⟨-j, ?_⟩
    have h1 := zz1 hn j
    rw [← e, ← Rat.mul_assoc, Rat.mul_comm ((n : Rat) ^ (-j)), h1, Rat.one_mul]
  · rename_i hk
    obtain ⟨j, e⟩ := h
    rw [if_neg hk]
    exact ⟨-j, Fj_swap hn hk e⟩
theorem Cj_undone {n k : Int} {p q : Rat} (hn : Fa n) : Cj n (-k) (-((n : Rat) ^ (-k) * p)) (-((n : Rat) ^ (-k) * q)) ↔ Cj n k p q := by
  unfold Cj
  by_cases hk : k = 0
  · subst hk
    rw [if_pos (by rfl), if_pos rfl, Int.neg_zero, Rat.zpow_zero]
    constructor
    · rintro ⟨j, e⟩
      exact ⟨j, by grind⟩
    · rintro ⟨j, e⟩
      exact ⟨j, by grind⟩
  · rw [if_neg (by omega), if_neg hk]
    constructor
    · rintro ⟨j, e⟩
      exact ⟨j, (Fj_undone hn hk j).mp e⟩
    · rintro ⟨j, e⟩
      exact ⟨j, (Fj_undone hn hk j).mpr e⟩
theorem Cj_range {n k : Int} {p q : Rat} (hn : Fa n) (hk : k ≠ 0) (hp : Fit n p) : Cj n k p q ↔ ∃ i : Nat, i < k.natAbs ∧ Fj n k p q i := by
  unfold Cj
  rw [if_neg hk]
  constructor
  · rintro ⟨j, h⟩
    have h1 := Int.mul_ediv_add_emod j k
    have h2 := Int.emod_nonneg j hk
    have h3 := Int.emod_lt j hk
    have h4 := Fj_add hn hk hp h (-(j / k))
    rw [show j + k * -(j / k) = j % k by grind] at h4
    refine ⟨(j % k).toNat, by omega, ?_⟩
    rw [show (((j % k).toNat : Nat) : Int) = j % k by omega]
    exact h4
  · rintro ⟨i, _, h⟩
    exact ⟨_, h⟩
theorem Cj_rangeL {n k : Int} {p q : Rat} (hn : Fa n) (hk : k ≠ 0) (hq : Fit n q) : Cj n k p q ↔ ∃ i : Nat, i < k.natAbs ∧ Fit n ((p - (n : Rat) ^ (i : Int) * q) * ((n : Rat) ^ k - 1)⁻¹) := by
  have key : ∀ i : Nat, Fit n ((p - (n : Rat) ^ (i : Int) * q) * ((n : Rat) ^ k - 1)⁻¹) ↔ Fj n k q p i := fun i => by
    unfold Fj
    have e : ((n : Rat) ^ (i : Int) * q - p) / ((n : Rat) ^ k - 1) = -((p - (n : Rat) ^ (i : Int) * q) * ((n : Rat) ^ k - 1)⁻¹) := by
      rw [Rat.div_def]
      grind
    rw [e]
    exact ⟨fun h => h.neg, fun h => by have := h.neg; rwa [Rat.neg_neg] at this⟩
  constructor
  · intro h
    obtain ⟨i, hi, h2⟩ := (Cj_range hn hk hq).mp (Cj_symm hn h)
    exact ⟨i, hi, (key i).mpr h2⟩
  · rintro ⟨i, hi, h⟩
    exact Cj_symm hn ((Cj_range hn hk hq).mpr ⟨i, hi, (key i).mp h⟩)
theorem dvd_cut {n c N : Int} {A : Int} (hA : n * c - 1 = A) : ∀ m : Nat, A ∣ n ^ m * N → A ∣ N
  | 0, h => by rwa [Int.pow_zero, Int.one_mul] at h
  | m + 1, h => by
    refine dvd_cut hA m ?_
    have e : n ^ m * N = c * (n ^ (m + 1) * N) - A * (n ^ m * N) := by
      rw [← hA, Int.pow_succ]
      grind
    rw [e]
    exact Int.dvd_sub (Int.dvd_trans h (Int.dvd_mul_left _ _)) (Int.dvd_mul_right _ _)
theorem fit_div {n : Int} (hn : Fa n) {p q : Rat} (hp : Fit n p) (hq : Fit n q) {t : Nat} (ht : 0 < t) (N : Int) : (n ^ t - 1) ∣ N ↔ Fit n ((N : Rat) / (((p.den : Rat) * (q.den : Rat)) * ((n : Rat) ^ (t : Int) - 1))) := by
  have hA : n * n ^ (t - 1) - 1 = n ^ t - 1 := by
    rw [Int.mul_comm, ← Int.pow_succ, Nat.succ_eq_add_one, show t - 1 + 1 = t by omega]
  have h0 := g_ne hn (k := (t : Int)) (by omega)
  have hp0 := den_q p
  have hq0 := den_q q
  have eA : (n : Rat) ^ (t : Int) - 1 = ((n ^ t - 1 : Int) : Rat) := by rw [pow_q', Rat.intCast_sub]; rfl
  constructor
  · rintro ⟨M, hM⟩
    obtain ⟨i, hi⟩ := hp
    obtain ⟨j, hj⟩ := hq
    have e : (N : Rat) / (((p.den : Rat) * (q.den : Rat)) * ((n : Rat) ^ (t : Int) - 1)) = Rat.divInt M ((p.den : Int) * (q.den : Int)) := by
      rw [Rat.divInt_eq_div, hM, Rat.intCast_mul, Rat.intCast_mul, ← eA, Rat.intCast_natCast, Rat.intCast_natCast]
      generalize (n : Rat) ^ (t : Int) = x at *
      generalize (p.den : Rat) = a at *
      generalize (q.den : Rat) = b at *
      grind
    rw [e]
    exact fit_of (m := i + j) (Int.mul_ne_zero (by have := den_pos p; omega) (by have := den_pos q; omega)) (by rw [Int.pow_add]; exact Int.mul_dvd_mul hi hj)
  · intro h
    obtain ⟨m, z, e⟩ := (fit_iff hn _).mp h
    refine dvd_cut hA m ?_
    refine ⟨z * (p.den * q.den), ?_⟩
    have e2 : ((n ^ m * N : Int) : Rat) = (((n ^ t - 1) * (z * (p.den * q.den)) : Int) : Rat) := by
      rw [Rat.intCast_mul, Rat.intCast_mul, Rat.intCast_mul, Rat.intCast_mul, ← eA, ← pow_q', ← e, Rat.intCast_natCast, Rat.intCast_natCast]
      generalize (n : Rat) ^ (t : Int) = x at *
      generalize (p.den : Rat) = a at *
      generalize (q.den : Rat) = b at *
      generalize (n : Rat) ^ (m : Int) = c at *
      grind
    exact Rat.intCast_inj.mp e2
theorem test_iff {n k : Int} (hn : Fa n) (hk : k ≠ 0) {p q : Rat} (hp : Fit n p) (hq : Fit n q) (i : Nat) :
    (q.num * p.den - n ^ i * (p.num * q.den)) % (n ^ k.natAbs - 1) = 0 ↔ Fj n k p q i := by
  have hp0 := den_q p
  have hq0 := den_q q
  rw [show (q.num * p.den - n ^ i * (p.num * q.den)) % (n ^ k.natAbs - 1) = 0 ↔ (n ^ k.natAbs - 1) ∣ (q.num * p.den - n ^ i * (p.num * q.den)) from (Int.dvd_iff_emod_eq_zero).symm, fit_div hn hp hq (t := k.natAbs) (by omega)]
  have eN : ((q.num * p.den - n ^ i * (p.num * q.den) : Int) : Rat) = -((p.den : Rat) * (q.den : Rat) * ((n : Rat) ^ (i : Int) * p - q)) := by
    rw [Rat.intCast_sub, Rat.intCast_mul, Rat.intCast_mul, Rat.intCast_mul, ← pow_q', ← num_eq p, ← num_eq q, Rat.intCast_natCast, Rat.intCast_natCast]
    grind
  rw [eN]
  unfold Fj
  rcases Int.natAbs_eq k with h | h
  · rw [← h]
    have h0 := g_ne hn hk
    have e : -((p.den : Rat) * (q.den : Rat) * ((n : Rat) ^ (i : Int) * p - q)) / ((p.den : Rat) * (q.den : Rat) * ((n : Rat) ^ k - 1)) = -(((n : Rat) ^ (i : Int) * p - q) / ((n : Rat) ^ k - 1)) := by
      generalize (n : Rat) ^ k = x at *
      generalize (p.den : Rat) = a at *
      generalize (q.den : Rat) = b at *
      generalize (n : Rat) ^ (i : Int) * p - q = c at *
      grind
    rw [e]
    exact ⟨fun h => by have := h.neg; rwa [Rat.neg_neg] at this, fun h => h.neg⟩
  · have hm : ((k.natAbs : Nat) : Int) = -k := by omega
    rw [hm]
    have h0 := g_ne hn hk
    have h2 := g_ne hn (k := -k) (by omega)
    have h1 := zz1 hn k
    have e : -((p.den : Rat) * (q.den : Rat) * ((n : Rat) ^ (i : Int) * p - q)) / ((p.den : Rat) * (q.den : Rat) * ((n : Rat) ^ (-k) - 1)) = (n : Rat) ^ k * (((n : Rat) ^ (i : Int) * p - q) / ((n : Rat) ^ k - 1)) := by
      generalize (n : Rat) ^ k = x at *
      generalize (n : Rat) ^ (-k) = y at *
      generalize (p.den : Rat) = a at *
      generalize (q.den : Rat) = b at *
      generalize (n : Rat) ^ (i : Int) * p - q = c at *
      grind
    rw [e]
    constructor
    · intro h
      have := (Fit.zpow hn (-k)).mul h
      rwa [← Rat.mul_assoc, Rat.mul_comm ((n : Rat) ^ (-k)), h1, Rat.one_mul] at this
    · intro h
      exact (Fit.zpow hn k).mul h
/-! bounds of exponents -/
def Nr (n : Int) (p q : Rat) : Prop := p ≠ 0 → ∀ j : Int, (n : Rat) ^ j * p = q → j.natAbs ≤ 24
def Ws (n : Int) (s t : Nat) (p : Rat) : Prop := ∃ a : Int, (n : Rat) ^ (s : Int) * p = (a : Rat) ∧ a.natAbs < n.natAbs ^ t
theorem ws_lt {n : Int} (hn : Fa n) {t m : Nat} {a b : Int} (ha : a ≠ 0) (hb : b.natAbs < n.natAbs ^ t) (e : n ^ m * a = b) : m < t := by
  have h1 : n.natAbs ^ m * a.natAbs = b.natAbs := by rw [← e, Int.natAbs_mul, Int.natAbs_pow]
  have h2 : n.natAbs ^ m ≤ b.natAbs := by
    rw [← h1]
    exact Nat.le_mul_of_pos_right _ (by omega)
  exact (Nat.pow_lt_pow_iff_right (a := n.natAbs) (by have := hn.lo; omega)).mp (Nat.lt_of_le_of_lt h2 hb)
theorem ws_nr {n : Int} (hn : Fa n) {s t : Nat} {p q : Rat} (hp : Ws n s t p) (hq : Ws n s t q) (ht : t ≤ 24) : Nr n p q := by
  intro p0 j e
  obtain ⟨a, ea, la⟩ := hp
  obtain ⟨b, eb, lb⟩ := hq
  have hx : (n : Rat) ^ (s : Int) ≠ 0 := fun z => by have := zz1 hn (s : Int); rw [z, Rat.zero_mul] at this; grind
  have a0 : a ≠ 0 := fun z => by
    rw [z] at ea
    have : (n : Rat) ^ (s : Int) * p = 0 := ea
    grind
  rcases Int.natAbs_eq j with h | h
  · generalize j.natAbs = m at *
    subst h
    have : n ^ m * a = b := by
      refine Rat.intCast_inj.mp ?_
      rw [Rat.intCast_mul, ← pow_q', ← ea, ← eb, ← e]
      grind
    have := ws_lt hn a0 lb this
    omega
  · generalize j.natAbs = m at *
    subst h
    have h1 := zz1 hn (m : Int)
    have e2 : n ^ m * b = a := by
      refine Rat.intCast_inj.mp ?_
      rw [Rat.intCast_mul, ← pow_q', ← ea, ← eb, ← e]
      generalize (n : Rat) ^ (-(m : Int)) = y at *
      generalize (n : Rat) ^ (m : Int) = x at *
      generalize (n : Rat) ^ (s : Int) = u at *
      grind
    have b0 : b ≠ 0 := fun z => by rw [z, Int.mul_zero] at e2; exact a0 e2.symm
    have := ws_lt hn b0 la e2
    omega
theorem Ws.mono {n : Int} (hn : Fa n) {s t u : Nat} {p : Rat} (h : Ws n s t p) (l : t ≤ u) : Ws n s u p := by
  obtain ⟨a, e, b⟩ := h
  exact ⟨a, e, Nat.lt_of_lt_of_le b (Nat.pow_le_pow_right (by have := hn.lo; omega) l)⟩
theorem Ws.up {n : Int} (hn : Fa n) {s t : Nat} {p : Rat} (h : Ws n s t p) : Ws n (s + 1) (t + 1) p := by
  obtain ⟨a, e, b⟩ := h
  refine ⟨n * a, ?_, ?_⟩
  · rw [Rat.intCast_mul, ← e, show ((s + 1 : Nat) : Int) = 1 + (s : Int) by omega, zz hn, show (n : Rat) ^ (1 : Int) = (n : Rat) from Rat.zpow_one _]
    grind
  · rw [Int.natAbs_mul, Nat.pow_succ, Nat.mul_comm]
    exact Nat.mul_lt_mul_of_pos_right b (by have := hn.lo; omega)
theorem nr_symm {n : Int} (hn : Fa n) {p q : Rat} (h : Nr n p q) : Nr n q p := by
  intro q0 j e
  have h1 := zz1 hn j
  have e2 : (n : Rat) ^ (-j) * p = q := by
    rw [← e]
    generalize (n : Rat) ^ j = x at *
    generalize (n : Rat) ^ (-j) = y at *
    grind
  have p0 : p ≠ 0 := fun z => q0 (by rw [← e2, z, Rat.mul_zero])
  have := h p0 (-j) e2
  omega
theorem nr_neg {n : Int} {p q : Rat} (h : Nr n p q) : Nr n (-p) (-q) := by
  intro p0 j e
  exact h (fun z => p0 (by rw [z]; rfl)) j (by grind)
theorem pow_inj {n : Int} (hn : Fa n) {i j : Int} {p : Rat} (p0 : p ≠ 0) (e : (n : Rat) ^ i * p = (n : Rat) ^ j * p) : i = j := by
  have e1 : (n : Rat) ^ i = (n : Rat) ^ j := by grind
  have h1 := zz1 hn j
  rw [← e1, ← zz hn] at h1
  exact Classical.byContradiction fun z => zpow_ne_one hn (k := i + -j) (by omega) h1
theorem nr_pow {n : Int} (hn : Fa n) {p : Rat} {c : Int} (h : c.natAbs ≤ 24) : Nr n p ((n : Rat) ^ c * p) := fun p0 j e => by
  rw [pow_inj hn p0 e]
  exact h
theorem ws_draw {n : Int} (hn : Fa n) {j : Nat} (hj : j ≤ 3) {a : Int} (h : a.natAbs ≤ 100 * (n ^ j).natAbs) : Ws n 3 10 (Rat.divInt a (n ^ j)) := by
  refine ⟨a * n ^ (3 - j), ?_, ?_⟩
  · rw [Rat.divInt_eq_div, Rat.intCast_mul, ← pow_q', ← pow_q', show ((3 : Nat) : Int) = (j : Int) + ((3 - j : Nat) : Int) by omega, zz hn]
    have h1 := zz1 hn (j : Int)
    have h0 : (n : Rat) ^ (j : Int) ≠ 0 := fun z => by rw [z, Rat.zero_mul] at h1; grind
    generalize (n : Rat) ^ (j : Int) = x at *
    generalize (n : Rat) ^ ((3 - j : Nat) : Int) = y at *
    grind
  · rw [Int.natAbs_mul, Int.natAbs_pow]
    rw [Int.natAbs_pow] at h
    have h2 : 2 ^ 7 ≤ n.natAbs ^ 7 := Nat.pow_le_pow_left (by have := hn.lo; omega) 7
    have h3 : n.natAbs ^ 10 = n.natAbs ^ 7 * (n.natAbs ^ j * n.natAbs ^ (3 - j)) := by
      rw [← Nat.pow_add, ← Nat.pow_add, show 7 + (j + (3 - j)) = 10 by omega]
    have h4 : 0 < n.natAbs ^ j * n.natAbs ^ (3 - j) := Nat.mul_pos (Nat.pow_pos (by have := hn.lo; omega)) (Nat.pow_pos (by have := hn.lo; omega))
    rw [h3]
    have h5 : a.natAbs * n.natAbs ^ (3 - j) ≤ 100 * (n.natAbs ^ j * n.natAbs ^ (3 - j)) := by
      rw [← Nat.mul_assoc]
      exact Nat.mul_le_mul_right _ h
    have h6 := Nat.mul_le_mul_right (n.natAbs ^ j * n.natAbs ^ (3 - j)) h2
    omega
theorem ok_l_tub (T : Tx w K mg) : FnOk P w K mg base CX0 1 T.f_l_tub T.d_l_tub ["_law_cells", "_law_at"] (spM K) := by
  refine T.F_l_tub.ok sc_l_tub (fun vs H Q E h => by obtain ⟨b, ns, i, e, _⟩ := h; rw [e]; rfl) (fun cdv A outer s H vs Q E hr h => ?_)
  refine ⟨_, (pss_cons (ps_set (i := 2) sc_l_tub.nd rfl (by first | exact Or.inl rfl | exact Or.inr rfl) (pe_ifExp (pt_cmpR op_lt (pv 1) (pe_callB (r := rLenQ K) call_len_seq rfl T.n_len PySem.boot_len (pa_cons (pv 0) pa_nil)) (nomark _)) (pe_ix (r := rIxL K) ix_list (pv 0) (pv 1) (fun _ _ => rfl)) pe_int)) (pss_cons (ps_set (i := 3) sc_l_tub.nd rfl (by first | exact Or.inl rfl | exact Or.inr rfl) (pe_op op_add pe_int (pe_op op_mul pe_int (pv 1)))) (pss_cons (ps_for PassesOwn.never rfl (pi_range1 rfl T.n_range (pa_cons (pe_callB (call_min2 rfl) rfl T.n_min boot_min (pa_cons (pe_callB (r := rLenQ K) call_len_seq rfl T.n_len PySem.boot_len (pa_cons (pv 0) pa_nil)) (pa_cons pe_int pa_nil))) pa_nil)) (pg_name (i := 4) sc_l_tub.nd rfl (by first | exact Or.inl rfl | exact Or.inr rfl)) (pss_one (ps_set (i := 3) sc_l_tub.nd rfl (by first | exact Or.inl rfl | exact Or.inr rfl) (pe_op op_mod (pe_callTy call_int1 rfl T.n_int boot_int (pa_cons (pe_op op_add (pe_op op_add (pe_op op_mul (pv 3) (pe_op op_add pe_int (pe_op op_mul pe_int (pv 4)))) (pe_op op_mul pe_int (pe_ix (r := rIxL K) ix_list (pv 0) (pv 4) (fun _ _ => rfl)))) pe_int) pa_nil)) pe_int)))) (pss_one (ps_ret (pe_lst (pa_cons (pe_ifExp (PW.pt (pw_or (pt_cmpR op_lt (pv 2) pe_int (nomark _)) (pw_or1 (pt_cmpR op_ge (pv 2) (pe_op op_pow pe_int pe_int) (nomark _))))) (pe_callB call_abs rfl T.n_abs boot_abs (pa_cons (pv 2) pa_nil)) pe_int) (pa_cons (pe_op op_mod (pe_callTy call_int1 rfl T.n_int boot_int (pa_cons (pe_op op_add (pe_op op_mul (pv 3) pe_int) (pe_op op_mul (pv 2) pe_int)) pa_nil)) pe_int) (pa_cons pe_int pa_nil))))))))), ?_⟩
  refine body_M h fun ns i hl hi => ?_
  refine sm_cut (fun Γ' m => ∃ o : Int, Γ' = [some (.scr ns), some (.int i), some (.int o), none, none] ∧ m = ⟨0, []⟩) ?_ ?_
  · repeat walk_at "dl"
    refine cm_lenQS rfl ?_
    repeat walk_at "dl"
    refine ⟨_, rfl, fun z => ?_, fun z => ?_⟩
    · have z' : i < ns.length := by have := of_decide_eq_true z; simp at this; omega
      repeat walk_at "dl"
      refine rm_ixS (y := .int (ns[i])) rfl ?_ ?_
      · exact (atI_nat (by simp [z']))
      exact ⟨_, rfl, rfl⟩
    · repeat walk_at "dl"
      exact ⟨_, rfl, rfl⟩
  rintro Γ' m ⟨o, e1, e2⟩
  subst e1 e2
  refine sm_cut (fun Γ' m => ∃ (x : Int), Γ' = [some (.scr ns), some (.int i), some (.int o), some (.int x), none] ∧ m = ⟨0, []⟩) ?_ ?_
  · repeat walk_at "dl"
    exact ⟨_, rfl, rfl⟩
  rintro Γ' m ⟨x0, e1, e2⟩
  subst e1 e2
  refine sm_cut (fun Γ' m => ∃ (x : Int) (c : Option D), Γ' = [some (.scr ns), some (.int i), some (.int o), some (.int x), c] ∧ m = ⟨0, []⟩) ?_ ?_
  · refine sm_forR (c := min ns.length 8) ?_
    repeat walk_at "dl"
    refine cm_lenQS rfl ?_
    repeat walk_at "dl"
    refine ⟨?_, by omega, fun k Γ' m => ∃ (x : Int) (c : Option D), Γ' = [some (.scr ns), some (.int i), some (.int o), some (.int x), c] ∧ m = ⟨0, []⟩, ⟨_, none, rfl, rfl⟩, ?_, fun _ _ z => z⟩
    · congr 2
      simp only [List.length_map]
      split <;> omega
    rintro k Γ' l hk ⟨x, c, e1, e2⟩
    subst e1 e2
    have hk' : k < ns.length := by omega
    repeat walk_at "dl"
    refine rm_C (C := CMul) (Or.inr ⟨by omega, by omega⟩) ?_
    repeat walk_at "dl"
    refine rm_ixS (y := .int (ns[k])) rfl ?_ ?_
    · rw [Int.zero_add]
      exact (atI_nat (by simp [hk']))
    repeat walk_at "dl"
    exact ⟨_, _, rfl, rfl⟩
  rintro Γ' l ⟨x, c, e1, e2⟩
  subst e1 e2
  repeat walk_at "dl"
  refine ⟨_, rfl, fun z => ?_, fun z => ?_⟩
  · repeat walk_at "dl"
    exact ⟨_, _, 1, rfl, by decide, by decide⟩
  · repeat walk_at "dl"
    refine ⟨_, rfl, fun z => ?_, fun z => ?_⟩
    · repeat walk_at "dl"
      exact ⟨_, _, 1, rfl, by decide, by decide⟩
    · repeat walk_at "dl"
      exact ⟨_, _, 1, rfl, by decide, by decide⟩
def P_ladle : List D → Nat → (D → Nat → Prop) → Prop := fun ds n Φ => ∃ m : Int, ds = [.int m] ∧ 0 < m ∧ m < 1073741824 ∧ n + 1 ≤ 1000000 ∧ ∀ r : Int, 0 ≤ r → r < m → Φ (.int r) (n + 1)
theorem ok_l_ladle (T : Tx w K mg) : FnOk P w K mg base CX0 1 T.f_l_ladle T.d_l_ladle ["_law_tub_here", "_law_upto"] (spV K P_ladle) := by
  refine T.F_l_ladle.ok sc_l_ladle (fun vs H Q E h => len_V h fun ds n Φ ⟨_, e, _⟩ => by subst e; rfl) (fun cdv A outer s H vs Q E hr h => ?_)
  refine ⟨_, (pss_cons (ps_if (pt_cmpR op_gt (pe_ix (r := rIxL K) ix_list (pv 0) pe_int (fun _ _ => rfl)) pe_int (nomark _)) (pss_cons (ps_asg (pe_callB call_divmod rfl T.n_divmod boot_divmod (pa_cons (pe_ix (r := rIxL K) ix_list (pv 0) pe_int (fun _ _ => rfl)) (pa_cons (pv 1) pa_nil))) (pg_tup rfl (pgs_cons (pg_sub (pv 0) pe_int set_list) (pgs_cons (pg_name (i := 3) sc_l_ladle.nd rfl (by first | exact Or.inl rfl | exact Or.inr rfl)) pgs_nil)))) (pss_one (ps_ret (pv 3)))) pss_nil) (pss_cons (ps_asg (pe_op op_add (pe_ix (r := rIxL K) ix_list (pv 0) pe_int (fun _ _ => rfl)) pe_int) (pg_sub (pv 0) pe_int set_list)) (pss_cons (ps_set (i := 2) sc_l_ladle.nd rfl (by first | exact Or.inl rfl | exact Or.inr rfl) (pe_op op_mul (pe_ix (r := rIxL K) ix_list (pv 0) pe_int (fun _ _ => rfl)) (pe_op op_add (pe_op op_mod (pe_callTy call_int1 rfl T.n_int boot_int (pa_cons (pe_op op_fdiv (pe_ix (r := rIxL K) ix_list (pv 0) pe_int (fun _ _ => rfl)) pe_int) pa_nil)) pe_int) pe_int))) (pss_cons (ps_asg (pe_op op_mod (pe_callTy call_int1 rfl T.n_int boot_int (pa_cons (pe_op op_add (pe_op op_add (pv 2) (pe_op op_mul pe_int (pe_ix (r := rIxL K) ix_list (pv 0) pe_int (fun _ _ => rfl)))) pe_int) pa_nil)) pe_int) (pg_sub (pv 0) pe_int set_list)) (pss_one (ps_ret (pe_op op_mod (pe_callTy call_int1 rfl T.n_int boot_int (pa_cons (pe_op op_fdiv (pe_ix (r := rIxL K) ix_list (pv 0) pe_int (fun _ _ => rfl)) pe_int) pa_nil)) (pv 1)))))))), ?_⟩
  refine body_V h fun b ds n Φ hn ⟨m, e, h0, h1, h2, p⟩ => ?_
  subst e
  repeat walk_at "dl"
  refine rm_v 0 (by decide) fun x _ => ?_
  repeat walk_at "dl"
  refine ⟨_, rfl, fun z => ?_, fun z => ?_⟩
  · repeat walk_at "dl"
    refine rm_v 0 (by decide) fun x _ => ?_
    repeat walk_at "dl"
    refine cm_divmod h0 h1 ?_
    repeat walk_at "dl"
    refine gm_v01 0 1 (by decide) ?_
    repeat walk_at "dl"
    refine ⟨rfl, rfl, h2, ?_⟩
    repeat walk_at "dl"
    exact p _ (Int.emod_nonneg _ (by omega)) (Int.emod_lt_of_pos _ h0)
  · repeat walk_at "dl"
    refine rm_v 2 (by decide) fun y hy => ?_
    obtain ⟨y0, y1, y2⟩ := hy rfl
    repeat walk_at "dl"
    refine gm_v2 (m' := n + 1) (by omega) (by simp only at y1 y2; omega) h2 ?_
    repeat walk_at "dl"
    refine ⟨rfl, rfl, ?_⟩
    repeat walk_at "dl"
    refine rm_v 1 (by decide) fun x _ => ?_
    repeat walk_at "dl"
    refine rm_v 1 (by decide) fun x2 _ => ?_
    repeat walk_at "dl"
    refine rm_C (C := CDiv) ⟨by decide, by decide⟩ ?_
    repeat walk_at "dl"
    refine rm_C (C := CMul) (Or.inr ⟨by omega, by omega⟩) ?_
    repeat walk_at "dl"
    refine rm_v 2 (by decide) fun z hz => ?_
    obtain ⟨z0, z1, _⟩ := hz rfl
    simp only at z1
    repeat walk_at "dl"
    refine gm_v01 1 0 (by decide) ?_
    repeat walk_at "dl"
    refine ⟨rfl, rfl, h2, ?_⟩
    repeat walk_at "dl"
    refine rm_v 1 (by decide) fun x _ => ?_
    repeat walk_at "dl"
    refine rm_C (C := CDiv) ⟨by decide, by decide⟩ ?_
    repeat walk_at "dl"
    refine rm_C h0 ?_
    exact p _ (Int.emod_nonneg _ (by omega)) (Int.emod_lt_of_pos _ h0)
def P_any : List D → Nat → (D → Nat → Prop) → Prop := fun ds n Φ => ∃ x es, ds = [x] ∧ Menu x es ∧ es ≠ [] ∧ es.length ≤ 1000 ∧ n + 1 ≤ 1000000 ∧ ∀ d ∈ es, Φ d (n + 1)
theorem ok_l_any_of (T : Tx w K mg) : FnOk P w K mg base CX0 2 T.f_l_any_of T.d_l_any_of ["_law_tub_here", "_law_things"] (spV K P_any) := by
  refine T.F_l_any_of.ok sc_l_any_of (fun vs H Q E h => len_V h fun ds n Φ ⟨_, _, e, _⟩ => by subst e; rfl) (fun cdv A outer s H vs Q E hr h => ?_)
  refine ⟨_, (pss_one (ps_ret (pe_ix (r := rIx K) ix_seq (pv 1) (pe_call (ok_l_ladle T) (hr.mono (by decide)) rfl T.mg_l_ladle T.F_l_ladle.kp T.b_l_ladle .nil pass0 (pa_cons (pv 0) (pa_cons (pe_callB (r := rLenX K) call_len rfl T.n_len PySem.boot_len (pa_cons (pv 1) pa_nil)) pa_nil))) (fun _ _ => rfl)))), ?_⟩
  refine body_V h fun b ds n Φ hn ⟨x, es, e, hm, h0, h1, h2, p⟩ => ?_
  subst e
  have hl : 0 < es.length := List.length_pos_iff.mpr h0
  repeat walk_at "dl"
  refine cm_lenX hm.len ?_
  repeat walk_at "dl"
  refine ⟨_, rfl, es.length, rfl, by omega, by omega, h2, fun r r0 r1 => ?_⟩
  obtain ⟨j, rfl⟩ := Int.eq_ofNat_of_zero_le r0
  have hj : j < es.length := by omega
  exact rm_ixD (hm.ix (List.getElem?_eq_getElem hj)) (p _ (List.getElem_mem hj))
def mu3 (Γ : EnvD) (_ : Mm) : Nat := match Γ[3]? with | some (some (D.int l)) => l.toNat | _ => 0
def P_frac : List D → (D → Prop) → Prop := fun ds Φ => ∃ a b : Int, ds = [.int a, .int b] ∧ 0 < b ∧ Bk 1000 a ∧ Bk 1000 b ∧ Φ (qD (Rat.divInt a b))
theorem shr_posB {a b : Int} (h : 0 < b) : shr a b = gcdI a b := if_pos h
theorem ok_l_frac (T : Tx w K mg) : FnOk P w K mg base CX0 1 T.f_l_frac T.d_l_frac ["_law_top", "_law_bottom"] (spP K P_frac) := by
  refine T.F_l_frac.ok sc_l_frac (fun vs H Q E h => len_P h fun ds Φ ⟨_, _, e, _⟩ => by subst e; rfl) (fun cdv A outer s H vs Q E hr h => ?_)
  refine ⟨_, (pss_cons (ps_par (i := 2) (j := 3) rfl sc_l_frac.nd rfl rfl (by decide) rfl rfl (pa_cons (pe_callB call_abs rfl T.n_abs boot_abs (pa_cons (pv 0) pa_nil)) (pa_cons (pv 1) pa_nil)) rfl) (pss_cons (ps_while PassesOwn.never (pt_cmpR op_gt (pv 3) pe_int (nomark _)) (pss_one (ps_par (i := 2) (j := 3) rfl sc_l_frac.nd rfl rfl (by decide) rfl rfl (pa_cons (pv 3) (pa_cons (pe_op op_mod (pe_callTy call_int1 rfl T.n_int boot_int (pa_cons (pv 2) pa_nil)) (pv 3)) pa_nil)) rfl))) (pss_one (ps_ret (pe_tup (pa_cons (pe_op op_fdivW (pv 0) (pv 2)) (pa_cons (pe_op op_fdivW (pv 1) (pv 2)) pa_nil))))))), ?_⟩
  refine body_P h fun ds Φ ⟨a', b', e, h0, ha, hb, p⟩ => ?_
  subst e
  repeat walk_at "dl"
  have e0 : (if a' < 0 then -a' else a') = ((a'.natAbs : Nat) : Int) := by split <;> omega
  rw [e0]
  refine sm_while (fun Γ' m => ∃ u v : Nat, Nat.gcd u v = Nat.gcd a'.natAbs b'.natAbs ∧ Γ' = [some (.int a'), some (.int b'), some (.int u), some (.int v)] ∧ m = ⟨0, []⟩) mu3 ⟨a'.natAbs, b'.natAbs, rfl, by rw [show ((b'.natAbs : Nat) : Int) = b' by omega]; rfl, rfl⟩ ?_
  rintro Γ' m ⟨u, v, hg, e1, e2⟩
  subst e1 e2
  repeat walk_at "dl"
  refine ⟨_, rfl, fun z => ?_, fun z => ?_⟩
  · have hv : (0 : Int) < v := of_decide_eq_true z
    repeat walk_at "dl"
    refine rm_C hv ?_
    repeat walk_at "dl"
    refine ⟨⟨v, u % v, by rw [← hg, Nat.gcd_comm u v, Nat.gcd_comm v (u % v), ← Nat.gcd_rec], rfl, rfl⟩, ?_⟩
    show ((u : Int) % (v : Int)).toNat < (v : Int).toNat
    have := Int.emod_lt_of_pos (u : Int) hv
    omega
  · have hv : v = 0 := by have := of_decide_eq_false z; omega
    subst hv
    rw [Nat.gcd_zero_right] at hg
    have hg2 : (u : Int) = gcdI a' b' := by unfold gcdI; omega
    rw [hg2]
    have h1 := gcdI_pos (a := a') (b := b') (by omega)
    have hb2 : Bk 1000 (gcdI a' b') := by
      have h2 : gcdI a' b' ≤ b'.natAbs := Int.le_of_dvd (by omega) (Int.dvd_natAbs.mpr (gcdI_dvd_r a' b'))
      unfold Bk at *
      omega
    repeat walk_at "dl"
    refine rm_C (divWp h1 hb2 (by decide)) ?_
    repeat walk_at "dl"
    refine rm_C (divWp h1 hb2 (by decide)) ?_
    have en := ratio_num (a := a') (b := b') (by omega)
    have ed := ratio_den (a := a') (b := b') (by omega)
    rw [shr_posB h0] at en ed
    first
      | rw [en, ed]
      | rw [← Int.fdiv_eq_ediv_of_nonneg _ (by omega), ← Int.fdiv_eq_ediv_of_nonneg _ (by omega), en, ed]
    repeat walk_at "dl"
    exact p
def P_plusL : List D → (D → Prop) → Prop := fun ds Φ => ∃ p q : Rat, ds = [qD p, qD q] ∧ Sz 450 p ∧ Sz 450 q ∧ Φ (qD (p + q))
theorem ok_l_plus (T : Tx w K mg) : FnOk P w K mg base CX0 2 T.f_l_plus T.d_l_plus ["_law_near", "_law_far"] (spP K P_plusL) := by
  refine T.F_l_plus.ok sc_l_plus (fun vs H Q E h => len_P h fun ds Φ ⟨_, _, e, _⟩ => by subst e; rfl) (fun cdv A outer s H vs Q E hr h => ?_)
  refine ⟨_, (pss_one (ps_ret (pe_call (ok_l_frac T) (hr.mono (by decide)) rfl T.mg_l_frac T.F_l_frac.kp T.b_l_frac .nil pass0 (pa_cons (pe_op op_add (pe_op op_mulW (pe_ix (r := rIxT K) ix_tup (pv 0) pe_int (fun _ _ => rfl)) (pe_ix (r := rIxT K) ix_tup (pv 1) pe_int (fun _ _ => rfl))) (pe_op op_mulW (pe_ix (r := rIxT K) ix_tup (pv 1) pe_int (fun _ _ => rfl)) (pe_ix (r := rIxT K) ix_tup (pv 0) pe_int (fun _ _ => rfl)))) (pa_cons (pe_op op_mulW (pe_ix (r := rIxT K) ix_tup (pv 0) pe_int (fun _ _ => rfl)) (pe_ix (r := rIxT K) ix_tup (pv 1) pe_int (fun _ _ => rfl))) pa_nil))))), ?_⟩
  refine body_P h fun ds Φ ⟨u, v, e, hu, hv, p⟩ => ?_
  subst e
  obtain ⟨un, ud⟩ := hu
  obtain ⟨vn, vd⟩ := hv
  repeat walk_at "dl"
  refine ⟨_, _, rfl, Int.mul_pos (den_pos _) (den_pos _), ((un.mul vd).add1 ((vn.mul ud).up (by decide))).up (by decide), (ud.mul vd).up (by decide), ?_⟩
  rw [add_q]
  exact p
def P_byL : List D → (D → Prop) → Prop := fun ds Φ => ∃ p q : Rat, ds = [qD p, qD q] ∧ Sz 450 p ∧ Sz 450 q ∧ Φ (qD (p * q))
theorem ok_l_by (T : Tx w K mg) : FnOk P w K mg base CX0 2 T.f_l_by T.d_l_by ["_law_near", "_law_far"] (spP K P_byL) := by
  refine T.F_l_by.ok sc_l_by (fun vs H Q E h => len_P h fun ds Φ ⟨_, _, e, _⟩ => by subst e; rfl) (fun cdv A outer s H vs Q E hr h => ?_)
  refine ⟨_, (pss_one (ps_ret (pe_call (ok_l_frac T) (hr.mono (by decide)) rfl T.mg_l_frac T.F_l_frac.kp T.b_l_frac .nil pass0 (pa_cons (pe_op op_mulW (pe_ix (r := rIxT K) ix_tup (pv 0) pe_int (fun _ _ => rfl)) (pe_ix (r := rIxT K) ix_tup (pv 1) pe_int (fun _ _ => rfl))) (pa_cons (pe_op op_mulW (pe_ix (r := rIxT K) ix_tup (pv 0) pe_int (fun _ _ => rfl)) (pe_ix (r := rIxT K) ix_tup (pv 1) pe_int (fun _ _ => rfl))) pa_nil))))), ?_⟩
  refine body_P h fun ds Φ ⟨u, v, e, hu, hv, p⟩ => ?_
  subst e
  obtain ⟨un, ud⟩ := hu
  obtain ⟨vn, vd⟩ := hv
  repeat walk_at "dl"
  refine ⟨_, _, rfl, Int.mul_pos (den_pos _) (den_pos _), (un.mul vn).up (by decide), (ud.mul vd).up (by decide), ?_⟩
  rw [mul_q]
  exact p
def P_lpower : List D → (D → Prop) → Prop := fun ds Φ => ∃ n e : Int, ds = [.int n, .int e] ∧ Fa n ∧ e.natAbs ≤ 500 ∧ Φ (qD ((n : Rat) ^ e))
theorem inv_qD {n : Int} (hn : Fa n) (m : Nat) : D.tup [.int 1, .int (n ^ m)] = qD ((n : Rat) ^ (-(m : Int))) := by
  have hp : 0 < n ^ m := Int.pow_pos (by have := hn.lo; omega)
  have en := ratio_num (a := 1) (b := n ^ m) (by omega)
  have ed := ratio_den (a := 1) (b := n ^ m) (by omega)
  have eg : shr 1 (n ^ m) = 1 := by
    rw [shr_posB hp]
    unfold gcdI
    rw [show (1 : Int).natAbs = 1 from rfl, Nat.gcd_one_left]
    rfl
  rw [eg, Int.fdiv_one] at en ed
  rw [← pow_neg_q]
  show _ = D.tup [.int _, .int _]
  rw [← en, ← ed]
theorem ok_l_power (T : Tx w K mg) : FnOk P w K mg base CX0 1 T.f_l_power T.d_l_power ["_law_n", "_law_k"] (spP K P_lpower) := by
  refine T.F_l_power.ok sc_l_power (fun vs H Q E h => len_P h fun ds Φ ⟨_, _, e, _⟩ => by subst e; rfl) (fun cdv A outer s H vs Q E hr h => ?_)
  refine ⟨_, (pss_cons (ps_set (i := 2) sc_l_power.nd rfl (by first | exact Or.inl rfl | exact Or.inr rfl) pe_int) (pss_cons (ps_for PassesOwn.never rfl (pi_range1 rfl T.n_range (pa_cons (pe_callB call_abs rfl T.n_abs boot_abs (pa_cons (pv 1) pa_nil)) pa_nil)) (pg_name (i := 3) sc_l_power.nd rfl (by first | exact Or.inl rfl | exact Or.inr rfl)) (pss_one (ps_set (i := 2) sc_l_power.nd rfl (by first | exact Or.inl rfl | exact Or.inr rfl) (pe_op op_mulW (pv 2) (pv 0))))) (pss_one (ps_ret (pe_ifExp (pt_cmpR op_ge (pv 1) pe_int (nomark _)) (pe_tup (pa_cons (pv 2) (pa_cons pe_int pa_nil))) (pe_tup (pa_cons pe_int (pa_cons (pv 2) pa_nil)))))))), ?_⟩
  refine body_P h fun ds Φ ⟨n, e', e, hn, he, p⟩ => ?_
  subst e
  repeat walk_at "dl"
  have e0 : (if e' < 0 then -e' else e') = ((e'.natAbs : Nat) : Int) := by split <;> omega
  refine sm_forR (c := e'.natAbs) ?_
  repeat walk_at "dl"
  refine ⟨by rw [e0], by omega, fun i Γ' m => ∃ c, Γ' = [some (.int n), some (.int e'), some (.int (n ^ i)), c] ∧ m = ⟨0, []⟩, ⟨none, by rw [Int.pow_zero]; rfl, rfl⟩, ?_, ?_⟩
  · rintro i Γ' m hi ⟨c, e1, e2⟩
    subst e1 e2
    have bt := (Bk.pow hn.small i).up (show i + 1 ≤ 501 by omega)
    have bn : Bk 1 n := hn.small
    repeat walk_at "dl"
    exact ⟨_, by rw [Int.pow_succ]; rfl, rfl⟩
  rintro Γ' m ⟨c, e1, e2⟩
  subst e1 e2
  repeat walk_at "dl"
  refine ⟨_, rfl, fun z => ?_, fun z => ?_⟩
  · have hz : 0 ≤ e' := of_decide_eq_true z
    repeat walk_at "dl"
    have := pow_q n e'.natAbs
    rw [show (e'.natAbs : Int) = e' by omega] at this
    rw [this] at p
    exact p
  · have hz : e' < 0 := by have := of_decide_eq_false z; omega
    repeat walk_at "dl"
    rw [inv_qD hn, show (-(e'.natAbs : Int)) = e' by omega]
    exact p
abbrev trD (n k : Int) (q : Rat) : D := .tup [.int n, .int k, qD q]
def P_lthen : List D → (D → Prop) → Prop := fun ds Φ => ∃ (n k : Int) (q : Rat) (n' k' : Int) (q' : Rat), ds = [trD n k q, trD n' k' q'] ∧ Fa n ∧ k.natAbs ≤ 100 ∧ Sz 300 q ∧ Sz 300 q' ∧ Φ (trD n (k + k') (q + (n : Rat) ^ k * q'))
theorem ok_l_then (T : Tx w K mg) : FnOk P w K mg base CX0 3 T.f_l_then T.d_l_then ["_law_x", "_law_y"] (spP K P_lthen) := by
  refine T.F_l_then.ok sc_l_then (fun vs H Q E h => len_P h fun ds Φ ⟨_, _, _, _, _, _, e, _⟩ => by subst e; rfl) (fun cdv A outer s H vs Q E hr h => ?_)
  refine ⟨_, (pss_one (ps_ret (pe_tup (pa_cons (pe_ix (r := rIxT K) ix_tup (pv 0) pe_int (fun _ _ => rfl)) (pa_cons (pe_op op_add (pe_ix (r := rIxT K) ix_tup (pv 0) pe_int (fun _ _ => rfl)) (pe_ix (r := rIxT K) ix_tup (pv 1) pe_int (fun _ _ => rfl))) (pa_cons (pe_call (ok_l_plus T) (hr.mono (by decide)) rfl T.mg_l_plus T.F_l_plus.kp T.b_l_plus .nil pass0 (pa_cons (pe_ix (r := rIxT K) ix_tup (pv 0) pe_int (fun _ _ => rfl)) (pa_cons (pe_call (ok_l_by T) (hr.mono (by decide)) rfl T.mg_l_by T.F_l_by.kp T.b_l_by .nil pass0 (pa_cons (pe_call (ok_l_power T) (hr.mono (by decide)) rfl T.mg_l_power T.F_l_power.kp T.b_l_power .nil pass0 (pa_cons (pe_ix (r := rIxT K) ix_tup (pv 0) pe_int (fun _ _ => rfl)) (pa_cons (pe_ix (r := rIxT K) ix_tup (pv 0) pe_int (fun _ _ => rfl)) pa_nil))) (pa_cons (pe_ix (r := rIxT K) ix_tup (pv 1) pe_int (fun _ _ => rfl)) pa_nil))) pa_nil))) pa_nil)))))), ?_⟩
  refine body_P h fun ds Φ ⟨n, k, q, n', k', q', e, hn, hk, hq, hq', p⟩ => ?_
  subst e
  repeat walk_at "dl"
  refine ⟨_, _, rfl, hn, by omega, ?_⟩
  repeat walk_at "dl"
  refine ⟨_, _, rfl, (zsz hn hk).up (by decide), hq'.up (by decide), ?_⟩
  repeat walk_at "dl"
  refine ⟨_, _, rfl, hq.up (by decide), ((zsz hn hk).mul hq').up (by decide), ?_⟩
  repeat walk_at "dl"
  exact p
def P_lundone : List D → (D → Prop) → Prop := fun ds Φ => ∃ (n k : Int) (q : Rat), ds = [trD n k q] ∧ Fa n ∧ k.natAbs ≤ 100 ∧ Sz 150 q ∧ Φ (trD n (-k) (-((n : Rat) ^ (-k) * q)))
theorem ok_l_undone (T : Tx w K mg) : FnOk P w K mg base CX0 3 T.f_l_undone T.d_l_undone ["_law_x"] (spP K P_lundone) := by
  refine T.F_l_undone.ok sc_l_undone (fun vs H Q E h => len_P h fun ds Φ ⟨_, _, _, e, _⟩ => by subst e; rfl) (fun cdv A outer s H vs Q E hr h => ?_)
  refine ⟨_, (pss_one (ps_ret (pe_tup (pa_cons (pe_ix (r := rIxT K) ix_tup (pv 0) pe_int (fun _ _ => rfl)) (pa_cons (pe_un un_neg (pe_ix (r := rIxT K) ix_tup (pv 0) pe_int (fun _ _ => rfl))) (pa_cons (pe_call (ok_l_by T) (hr.mono (by decide)) rfl T.mg_l_by T.F_l_by.kp T.b_l_by .nil pass0 (pa_cons (pe_call (ok_l_power T) (hr.mono (by decide)) rfl T.mg_l_power T.F_l_power.kp T.b_l_power .nil pass0 (pa_cons (pe_ix (r := rIxT K) ix_tup (pv 0) pe_int (fun _ _ => rfl)) (pa_cons (pe_un un_neg (pe_ix (r := rIxT K) ix_tup (pv 0) pe_int (fun _ _ => rfl))) pa_nil))) (pa_cons (pe_tup (pa_cons (pe_un un_neg (pe_ix (r := rIxT K) ix_tup (pe_ix (r := rIxT K) ix_tup (pv 0) pe_int (fun _ _ => rfl)) pe_int (fun _ _ => rfl))) (pa_cons (pe_ix (r := rIxT K) ix_tup (pe_ix (r := rIxT K) ix_tup (pv 0) pe_int (fun _ _ => rfl)) pe_int (fun _ _ => rfl)) pa_nil))) pa_nil))) pa_nil)))))), ?_⟩
  refine body_P h fun ds Φ ⟨n, k, q, e, hn, hk, hq, p⟩ => ?_
  subst e
  rw [← Rat.mul_neg] at p
  repeat walk_at "dl"
  refine ⟨_, _, rfl, hn, by omega, ?_⟩
  repeat walk_at "dl"
  refine ⟨_, (-q), rfl, (zsz (k := -k) (c := 100) hn (by omega)).up (by decide), (szn hq).up (by decide), ?_⟩
  repeat walk_at "dl"
  exact p
def P_shift : List D → Nat → (D → Nat → Prop) → Prop := fun ds N Φ => ∃ n w : Int, ds = [.int n, .int w, .int 3] ∧ Fa n ∧ 1 ≤ w ∧ w ≤ 100 ∧ N + 3 ≤ 1000000 ∧ ∀ q : Rat, Fit n q → Sz 10 q → Ws n 3 10 q → Φ (qD q) (N + 3)
theorem ok_l_shift (T : Tx w K mg) : FnOk P w K mg base CX0 3 T.f_l_shift T.d_l_shift ["_law_tub_here", "_law_n", "_law_most", "_law_deep"] (spV K P_shift) := by
  refine T.F_l_shift.ok sc_l_shift (fun vs H Q E h => len_V h fun ds n Φ ⟨_, _, e, _⟩ => by subst e; rfl) (fun cdv A outer s H vs Q E hr h => ?_)
  refine ⟨_, (pss_cons (ps_set (i := 4) sc_l_shift.nd rfl (by first | exact Or.inl rfl | exact Or.inr rfl) (pe_ix (r := rIxT K) ix_tup (pe_call (ok_l_power T) (hr.mono (by decide)) rfl T.mg_l_power T.F_l_power.kp T.b_l_power .nil pass0 (pa_cons (pv 1) (pa_cons (pe_call (ok_l_any_of T) (hr.mono (by decide)) rfl T.mg_l_any_of T.F_l_any_of.kp T.b_l_any_of .nil pass0 (pa_cons (pv 0) (pa_cons (pe_lst (pa_cons pe_int (pa_cons pe_int (pa_cons pe_int (pa_cons pe_int (pa_cons (pv 3) (pa_cons (pe_call (ok_l_ladle T) (hr.mono (by decide)) rfl T.mg_l_ladle T.F_l_ladle.kp T.b_l_ladle .nil pass0 (pa_cons (pv 0) (pa_cons (pe_op op_add (pv 3) pe_int) pa_nil))) pa_nil))))))) pa_nil))) pa_nil))) pe_int (fun _ _ => rfl))) (pss_one (ps_ret (pe_call (ok_l_frac T) (hr.mono (by decide)) rfl T.mg_l_frac T.F_l_frac.kp T.b_l_frac .nil pass0 (pa_cons (pe_op op_sub (pe_call (ok_l_ladle T) (hr.mono (by decide)) rfl T.mg_l_ladle T.F_l_ladle.kp T.b_l_ladle .nil pass0 (pa_cons (pv 0) (pa_cons (pe_op op_add (pe_op op_mulW (pe_op op_mul pe_int (pv 2)) (pv 4)) pe_int) pa_nil))) (pe_op op_mulW (pv 2) (pv 4))) (pa_cons (pv 4) pa_nil)))))), ?_⟩
  refine body_V h fun b ds n Φ hn ⟨n', w', e, hf, h1, h2, h3, p⟩ => ?_
  subst e
  repeat walk_at "dl"
  refine ⟨_, rfl, _, rfl, by decide, by decide, by omega, fun r r0 r1 => ?_⟩
  repeat walk_at "dl"
  refine ⟨_, rfl, _, _, rfl, .lst _, by simp, by simp, by show n + 1 + 1 ≤ 1000000; omega, fun d hd => ?_⟩
  obtain ⟨j, e, hj⟩ : ∃ j : Nat, d = .int (j : Int) ∧ j ≤ 3 := by
    simp only [List.mem_cons, List.not_mem_nil, or_false] at hd
    rcases hd with hd | hd | hd | hd | hd | hd
    · exact ⟨0, hd, by decide⟩
    · exact ⟨0, hd, by decide⟩
    · exact ⟨1, hd, by decide⟩
    · exact ⟨1, hd, by decide⟩
    · exact ⟨3, hd, by decide⟩
    · exact ⟨r.toNat, by rw [hd, show ((r.toNat : Nat) : Int) = r by omega], by omega⟩
  subst e
  repeat walk_at "dl"
  refine ⟨_, _, rfl, hf, by omega, ?_⟩
  rw [pow_q]
  repeat walk_at "dl"
  have hB : 1 ≤ n' ^ j ∧ n' ^ j ≤ 125 := by
    have g2 := hf.lo; have g5 := hf.hi
    have e : n' = 2 ∨ n' = 3 ∨ n' = 4 ∨ n' = 5 := by omega
    have f : j = 0 ∨ j = 1 ∨ j = 2 ∨ j = 3 := by omega
    rcases e with e | e | e | e <;> rcases f with f | f | f | f <;> subst e <;> subst f <;> decide
  have hd : n' ^ j ∣ n' ^ j := Int.dvd_refl _
  have hfit : ∀ a : Int, Fit n' (Rat.divInt a (n' ^ j)) := fun a => fit_of (m := j) (by omega) hd
  have hws : ∀ a : Int, a.natAbs ≤ 100 * (n' ^ j).natAbs → Ws n' 3 10 (Rat.divInt a (n' ^ j)) := fun a => ws_draw hf hj
  generalize n' ^ j = B at *
  obtain ⟨b1, b2⟩ := hB
  have hwB : w' * B ≤ 100 * 125 := Int.mul_le_mul h2 b2 (by omega) (by omega)
  have hwB0 : 0 < w' * B := Int.mul_pos (by omega) (by omega)
  have e2 : 2 * w' * B = 2 * (w' * B) := by grind
  have bw : Bk 3 w' := by unfold Bk; omega
  have bB : Bk 3 B := by unfold Bk; omega
  repeat walk_at "dl"
  refine ⟨_, rfl, _, rfl, by omega, by omega, by show n + 1 + 1 + 1 ≤ 1000000; omega, fun r2 r20 r21 => ?_⟩
  have bb : Bk 6 (r2 - w' * B) := by unfold Bk; omega
  repeat walk_at "dl"
  refine ⟨_, _, rfl, by omega, bb.up (by decide), bB.up (by decide), ?_⟩
  have hw3 : w' * B ≤ 100 * B := Int.mul_le_mul_of_nonneg_right h2 (by omega)
  exact p _ (hfit _) ((Sz.of bb (bB.up (by decide)) (by omega)).up (by decide)) (hws _ (by omega))
def P_small : List D → Nat → (D → Nat → Prop) → Prop := fun ds N Φ => ∃ n : Int, ds = [.int n] ∧ Fa n ∧ N + 5 ≤ 1000000 ∧ ∀ (k : Int) (q : Rat), k.natAbs ≤ 4 → Fit n q → Sz 10 q → Ws n 3 10 q → Φ (trD n k q) (N + 5)
theorem ok_l_small (T : Tx w K mg) : FnOk P w K mg base CX0 4 T.f_l_small T.d_l_small ["_law_tub_here", "_law_n"] (spV K P_small) := by
  refine T.F_l_small.ok sc_l_small (fun vs H Q E h => len_V h fun ds n Φ ⟨_, e, _⟩ => by subst e; rfl) (fun cdv A outer s H vs Q E hr h => ?_)
  refine ⟨_, (pss_cons (ps_set (i := 2) sc_l_small.nd rfl (by first | exact Or.inl rfl | exact Or.inr rfl) (pe_call (ok_l_any_of T) (hr.mono (by decide)) rfl T.mg_l_any_of T.F_l_any_of.kp T.b_l_any_of .nil pass0 (pa_cons (pv 0) (pa_cons (pe_lst (pa_cons pe_int (pa_cons pe_int (pa_cons pe_int (pa_cons (pe_un un_neg pe_int) (pa_cons pe_int (pa_cons (pe_un un_neg pe_int) (pa_cons pe_int (pa_cons (pe_un un_neg pe_int) (pa_cons pe_int pa_nil)))))))))) pa_nil)))) (pss_one (ps_ret (pe_tup (pa_cons (pv 1) (pa_cons (pv 2) (pa_cons (pe_call (ok_l_shift T) (hr.mono (by decide)) rfl T.mg_l_shift T.F_l_shift.kp T.b_l_shift .nil pass0 (pa_cons (pv 0) (pa_cons (pv 1) (pa_cons (pe_call (ok_l_any_of T) (hr.mono (by decide)) rfl T.mg_l_any_of T.F_l_any_of.kp T.b_l_any_of .nil pass0 (pa_cons (pv 0) (pa_cons (pe_lst (pa_cons pe_int (pa_cons pe_int (pa_cons pe_int (pa_cons pe_int (pa_cons pe_int pa_nil)))))) pa_nil))) (pa_cons pe_int pa_nil))))) pa_nil))))))), ?_⟩
  refine body_V h fun b ds n Φ hn ⟨n', e, hf, h1, p⟩ => ?_
  subst e
  repeat walk_at "dl"
  refine ⟨_, rfl, _, _, rfl, .lst _, by simp, by simp, by omega, fun d hd => ?_⟩
  obtain ⟨k, e, hk⟩ : ∃ k : Int, d = .int k ∧ k.natAbs ≤ 4 := by
    simp only [List.mem_cons, List.not_mem_nil, or_false] at hd
    rcases hd with hd | hd | hd | hd | hd | hd | hd | hd | hd <;> exact ⟨_, hd, by decide⟩
  subst e
  repeat walk_at "dl"
  refine ⟨_, rfl, _, _, rfl, .lst _, by simp, by simp, by show n + 1 + 1 ≤ 1000000; omega, fun d hd => ?_⟩
  obtain ⟨w, e, hw1, hw2⟩ : ∃ w : Int, d = .int w ∧ 1 ≤ w ∧ w ≤ 100 := by
    simp only [List.mem_cons, List.not_mem_nil, or_false] at hd
    rcases hd with hd | hd | hd | hd | hd <;> exact ⟨_, hd, by decide, by decide⟩
  subst e
  repeat walk_at "dl"
  refine ⟨_, rfl, _, _, rfl, hf, hw1, hw2, by show n + 1 + 1 + 3 ≤ 1000000; omega, fun q hq1 hq2 hq3 => ?_⟩
  repeat walk_at "dl"
  exact p k q hk hq1 hq2 hq3
def P_lview (C : Addr) : List D → (D → Prop) → Prop := fun ds Φ => ∃ (n k : Int) (q : Rat), ds = [trD n k q] ∧ Fa n ∧ k.natAbs ≤ 400 ∧ Fit n q ∧ Sz 900 q ∧ Φ (vw C n k q)
theorem ok_l_view (T : Tx w K mg) : FnOk P w K mg base CX0 5 T.f_l_view T.d_l_view ["_law_x"] (spP K (P_lview T.C_View)) := by
  refine T.F_l_view.ok sc_l_view (fun vs H Q E h => len_P h fun ds Φ ⟨_, _, _, e, _⟩ => by subst e; rfl) (fun cdv A outer s H vs Q E hr h => ?_)
  refine ⟨_, (pss_one (ps_ret (pe_make T.mk_View (ok_View_init T) (hr.mono (by decide)) rfl T.mg_View T.b_View_init .nil pass0 (pa_cons (pe_ix (r := rIxT K) ix_tup (pv 0) pe_int (fun _ _ => rfl)) (pa_cons (pe_ix (r := rIxT K) ix_tup (pv 0) pe_int (fun _ _ => rfl)) (pa_cons (pe_ix (r := rIxT K) ix_tup (pv 0) pe_int (fun _ _ => rfl)) pa_nil)))))), ?_⟩
  refine body_P h fun ds Φ ⟨n, k, q, e, hn, hk, hf, hq, p⟩ => ?_
  subst e
  repeat walk_at "dl"
  exact ⟨_, _, _, rfl, hn, hk, hf, hq, p⟩
def P_lseen (C : Addr) : List D → (D → Prop) → Prop := fun ds Φ => ∃ (n k : Int) (q : Rat), ds = [vw C n k q] ∧ Φ (trD n k q)
theorem ok_l_seen (T : Tx w K mg) : FnOk P w K mg base CX0 3 T.f_l_seen T.d_l_seen ["_law_view_here"] (spP K (P_lseen T.C_View)) := by
  refine T.F_l_seen.ok sc_l_seen (fun vs H Q E h => len_P h fun ds Φ ⟨_, _, _, e, _⟩ => by subst e; rfl) (fun cdv A outer s H vs Q E hr h => ?_)
  refine ⟨_, (pss_one (ps_ret (pe_ifExp (pt_val (pe_callB (r := rIsi K) call_isi rfl T.n_isinstance boot_isinstance (pa_cons (pv 0) (pa_cons (pe_glob (v := .ref T.C_View) rfl T.mg_View rfl) pa_nil)))) (pe_tup (pa_cons (pe_prop (pv 0) T.cl_View T.pr_View_factor (ok_View_factor T) (hr.mono (by decide)) T.b_View_factor .nil pass0 rfl) (pa_cons (pe_prop (pv 0) T.cl_View T.pr_View_zoom (ok_View_zoom T) (hr.mono (by decide)) T.b_View_zoom .nil pass0 rfl) (pa_cons (pe_prop (pv 0) T.cl_View T.pr_View_shift (ok_View_shift T) (hr.mono (by decide)) T.b_View_shift .nil pass0 rfl) pa_nil)))) pe_non))), ?_⟩
  refine body_P h fun ds Φ ⟨n, k, q, e, p⟩ => ?_
  subst e
  repeat walk_at "dl"
  refine cm_isiC T.isi_View ⟨true, rfl, fun _ => ?_, (fun z => by cases z)⟩
  repeat walk_at "dl"
  exact p
def P_minusL : List D → (D → Prop) → Prop := fun ds Φ => ∃ p q : Rat, ds = [qD p, qD q] ∧ Sz 450 p ∧ Sz 450 q ∧ Φ (qD (p - q))
theorem ok_l_minus (T : Tx w K mg) : FnOk P w K mg base CX0 3 T.f_l_minus T.d_l_minus ["_law_near", "_law_far"] (spP K P_minusL) := by
  refine T.F_l_minus.ok sc_l_minus (fun vs H Q E h => len_P h fun ds Φ ⟨_, _, e, _⟩ => by subst e; rfl) (fun cdv A outer s H vs Q E hr h => ?_)
  refine ⟨_, (pss_one (ps_ret (pe_call (ok_l_plus T) (hr.mono (by decide)) rfl T.mg_l_plus T.F_l_plus.kp T.b_l_plus .nil pass0 (pa_cons (pv 0) (pa_cons (pe_tup (pa_cons (pe_un un_neg (pe_ix (r := rIxT K) ix_tup (pv 1) pe_int (fun _ _ => rfl))) (pa_cons (pe_ix (r := rIxT K) ix_tup (pv 1) pe_int (fun _ _ => rfl)) pa_nil))) pa_nil))))), ?_⟩
  refine body_P h fun ds Φ ⟨u, v, e, hu, hv, p⟩ => ?_
  subst e
  have e : u - v = u + -v := by grind
  rw [e] at p
  repeat walk_at "dl"
  exact ⟨_, (-v), rfl, hu, szn hv, p⟩
theorem ten400 : 10 ^ 120 < 2 ^ 400 := by decide
theorem half_lt {l g : Int} {c : Nat} (hg : g ∣ l) (h2 : 2 ≤ g) (hl : 0 < l) (hc : l < 2 ^ (c + 1)) : l / g < 2 ^ c := by
  have e := Int.mul_ediv_cancel' hg
  have q0 : 0 < l / g := Int.ediv_pos_of_pos_of_dvd hl (by omega) hg
  have h := Int.mul_le_mul_of_nonneg_right h2 (Int.le_of_lt q0)
  rw [Int.pow_succ] at hc
  omega
def mu5 (Γ : EnvD) (_ : Mm) : Nat := match Γ[5]? with | some (some (D.int l)) => l.toNat | _ => 0
def P_lfits : List D → (D → Prop) → Prop := fun ds Φ => ∃ (n : Int) (q : Rat), ds = [.int n, qD q] ∧ Fa n ∧ Sz 120 q ∧ ∀ b : Bool, (b = true ↔ Fit n q) → Φ (.bl b)
theorem ok_l_fits (T : Tx w K mg) : FnOk P w K mg base CX0 1 T.f_l_fits T.d_l_fits ["_law_n", "_law_part"] (spP K P_lfits) := by
  refine T.F_l_fits.ok sc_l_fits (fun vs H Q E h => len_P h fun ds Φ ⟨_, _, e, _⟩ => by subst e; rfl) (fun cdv A outer s H vs Q E hr h => ?_)
  refine ⟨_, (pss_cons (ps_set (i := 2) sc_l_fits.nd rfl (by first | exact Or.inl rfl | exact Or.inr rfl) (pe_ix (r := rIxT K) ix_tup (pv 1) pe_int (fun _ _ => rfl))) (pss_cons (ps_for PassesOwn.never rfl (pi_range1 rfl T.n_range (pa_cons pe_int pa_nil)) (pg_name (i := 3) sc_l_fits.nd rfl (by first | exact Or.inl rfl | exact Or.inr rfl)) (pss_cons (ps_par (i := 4) (j := 5) rfl sc_l_fits.nd rfl rfl (by decide) rfl rfl (pa_cons (pv 2) (pa_cons (pv 0) pa_nil)) rfl) (pss_cons (ps_while PassesOwn.never (pt_cmpR op_gt (pv 5) pe_int (nomark _)) (pss_one (ps_par (i := 4) (j := 5) rfl sc_l_fits.nd rfl rfl (by decide) rfl rfl (pa_cons (pv 5) (pa_cons (pe_op op_mod (pe_callTy call_int1 rfl T.n_int boot_int (pa_cons (pv 4) pa_nil)) (pv 5)) pa_nil)) rfl))) (pss_cons (ps_if (pt_cmpR op_eq (pv 4) pe_int (nomark _)) (pss_one (ps_ret (pe_cmpR op_eq (pv 2) pe_int (nomark _)))) pss_nil) (pss_one (ps_set (i := 2) sc_l_fits.nd rfl (by first | exact Or.inl rfl | exact Or.inr rfl) (pe_op op_fdivW (pv 2) (pv 4)))))))) (pss_one (ps_ret (pe_cmpR op_eq (pv 2) pe_int (nomark _)))))), ?_⟩
  refine body_P h fun ds Φ ⟨n, q, e, hn, hq, p⟩ => ?_
  subst e
  have hd0 := den_pos q
  have hd1 : (q.den : Int) < 2 ^ 400 := by
    have h1 := hq.d
    unfold Bk at h1
    have h2 : (q.den : Int).natAbs < 2 ^ 400 := Nat.lt_trans h1 ten400
    have h3 : ((2 ^ 400 : Nat) : Int) = (2 : Int) ^ 400 := by norm_cast
    omega
  have hbd : Bk 120 (q.den : Int) := hq.d
  repeat walk_at "dl"
  refine sm_forR (c := 400) ?_
  repeat walk_at "dl"
  refine ⟨rfl, by decide, fun i Γ' m => ∃ (l : Int) (c3 c4 c5 : Option D), 0 < l ∧ l < 2 ^ (400 - i) ∧ Bk 120 l ∧ ((∃ m : Nat, l ∣ n ^ m) ↔ Fit n q) ∧ Γ' = [some (.int n), some (qD q), some (.int l), c3, c4, c5] ∧ m = ⟨0, []⟩, ⟨_, none, none, none, hd0, hd1, hbd, Iff.rfl, rfl, rfl⟩, ?_, ?_⟩
  · rintro i Γ' m hi ⟨l, c3, c4, c5, hl, hlc, hlb, hf, e1, e2⟩
    subst e1 e2
    have hi : i < 400 := hi
    have gn : gcdI l n ≤ n := Int.le_of_dvd (by have := hn.lo; omega) (gcdI_dvd_r l n)
    have hn5 := hn.hi
    have hn2 := hn.lo
    repeat walk_at "dl"
    refine sm_while (fun Γ' m => ∃ u v : Nat, Nat.gcd u v = Nat.gcd l.natAbs n.natAbs ∧ Γ' = [some (.int n), some (qD q), some (.int l), some (.int (0 + (i : Int))), some (.int u), some (.int v)] ∧ m = ⟨0, []⟩) mu5 ⟨l.natAbs, n.natAbs, rfl, by rw [show ((l.natAbs : Nat) : Int) = l by omega, show ((n.natAbs : Nat) : Int) = n by omega]; rfl, rfl⟩ ?_
    rintro Γ' m ⟨u, v, hg, e1, e2⟩
    subst e1 e2
    repeat walk_at "dl"
    refine ⟨_, rfl, fun z => ?_, fun z => ?_⟩
    · have hv : (0 : Int) < v := of_decide_eq_true z
      repeat walk_at "dl"
      refine rm_C hv ?_
      repeat walk_at "dl"
      refine ⟨⟨v, u % v, by rw [← hg, Nat.gcd_comm u v, Nat.gcd_comm v (u % v), ← Nat.gcd_rec], rfl, rfl⟩, ?_⟩
      show ((u : Int) % (v : Int)).toNat < (v : Int).toNat
      have := Int.emod_lt_of_pos (u : Int) hv
      omega
    · have hv : v = 0 := by have := of_decide_eq_false z; omega
      subst hv
      rw [Nat.gcd_zero_right] at hg
      have hg2 : (u : Int) = gcdI l n := by unfold gcdI; omega
      rw [hg2]
      have hp := gcdI_pos (a := l) hn.ne
      have gl := gcdI_dvd_l l n
      repeat walk_at "dl"
      refine ⟨_, rfl, fun z2 => ?_, fun z2 => ?_⟩
      · have h1 : gcdI l n = 1 := of_decide_eq_true z2
        repeat walk_at "dl"
        exact p _ (by rw [decide_eq_true_iff]; exact (fit_end hl h1).trans hf)
      · have h1 : gcdI l n ≠ 1 := of_decide_eq_false z2
        repeat walk_at "dl"
        refine rm_C (divWp hp (k := 1) (by unfold Bk; omega) (by decide)) ?_
        repeat walk_at "dl"
        exact ⟨l / gcdI l n, _, _, _, Int.ediv_pos_of_pos_of_dvd hl (by omega) gl, half_lt gl (by omega) hl (by rw [show 400 - (i + 1) + 1 = 400 - i by omega]; exact hlc), hlb.div, (fit_step gl (gcdI_dvd_r l n)).trans hf, rfl, rfl⟩
  · rintro Γ' m ⟨l, c3, c4, c5, hl, hlc, _⟩
    rw [show 400 - 400 = 0 by omega, Int.pow_zero] at hlc
    omega
theorem inv_pos_qD {a : Rat} (h : 0 < a.num) : D.tup [.int (a.den : Int), .int a.num] = qD a⁻¹ := by
  show _ = D.tup [.int _, .int _]
  rw [Rat.num_inv, Rat.den_inv, if_neg (by omega), Int.sign_eq_one_of_pos h, Int.one_mul, show ((a.num.natAbs : Nat) : Int) = a.num by omega]
theorem inv_neg_qD {a : Rat} (h : a.num < 0) : D.tup [.int (-(a.den : Int)), .int (-a.num)] = qD a⁻¹ := by
  show _ = D.tup [.int _, .int _]
  rw [Rat.num_inv, Rat.den_inv, if_neg (by omega), Int.sign_eq_neg_one_of_neg h, show -1 * (a.den : Int) = -(a.den : Int) by omega, show ((a.num.natAbs : Nat) : Int) = -a.num by omega]
theorem one_qD {d : Int} (h : 0 < d) : D.tup [.int 1, .int d] = qD (Rat.divInt 1 d) := by
  have e := inv_pos_qD (a := (d : Rat)) h
  rw [Rat.inv_def] at e
  exact e
theorem mone_qD {d : Int} (h : 0 < d) : D.tup [.int (-1), .int d] = qD (-(Rat.divInt 1 d)) := by
  have e := one_qD h
  have e2 := D.tup.inj e
  simp only [List.cons.injEq, D.int.injEq, and_true] at e2
  show _ = D.tup [.int (-(Rat.divInt 1 d).num), .int ((Rat.divInt 1 d).den : Int)]
  rw [← e2.1, ← e2.2]
theorem eqv_trD (n k k' : Int) (p q : Rat) : PyData.eqv (py (trD n k p)) (py (trD n k' q)) = decide (k = k' ∧ p = q) := by
  show ((n == n) && ((k == k') && (PyData.eqv (py (qD p)) (py (qD q)) && true))) = _
  rw [Bool.and_true, eqv_qD, Bool.decide_and, beq_self_eq_true, Bool.true_and]
  rfl
theorem two_get {α : Type} {v x : α} {i : Nat} (h : [v, v][i]? = some x) : x = v := by
  match i, h with
  | 0, h => exact (Option.some.inj h).symm
  | 1, h => exact (Option.some.inj h).symm
  | i + 2, h => simp at h
section
variable {K : PySem.W.Frag} {a : Cd} {n : Mm} {Φ : D → Mm → Prop}
theorem rm_eqV {x y : D} {b : Bool} (hx : pur x = true) (hy : pur y = true) (sx : SeqAt.shaped (py x) = true) (sy : SeqAt.shaped (py y) = true) (e : PyData.eqv (py x) (py y) = b) (k : Φ (.bl b) n) : RM K a (rEqD K) x y n Φ := rm_eqD hx hy sx sy (by rw [e]; exact k)
theorem rm_neSS {s t : Str} (h : s = t) (k : Φ (.bl false) n) : RM K a rNe (.str s) (.str t) n Φ := rm_neS (by rw [decide_eq_true h]; exact k)
end
/-! what makes one the other one -/
def Al (n k : Int) (p : Rat) (k' : Int) (q : Rat) : Prop := k = k' ∧ Cj n k p q
structure Cw (n k : Int) (p q : Rat) (j : Int) (e : Rat) : Prop where
  eq : e + (n : Rat) ^ j * p - (n : Rat) ^ k * e = q
  f : Fit n e
  s : Sz 150 e
  j24 : j.natAbs ≤ 24
  cj : Cj n k p q
theorem Al.symm {n k : Int} {p : Rat} {k' : Int} {q : Rat} (hn : Fa n) (h : Al n k p k' q) : Al n k' q k p := by
  obtain ⟨e, h⟩ := h
  subst e
  exact ⟨rfl, Cj_symm hn h⟩
theorem al_symm {n k : Int} {p : Rat} {k' : Int} {q : Rat} (hn : Fa n) : Al n k' q k p ↔ Al n k p k' q := ⟨Al.symm hn, Al.symm hn⟩
theorem al_undone {n k : Int} {p : Rat} {k' : Int} {q : Rat} (hn : Fa n) : Al n (-k) (-((n : Rat) ^ (-k) * p)) (-k') (-((n : Rat) ^ (-k') * q)) ↔ Al n k p k' q := by
  unfold Al
  constructor
  · rintro ⟨e, h⟩
    have e : k = k' := by omega
    subst e
    exact ⟨rfl, (Cj_undone hn).mp h⟩
  · rintro ⟨e, h⟩
    subst e
    exact ⟨rfl, (Cj_undone hn).mpr h⟩
theorem pow_shape {n j : Int} {r : Rat} (hn : Fa n) (e : r = (n : Rat) ^ j) : (∃ m : Nat, j = m ∧ r.num = n ^ m ∧ r.den = 1) ∨ ∃ m : Nat, j = -(m : Int) ∧ r.num = 1 ∧ (r.den : Int) = n ^ m := by
  subst e
  rcases Int.natAbs_eq j with h | h
  · generalize j.natAbs = m at h
    subst h
    exact .inl ⟨m, rfl, by rw [Rat.zpow_natCast, Rat.num_pow, Rat.num_intCast], by rw [Rat.zpow_natCast, Rat.den_pow, Rat.den_intCast, Nat.one_pow]⟩
  · generalize j.natAbs = m at h
    subst h
    have e2 := D.tup.inj (inv_qD hn m)
    simp only [List.cons.injEq, D.int.injEq, and_true] at e2
    exact .inr ⟨m, rfl, e2.1.symm, e2.2.symm⟩
theorem rat_int {r : Rat} {z : Int} (h1 : r.num = z) (h2 : r.den = 1) : r = (z : Rat) := by
  refine Rat.ext ?_ ?_
  · rw [h1, Rat.num_intCast]
  · rw [h2, Rat.den_intCast]
theorem pow_pos' {n : Int} (hn : Fa n) (m : Nat) : 0 < n ^ m := Int.pow_pos (by have := hn.lo; omega)
theorem pow_unmix {n l : Int} {e m : Nat} (hn : Fa n) (hl : 0 < l) (hd : ¬ l % n = 0) (h : n ^ e * l = n ^ m) : l = 1 ∧ e = m := by
  have hp := pow_pos' hn
  rcases Nat.lt_or_ge e m with z | z
  · exfalso
    refine hd (Int.emod_eq_zero_of_dvd ⟨n ^ (m - e - 1), ?_⟩)
    have e1 : n ^ m = n ^ e * (n * n ^ (m - e - 1)) := by
      rw [Int.mul_comm n, ← Int.pow_succ, ← Int.pow_add, show e + (m - e - 1).succ = m by omega]
    rw [e1] at h
    exact Int.eq_of_mul_eq_mul_left (by have := hp e; omega) h
  · have e1 : n ^ e = n ^ m * n ^ (e - m) := by rw [← Int.pow_add, show m + (e - m) = e by omega]
    rw [e1, Int.mul_assoc] at h
    have h2 : n ^ (e - m) * l = 1 := Int.eq_of_mul_eq_mul_left (a := n ^ m) (by have := hp m; omega) (by rw [h, Int.mul_one])
    have h3 := hp (e - m)
    have hl1 : l = 1 := by
      have : l ≤ 1 := Int.le_of_dvd (by decide) ⟨n ^ (e - m), by rw [Int.mul_comm]; exact h2.symm⟩
      omega
    rw [hl1, Int.mul_one] at h2
    refine ⟨hl1, ?_⟩
    rcases Nat.eq_zero_or_pos (e - m) with z2 | z2
    · omega
    · exfalso
      obtain ⟨u, hu⟩ : ∃ u, e - m = u + 1 := ⟨e - m - 1, by omega⟩
      rw [hu, Int.pow_succ] at h2
      have := hp u
      have h4 : n ^ u * 2 ≤ n ^ u * n := Int.mul_le_mul_of_nonneg_left hn.lo (by omega)
      omega
def mu4i (Γ : EnvD) (_ : Mm) : Nat := match Γ[4]? with | some (some (D.int l)) => l.toNat | _ => 0
def P_exp : List D → (D → Prop) → Prop := fun ds Φ => ∃ (r : Rat) (n : Int), ds = [qD r, .int n] ∧ Fa n ∧ (∀ j : Int, r = (n : Rat) ^ j → Φ (.int j)) ∧ ((∀ j : Int, r ≠ (n : Rat) ^ j) → Φ .non) ∧ True
theorem ok_exponent_in (T : Tx w K mg) : FnOk P w K mg base CX0 1 T.f_exponent_in T.d_exponent_in ["value", "base"] (spP K P_exp) := by
  refine T.F_exponent_in.ok sc_exponent_in (fun vs H Q E h => len_P h fun ds Φ ⟨_, _, e, _⟩ => by subst e; rfl) (fun cdv A outer s H vs Q E hr h => ?_)
  refine ⟨_, (pss_cons (ps_asg (pv 0) (pg_tup rfl (pgs_cons (pg_name (i := 2) sc_exponent_in.nd rfl (by first | exact Or.inl rfl | exact Or.inr rfl)) (pgs_cons (pg_name (i := 3) sc_exponent_in.nd rfl (by first | exact Or.inl rfl | exact Or.inr rfl)) pgs_nil)))) (pss_cons (ps_set (i := 4) sc_exponent_in.nd rfl (by first | exact Or.inl rfl | exact Or.inr rfl) (pe_callB (call_max2 rfl) rfl T.n_max boot_max (pa_cons (pv 2) (pa_cons (pv 3) pa_nil)))) (pss_cons (ps_if (pt_cmpR op_ne (pe_callB (call_min2 rfl) rfl T.n_min boot_min (pa_cons (pv 2) (pa_cons (pv 3) pa_nil))) pe_int (nomark _)) (pss_one (ps_ret pe_non)) pss_nil) (pss_cons (ps_set (i := 5) sc_exponent_in.nd rfl (by first | exact Or.inl rfl | exact Or.inr rfl) pe_int) (pss_cons (ps_while PassesOwn.never (pt_cmpR op_eq (pe_op op_mod (pv 4) (pv 1)) pe_int (nomark _)) (pss_cons (ps_set (i := 4) sc_exponent_in.nd rfl (by first | exact Or.inl rfl | exact Or.inr rfl) (pe_op op_fdivW (pv 4) (pv 1))) (pss_one (ps_aug (i := 5) sc_exponent_in.nd rfl (by first | exact Or.inl rfl | exact Or.inr rfl) pe_int ip_add)))) (pss_cons (ps_if (pt_cmpR op_ne (pv 4) pe_int (nomark _)) (pss_one (ps_ret pe_non)) pss_nil) (pss_one (ps_ret (pe_ifExp (pt_cmpR op_eq (pv 3) pe_int (nomark _)) (pv 5) (pe_un un_neg (pv 5))))))))))), ?_⟩
  refine body_P h fun ds Φ ⟨r, n, e, hn, p1, p2, p⟩ => ?_
  subst e
  have n2 := hn.lo
  have hd := den_pos r
  repeat walk_at "dl"
  refine ⟨_, rfl, fun z => ?_, fun z => ?_⟩
  · have z : (if (r.den : Int) < r.num then (r.den : Int) else r.num) ≠ 1 := by simpa using z
    repeat walk_at "dl"
    refine p2 fun j e => ?_
    rcases pow_shape hn e with ⟨m, _, h1, h2⟩ | ⟨m, _, h1, h2⟩
    · have := pow_pos' hn m
      split at z <;> omega
    · have := pow_pos' hn m
      split at z <;> omega
  have z : (if (r.den : Int) < r.num then (r.den : Int) else r.num) = 1 := by simpa using z
  obtain ⟨M, hM, hM0, hS⟩ : ∃ M : Int, (if (r.den : Int) > r.num then (r.den : Int) else r.num) = M ∧ 0 < M ∧ ((r.num = M ∧ r.den = 1) ∨ (r.num = 1 ∧ (r.den : Int) = M ∧ r.den ≠ 1)) := by
    refine ⟨_, rfl, ?_⟩
    split at z
    · rw [if_neg (by omega)]
      exact ⟨by omega, .inl ⟨rfl, by omega⟩⟩
    · split
      · exact ⟨by omega, .inr ⟨z, rfl, by omega⟩⟩
      · exact ⟨by omega, .inl ⟨rfl, by omega⟩⟩
  rw [hM]
  repeat walk_at "dl"
  refine sm_while (fun Γ' m => ∃ (l : Int) (e : Nat), 0 < l ∧ n ^ e * l = M ∧ Γ' = [some (qD r), some (.int n), some (.int r.num), some (.int (r.den : Int)), some (.int l), some (.int (e : Int))] ∧ m = ⟨0, []⟩) mu4i ⟨M, 0, hM0, by rw [Int.pow_zero, Int.one_mul], rfl, rfl⟩ ?_
  rintro Γ' m ⟨l, e, hl, hE, e1, e2⟩
  subst e1 e2
  repeat walk_at "dl"
  refine rm_C (C := fun (_ : Int) (j : Int) => 0 < j) (by omega) ?_
  repeat walk_at "dl"
  refine ⟨_, rfl, fun z2 => ?_, fun z2 => ?_⟩
  · have z2 := of_decide_eq_true z2
    have hq := Int.mul_ediv_cancel' (Int.dvd_of_emod_eq_zero z2)
    have q0 : 0 < l / n := Int.ediv_pos_of_pos_of_dvd hl (by omega) (Int.dvd_of_emod_eq_zero z2)
    have q1 : l / n < l := by
      have := Int.mul_lt_mul_of_pos_right (show (1 : Int) < n by omega) q0
      omega
    repeat walk_at "dl"
    refine rm_C (divWp (k := 1) (by omega) (by unfold Bk; have := hn.hi; omega) (by decide)) ?_
    repeat walk_at "dl"
    refine sm_aug (x := (e : Int)) rfl ?_
    repeat walk_at "dl"
    refine ⟨1, rfl, ⟨l / n, e + 1, q0, ?_, ?_, rfl⟩, ?_⟩
    · rw [Int.pow_succ, Int.mul_assoc, hq, hE]
    · rfl
    · show (l / n).toNat < l.toNat
      omega
  · have z2 := of_decide_eq_false z2
    have hL : ∀ {t : Nat}, M = n ^ t → l = 1 ∧ e = t := fun h => pow_unmix hn hl z2 (hE.trans h)
    have hA : ∀ j : Int, r = (n : Rat) ^ j → l = 1 := fun j ej => by
      rcases pow_shape hn ej with ⟨t, _, h1, h2⟩ | ⟨t, _, h1, h2⟩
      · rcases hS with ⟨s1, s2⟩ | ⟨s1, s2, s3⟩
        · exact (hL (s1.symm.trans h1)).1
        · omega
      · rcases hS with ⟨s1, s2⟩ | ⟨s1, s2, s3⟩
        · exact (hL (t := 0) (by rw [Int.pow_zero, ← s1, h1])).1
        · exact (hL (s2.symm.trans h2)).1
    repeat walk_at "dl"
    refine ⟨_, rfl, fun z3 => ?_, fun z3 => ?_⟩
    · have z3 : l ≠ 1 := by simpa using z3
      repeat walk_at "dl"
      exact p2 fun j ej => z3 (hA j ej)
    have z3 : l = 1 := by simpa using z3
    rw [z3, Int.mul_one] at hE
    repeat walk_at "dl"
    refine ⟨_, rfl, fun z4 => ?_, fun z4 => ?_⟩
    · have z4 : r.den = 1 := by have := of_decide_eq_true z4; omega
      have hS1 : r.num = M := by
        rcases hS with ⟨s1, s2⟩ | ⟨s1, s2, s3⟩
        · exact s1
        · omega
      repeat walk_at "dl"
      refine p1 _ ?_
      rw [pow_q', rat_int (hS1.trans hE.symm) z4]
    · have z4 : r.den ≠ 1 := by have := of_decide_eq_false z4; omega
      obtain ⟨s1, s2⟩ : r.num = 1 ∧ (r.den : Int) = M := by
        rcases hS with ⟨s1, s2⟩ | ⟨s1, s2, s3⟩
        · omega
        · exact ⟨s1, s2⟩
      repeat walk_at "dl"
      refine p1 _ ?_
      rw [← pow_neg_q, hE, ← s1, ← s2, Rat.num_divInt_den]
theorem num_scaled (p : Rat) (b : Int) : (((p.den : Int) * b : Int) : Rat) * p = ((p.num * b : Int) : Rat) := by
  rw [Rat.intCast_mul, Rat.intCast_mul, ← num_eq p, Rat.intCast_natCast]
  grind
def P_zoomed (C : Addr) : List D → (D → Prop) → Prop := fun ds Φ => ∃ (n k : Int) (p q : Rat), ds = [vw C n k p, vw C n k q] ∧ Fa n ∧ k ≠ 0 ∧ k.natAbs ≤ 4 ∧ Fit n p ∧ Fit n q ∧ Sz 60 p ∧ Sz 60 q ∧ (¬ Cj n k p q → Φ .non) ∧ (∀ j e, Cw n k p q j e → Φ (pD j e)) ∧ True
theorem szi0 {k : Nat} {t : Int} (h : Bk k t) (l : 1 ≤ k) : Sz k (t : Rat) := ⟨h, Bk.up (j := 1) (by rw [Rat.den_intCast]; unfold Bk; decide) l⟩
theorem ok_pair_between_zoomed (T : Tx w K mg) : FnOk P w K mg base CX0 4 T.f_pair_between_zoomed T.d_pair_between_zoomed ["one", "other"] (spP K (P_zoomed T.C_View)) := by
  refine T.F_pair_between_zoomed.ok sc_pair_between_zoomed (fun vs H Q E h => len_P h fun ds Φ ⟨_, _, _, _, e, _⟩ => by subst e; rfl) (fun cdv A outer s H vs Q E hr h => ?_)
  refine ⟨_, (pss_cons (ps_set (i := 2) sc_pair_between_zoomed.nd rfl (by first | exact Or.inl rfl | exact Or.inr rfl) (pe_prop (pv 0) T.cl_View T.pr_View_factor (ok_View_factor T) (hr.mono (by decide)) T.b_View_factor .nil pass0 rfl)) (pss_cons (ps_set (i := 3) sc_pair_between_zoomed.nd rfl (by first | exact Or.inl rfl | exact Or.inr rfl) (pe_ix (r := rIxT K) ix_tup (pe_call (ok_growth T) (hr.mono (by decide)) rfl T.mg_growth T.F_growth.kp T.b_growth .nil pass0 (pa_cons (pv 2) (pa_cons (pe_callB call_abs rfl T.n_abs boot_abs (pa_cons (pe_prop (pv 0) T.cl_View T.pr_View_zoom (ok_View_zoom T) (hr.mono (by decide)) T.b_View_zoom .nil pass0 rfl) pa_nil)) pa_nil))) pe_int (fun _ _ => rfl))) (pss_cons (ps_set (i := 4) sc_pair_between_zoomed.nd rfl (by first | exact Or.inl rfl | exact Or.inr rfl) (pe_op op_mulW (pe_ix (r := rIxT K) ix_tup (pe_prop (pv 0) T.cl_View T.pr_View_shift (ok_View_shift T) (hr.mono (by decide)) T.b_View_shift .nil pass0 rfl) pe_int (fun _ _ => rfl)) (pe_ix (r := rIxT K) ix_tup (pe_prop (pv 1) T.cl_View T.pr_View_shift (ok_View_shift T) (hr.mono (by decide)) T.b_View_shift .nil pass0 rfl) pe_int (fun _ _ => rfl)))) (pss_cons (ps_set (i := 5) sc_pair_between_zoomed.nd rfl (by first | exact Or.inl rfl | exact Or.inr rfl) (pe_ix (r := rIxT K) ix_tup (pe_call (ok_ratio_times T) (hr.mono (by decide)) rfl T.mg_ratio_times T.F_ratio_times.kp T.b_ratio_times .nil pass0 (pa_cons (pe_tup (pa_cons (pv 4) (pa_cons pe_int pa_nil))) (pa_cons (pe_prop (pv 0) T.cl_View T.pr_View_shift (ok_View_shift T) (hr.mono (by decide)) T.b_View_shift .nil pass0 rfl) pa_nil))) pe_int (fun _ _ => rfl))) (pss_cons (ps_set (i := 6) sc_pair_between_zoomed.nd rfl (by first | exact Or.inl rfl | exact Or.inr rfl) (pe_ix (r := rIxT K) ix_tup (pe_call (ok_ratio_times T) (hr.mono (by decide)) rfl T.mg_ratio_times T.F_ratio_times.kp T.b_ratio_times .nil pass0 (pa_cons (pe_tup (pa_cons (pv 4) (pa_cons pe_int pa_nil))) (pa_cons (pe_prop (pv 1) T.cl_View T.pr_View_shift (ok_View_shift T) (hr.mono (by decide)) T.b_View_shift .nil pass0 rfl) pa_nil))) pe_int (fun _ _ => rfl))) (pss_cons (ps_for PassesOwn.never rfl (pi_range1 rfl T.n_range (pa_cons (pe_callB call_abs rfl T.n_abs boot_abs (pa_cons (pe_prop (pv 0) T.cl_View T.pr_View_zoom (ok_View_zoom T) (hr.mono (by decide)) T.b_View_zoom .nil pass0 rfl) pa_nil)) pa_nil)) (pg_name (i := 7) sc_pair_between_zoomed.nd rfl (by first | exact Or.inl rfl | exact Or.inr rfl)) (pss_cons (ps_if (pt_cmpR op_eq (pe_op op_mod (pe_op op_sub (pv 6) (pv 5)) (pv 3)) pe_int (nomark _)) (pss_cons (ps_set (i := 8) sc_pair_between_zoomed.nd rfl (by first | exact Or.inl rfl | exact Or.inr rfl) (pe_call (ok_ratio_less T) (hr.mono (by decide)) rfl T.mg_ratio_less T.F_ratio_less.kp T.b_ratio_less .nil pass0 (pa_cons (pe_call (ok_scaled T) (hr.mono (by decide)) rfl T.mg_scaled T.F_scaled.kp T.b_scaled .nil pass0 (pa_cons (pv 2) (pa_cons (pv 7) (pa_cons (pe_prop (pv 0) T.cl_View T.pr_View_shift (ok_View_shift T) (hr.mono (by decide)) T.b_View_shift .nil pass0 rfl) pa_nil)))) (pa_cons (pe_prop (pv 1) T.cl_View T.pr_View_shift (ok_View_shift T) (hr.mono (by decide)) T.b_View_shift .nil pass0 rfl) pa_nil)))) (pss_one (ps_ret (pe_tup (pa_cons (pv 7) (pa_cons (pe_call (ok_ratio_over T) (hr.mono (by decide)) rfl T.mg_ratio_over T.F_ratio_over.kp T.b_ratio_over .nil pass0 (pa_cons (pv 8) (pa_cons (pe_call (ok_growth T) (hr.mono (by decide)) rfl T.mg_growth T.F_growth.kp T.b_growth .nil pass0 (pa_cons (pv 2) (pa_cons (pe_prop (pv 0) T.cl_View T.pr_View_zoom (ok_View_zoom T) (hr.mono (by decide)) T.b_View_zoom .nil pass0 rfl) pa_nil))) pa_nil))) pa_nil)))))) pss_nil) (pss_one (ps_set (i := 5) sc_pair_between_zoomed.nd rfl (by first | exact Or.inl rfl | exact Or.inr rfl) (pe_op op_mulW (pv 5) (pv 2)))))) (pss_one (ps_ret pe_non)))))))), ?_⟩
  refine body_P h fun ds Φ ⟨n, k, u, v, e, hn, k0, hk, fu, fv, su, sv, p1, p2, p⟩ => ?_
  subst e
  have hz := fun (i : Int) (h : i.natAbs ≤ 4) => zsz hn h
  have ea : (if k < 0 then -k else k) = ((k.natAbs : Nat) : Int) := by split <;> omega
  have hA : 0 < n ^ k.natAbs - 1 := by
    obtain ⟨m, hm⟩ : ∃ m, k.natAbs = m + 1 := ⟨k.natAbs - 1, by omega⟩
    rw [hm, Int.pow_succ]
    have := pow_pos' hn m
    have h4 : n ^ m * 2 ≤ n ^ m * n := Int.mul_le_mul_of_nonneg_left hn.lo (by omega)
    omega
  have bp := su.n
  have bd := su.d
  have cp := sv.n
  have cd := sv.d
  repeat walk_at "dl"
  rw [ea]
  refine ⟨_, _, rfl, hn, by omega, ?_⟩
  have eA : ((n : Rat) ^ ((k.natAbs : Nat) : Int) - 1) = ((n ^ k.natAbs - 1 : Int) : Rat) := by rw [pow_q', Rat.intCast_sub]; rfl
  rw [eA]
  repeat walk_at "dl"
  rw [Rat.num_intCast]
  refine ⟨((u.den * v.den : Int) : Rat), _, rfl, (szi0 (bd.mul cd) (by decide)).up (by decide), su.up (by decide), ?_⟩
  rw [num_scaled u]
  repeat walk_at "dl"
  rw [Rat.num_intCast]
  refine ⟨((u.den * v.den : Int) : Rat), _, rfl, (szi0 (bd.mul cd) (by decide)).up (by decide), sv.up (by decide), ?_⟩
  rw [Int.mul_comm (u.den : Int), num_scaled v]
  repeat walk_at "dl"
  rw [Rat.num_intCast]
  refine sm_forR (c := k.natAbs) ?_
  repeat walk_at "dl"
  rw [ea]
  refine ⟨rfl, by omega, fun i Γ' m => ∃ c7, (∀ t : Nat, t < i → ¬ Fj n k u v t) ∧ Γ' = [some (vw T.C_View n k u), some (vw T.C_View n k v), some (.int n), some (.int (n ^ k.natAbs - 1)), some (.int (v.den * u.den)), some (.int (n ^ i * (u.num * v.den))), some (.int (v.num * u.den)), c7, none] ∧ m = ⟨0, []⟩, ⟨none, fun t ht => absurd ht (by omega), by rw [Int.pow_zero, Int.one_mul]; rfl, rfl⟩, ?_, ?_⟩
  · rintro i Γ' m hi ⟨c7, hF, e1, e2⟩
    subst e1 e2
    have bn : Bk 1 n := hn.small
    have bw : Bk 130 (n ^ i * (u.num * v.den)) := ((Bk.pow hn.small i).mul (bp.mul cd)).up (by omega)
    repeat walk_at "dl"
    refine rm_C (C := fun (_ : Int) (j : Int) => 0 < j) hA ?_
    repeat walk_at "dl"
    refine ⟨_, rfl, fun z => ?_, fun z => ?_⟩
    · have z := of_decide_eq_true z
      have hj := (test_iff hn k0 fu fv i).mp z
      have ez : (0 : Int) + (i : Int) = i := Int.zero_add _
      have h0 := g_ne hn k0
      have s1 := (zsz (k := (i : Int)) (c := 4) hn (by omega)).mul su
      have s2 := s1.sub sv
      have s3 := (zsz hn hk).sub sz1
      have s4 := s2.div s3 h0
      repeat walk_at "dl"
      rw [ez]
      refine ⟨_, _, _, rfl, hn, by omega, su.up (by decide), ?_⟩
      repeat walk_at "dl"
      refine ⟨_, _, rfl, s1.up (by decide), sv.up (by decide), ?_⟩
      repeat walk_at "dl"
      refine ⟨_, _, rfl, hn, by omega, ?_⟩
      repeat walk_at "dl"
      refine ⟨_, _, rfl, h0, s2.up (by decide), s3.up (by decide), ?_⟩
      repeat walk_at "dl"
      refine p2 i _ ⟨?_, hj, s4.up (by decide), by omega, by unfold Cj; rw [if_neg k0]; exact ⟨_, hj⟩⟩
      generalize (n : Rat) ^ (i : Int) = x at *
      generalize (n : Rat) ^ k = y at *
      grind
    · have z := of_decide_eq_false z
      repeat walk_at "dl"
      refine ⟨some (.int (0 + (i : Int))), fun t ht => ?_, ?_, rfl⟩
      · rcases Nat.lt_or_ge t i with h | h
        · exact hF t h
        · rw [show t = i by omega]
          exact fun h => z ((test_iff hn k0 fu fv i).mpr h)
      · have e2 : n ^ (i + 1) * (u.num * v.den) = n ^ i * (u.num * v.den) * n := by
          rw [Int.pow_succ]
          grind
        rw [e2]
        rfl
  · rintro Γ' m ⟨c7, hF, e1, e2⟩
    subst e1 e2
    repeat walk_at "dl"
    refine p1 fun h => ?_
    obtain ⟨i, hi, h2⟩ := (Cj_range hn k0 fu).mp h
    exact hF i hi h2
def P_between (C : Addr) : List D → (D → Prop) → Prop := fun ds Φ => ∃ (n k : Int) (p : Rat) (k' : Int) (q : Rat), ds = [vw C n k p, vw C n k' q] ∧ Fa n ∧ k.natAbs ≤ 4 ∧ Fit n p ∧ Fit n q ∧ Sz 60 p ∧ Sz 60 q ∧ (k = 0 → k' = 0 → Nr n p q) ∧ (¬ Al n k p k' q → Φ .non) ∧ (∀ j e, k = k' → Cw n k p q j e → Φ (pD j e)) ∧ True
theorem eqv_q0 (p : Rat) : PyData.eqv (py (qD p)) (py (qD 0)) = decide (p = 0) := eqv_qD p 0
theorem ok_pair_between (T : Tx w K mg) : FnOk P w K mg base CX0 5 T.f_pair_between T.d_pair_between ["one", "other"] (spP K (P_between T.C_View)) := by
  refine T.F_pair_between.ok sc_pair_between (fun vs H Q E h => len_P h fun ds Φ ⟨_, _, _, _, _, e, _⟩ => by subst e; rfl) (fun cdv A outer s H vs Q E hr h => ?_)
  refine ⟨_, (pss_cons (ps_if (pt_cmpR op_ne (pe_prop (pv 0) T.cl_View T.pr_View_zoom (ok_View_zoom T) (hr.mono (by decide)) T.b_View_zoom .nil pass0 rfl) (pe_prop (pv 1) T.cl_View T.pr_View_zoom (ok_View_zoom T) (hr.mono (by decide)) T.b_View_zoom .nil pass0 rfl) (nomark _)) (pss_one (ps_ret pe_non)) pss_nil) (pss_cons (ps_if (pt_cmpR op_ne (pe_prop (pv 0) T.cl_View T.pr_View_zoom (ok_View_zoom T) (hr.mono (by decide)) T.b_View_zoom .nil pass0 rfl) pe_int (nomark _)) (pss_one (ps_ret (pe_call (ok_pair_between_zoomed T) (hr.mono (by decide)) rfl T.mg_pair_between_zoomed T.F_pair_between_zoomed.kp T.b_pair_between_zoomed .nil pass0 (pa_cons (pv 0) (pa_cons (pv 1) pa_nil))))) pss_nil) (pss_cons (ps_if (pt_cmpR (op_eqD (hr.units)) (pe_prop (pv 0) T.cl_View T.pr_View_shift (ok_View_shift T) (hr.mono (by decide)) T.b_View_shift .nil pass0 rfl) (pe_prop (pv 1) T.cl_View T.pr_View_shift (ok_View_shift T) (hr.mono (by decide)) T.b_View_shift .nil pass0 rfl) (nomark _)) (pss_one (ps_ret (pe_tup (pa_cons pe_int (pa_cons (pe_glob (v := .ref T.u_ZERO) rfl T.mg_ZERO rfl) pa_nil))))) pss_nil) (pss_cons (ps_if (PW.pt (pw_or (pt_cmpR (op_eqD (hr.units)) (pe_prop (pv 0) T.cl_View T.pr_View_shift (ok_View_shift T) (hr.mono (by decide)) T.b_View_shift .nil pass0 rfl) (pe_glob (v := .ref T.u_ZERO) rfl T.mg_ZERO rfl) (nomark _)) (pw_or1 (pt_cmpR (op_eqD (hr.units)) (pe_prop (pv 1) T.cl_View T.pr_View_shift (ok_View_shift T) (hr.mono (by decide)) T.b_View_shift .nil pass0 rfl) (pe_glob (v := .ref T.u_ZERO) rfl T.mg_ZERO rfl) (nomark _))))) (pss_one (ps_ret pe_non)) pss_nil) (pss_cons (ps_set (i := 2) sc_pair_between.nd rfl (by first | exact Or.inl rfl | exact Or.inr rfl) (pe_call (ok_exponent_in T) (hr.mono (by decide)) rfl T.mg_exponent_in T.F_exponent_in.kp T.b_exponent_in .nil pass0 (pa_cons (pe_call (ok_ratio_over T) (hr.mono (by decide)) rfl T.mg_ratio_over T.F_ratio_over.kp T.b_ratio_over .nil pass0 (pa_cons (pe_prop (pv 1) T.cl_View T.pr_View_shift (ok_View_shift T) (hr.mono (by decide)) T.b_View_shift .nil pass0 rfl) (pa_cons (pe_prop (pv 0) T.cl_View T.pr_View_shift (ok_View_shift T) (hr.mono (by decide)) T.b_View_shift .nil pass0 rfl) pa_nil))) (pa_cons (pe_prop (pv 0) T.cl_View T.pr_View_factor (ok_View_factor T) (hr.mono (by decide)) T.b_View_factor .nil pass0 rfl) pa_nil)))) (pss_one (ps_ret (pe_ifExp (pt_cmp (pc_isN (pv 2))) pe_non (pe_tup (pa_cons (pv 2) (pa_cons (pe_glob (v := .ref T.u_ZERO) rfl T.mg_ZERO rfl) pa_nil))))))))))), ?_⟩
  refine body_P h fun ds Φ ⟨n, k, u, k', v, e, hn, hk, fu, fv, su, sv, hr, p1, p2, p⟩ => ?_
  subst e
  repeat walk_at "dl"
  refine ⟨_, rfl, fun z => ?_, fun z => ?_⟩
  · have z : k ≠ k' := by simpa using z
    repeat walk_at "dl"
    exact p1 fun h => z h.1
  have z : k = k' := by simpa using z
  subst z
  repeat walk_at "dl"
  refine ⟨_, rfl, fun z => ?_, fun z => ?_⟩
  · have k0 : k ≠ 0 := by simpa using z
    repeat walk_at "dl"
    exact ⟨_, _, _, _, rfl, hn, k0, hk, fu, fv, su, sv, fun h => p1 fun h2 => h h2.2, fun j e h => p2 j e rfl h, trivial⟩
  have k0 : k = 0 := by simpa using z
  subst k0
  have hr := hr rfl rfl
  have ec : Cj n 0 u v ↔ ∃ j : Int, (n : Rat) ^ j * u = v := by unfold Cj; rw [if_pos rfl]
  have hw : ∀ j : Int, (n : Rat) ^ j * u = v → j.natAbs ≤ 24 → Cw n 0 u v j 0 := fun j e h => ⟨by rw [e]; grind, Fit.int n 0, sz0.up (by decide), h, ec.mpr ⟨j, e⟩⟩
  repeat walk_at "dl"
  refine rm_eqD rfl rfl rfl rfl ?_
  rw [eqv_qD]
  refine ⟨_, rfl, fun z => ?_, fun z => ?_⟩
  · have z := of_decide_eq_true z
    repeat walk_at "dl"
    exact p2 0 0 rfl (hw 0 (by rw [Rat.zpow_zero, Rat.one_mul, z]) (by decide))
  have z := of_decide_eq_false z
  repeat walk_at "dl"
  refine rm_eqD rfl rfl rfl rfl ?_
  rw [eqv_q0]
  refine ⟨_, rfl, fun z2 => ?_, fun z2 => ?_⟩
  · have z2 := of_decide_eq_true z2
    repeat walk_at "dl"
    refine p1 fun h => z ?_
    obtain ⟨j, e⟩ := ec.mp h.2
    rw [← e, z2, Rat.mul_zero]
  have z2 := of_decide_eq_false z2
  repeat walk_at "dl"
  refine rm_eqD rfl rfl rfl rfl ?_
  rw [eqv_q0]
  refine ⟨_, rfl, fun z3 => ?_, fun z3 => ?_⟩
  · have z3 := of_decide_eq_true z3
    repeat walk_at "dl"
    refine p1 fun h => z2 ?_
    obtain ⟨j, e⟩ := ec.mp h.2
    have h1 := zz1 hn j
    rw [z3] at e
    generalize (n : Rat) ^ j = x at *
    generalize (n : Rat) ^ (-j) = y at *
    grind
  have z3 := of_decide_eq_false z3
  have hj : ∀ j : Int, v / u = (n : Rat) ^ j ↔ (n : Rat) ^ j * u = v := fun j => by
    generalize (n : Rat) ^ j = x
    constructor
    · intro h
      rw [← h]
      grind
    · intro h
      rw [← h]
      grind
  repeat walk_at "dl"
  refine ⟨_, _, rfl, z2, sv.up (by decide), su.up (by decide), ?_⟩
  repeat walk_at "dl"
  refine ⟨_, _, rfl, hn, fun j ej => ?_, fun hN => ?_, trivial⟩
  · repeat walk_at "dl"
    refine Or.inr ⟨fun z => (by cases z), _, rfl, fun z => (by cases z), fun _ => ?_⟩
    repeat walk_at "dl"
    have e := (hj j).mp ej
    exact p2 j 0 rfl (hw j e (hr z2 j e))
  · repeat walk_at "dl"
    refine Or.inl ⟨rfl, _, rfl, fun _ => ?_, fun z => (by cases z)⟩
    repeat walk_at "dl"
    refine p1 fun h => ?_
    obtain ⟨j, e⟩ := ec.mp h.2
    exact hN j ((hj j).mpr e)
def P_isalike (C : Addr) : List D → (D → Prop) → Prop := fun ds Φ => ∃ (n k : Int) (p : Rat) (k' : Int) (q : Rat), ds = [vw C n k p, vw C n k' q] ∧ Fa n ∧ k.natAbs ≤ 4 ∧ Fit n p ∧ Fit n q ∧ Sz 60 p ∧ Sz 60 q ∧ (k = 0 → k' = 0 → Nr n p q) ∧ ∀ b : Bool, (b = true ↔ Al n k p k' q) → Φ (.bl b)
theorem ok_is_view_alike (T : Tx w K mg) : FnOk P w K mg base CX0 6 T.f_is_view_alike T.d_is_view_alike ["one", "other"] (spP K (P_isalike T.C_View)) := by
  refine T.F_is_view_alike.ok sc_is_view_alike (fun vs H Q E h => len_P h fun ds Φ ⟨_, _, _, _, _, e, _⟩ => by subst e; rfl) (fun cdv A outer s H vs Q E hr h => ?_)
  refine ⟨_, (pss_cons (ps_expr (pe_call (ok_check_views T) (hr.mono (by decide)) rfl T.mg_check_views T.F_check_views.kp T.b_check_views .nil pass0 (pa_cons (pv 0) (pa_cons (pv 1) pa_nil)))) (pss_one (ps_ret (pe_cmp (pc_notN (pe_call (ok_pair_between T) (hr.mono (by decide)) rfl T.mg_pair_between T.F_pair_between.kp T.b_pair_between .nil pass0 (pa_cons (pv 0) (pa_cons (pv 1) pa_nil)))))))), ?_⟩
  refine body_P h fun ds Φ ⟨n, k, u, k', v, e, hn, hk, fu, fv, su, sv, hr, p⟩ => ?_
  subst e
  repeat walk_at "dl"
  refine ⟨_, _, _, _, _, rfl, ?_⟩
  repeat walk_at "dl"
  refine ⟨_, _, _, _, _, rfl, hn, hk, fu, fv, su, sv, hr, fun h => ?_, fun j e ek h => ?_, trivial⟩
  · repeat walk_at "dl"
    exact Or.inl ⟨rfl, p _ ⟨fun z => (by cases z), fun z => absurd z h⟩⟩
  · repeat walk_at "dl"
    exact Or.inr ⟨fun z => (by cases z), p _ ⟨fun _ => ⟨ek, h.cj⟩, fun _ => rfl⟩⟩
def P_alike (C : Addr) : List D → (D → Prop) → Prop := fun ds Φ => ∃ (n k : Int) (p : Rat) (k' : Int) (q : Rat), ds = [vw C n k p, vw C n k' q] ∧ Fa n ∧ k.natAbs ≤ 4 ∧ Fit n p ∧ Fit n q ∧ Sz 60 p ∧ Sz 60 q ∧ (k = 0 → k' = 0 → Nr n p q) ∧ (¬ Al n k p k' q → Φ .non) ∧ (∀ j e, k = k' → Cw n k p q j e → Φ (vw C n j e)) ∧ True
theorem ok_view_alike (T : Tx w K mg) : FnOk P w K mg base CX0 6 T.f_view_alike T.d_view_alike ["one", "other"] (spP K (P_alike T.C_View)) := by
  refine T.F_view_alike.ok sc_view_alike (fun vs H Q E h => len_P h fun ds Φ ⟨_, _, _, _, _, e, _⟩ => by subst e; rfl) (fun cdv A outer s H vs Q E hr h => ?_)
  refine ⟨_, (pss_cons (ps_expr (pe_call (ok_check_views T) (hr.mono (by decide)) rfl T.mg_check_views T.F_check_views.kp T.b_check_views .nil pass0 (pa_cons (pv 0) (pa_cons (pv 1) pa_nil)))) (pss_cons (ps_set (i := 2) sc_view_alike.nd rfl (by first | exact Or.inl rfl | exact Or.inr rfl) (pe_call (ok_pair_between T) (hr.mono (by decide)) rfl T.mg_pair_between T.F_pair_between.kp T.b_pair_between .nil pass0 (pa_cons (pv 0) (pa_cons (pv 1) pa_nil)))) (pss_one (ps_ret (pe_ifExp (pt_cmp (pc_isN (pv 2))) pe_non (pe_call (ok_view_of T) (hr.mono (by decide)) rfl T.mg_view_of T.F_view_of.kp T.b_view_of .nil pass0 (pa_cons (pe_prop (pv 0) T.cl_View T.pr_View_factor (ok_View_factor T) (hr.mono (by decide)) T.b_View_factor .nil pass0 rfl) (pa_cons (pv 2) pa_nil)))))))), ?_⟩
  refine body_P h fun ds Φ ⟨n, k, u, k', v, e, hn, hk, fu, fv, su, sv, hr, p1, p2, p⟩ => ?_
  subst e
  repeat walk_at "dl"
  refine ⟨_, _, _, _, _, rfl, ?_⟩
  repeat walk_at "dl"
  refine ⟨_, _, _, _, _, rfl, hn, hk, fu, fv, su, sv, hr, fun h => ?_, fun j e ek h => ?_, trivial⟩
  · repeat walk_at "dl"
    refine Or.inl ⟨rfl, _, rfl, fun _ => ?_, fun z => (by cases z)⟩
    repeat walk_at "dl"
    exact p1 h
  · repeat walk_at "dl"
    refine Or.inr ⟨fun z => (by cases z), _, rfl, fun z => (by cases z), fun _ => ?_⟩
    repeat walk_at "dl"
    exact ⟨_, _, _, rfl, hn, by have := h.j24; omega, h.f, h.s.up (by decide), p2 j e ek h⟩
def P_vundone (C : Addr) : List D → (D → Prop) → Prop := fun ds Φ => ∃ (n k : Int) (q : Rat), ds = [vw C n k q] ∧ Fa n ∧ k.natAbs ≤ 400 ∧ Fit n q ∧ Sz 80 q ∧ Φ (vw C n (-k) (-((n : Rat) ^ (-k) * q)))
theorem ok_view_undone (T : Tx w K mg) : FnOk P w K mg base CX0 7 T.f_view_undone T.d_view_undone ["one"] (spP K (P_vundone T.C_View)) := by
  refine T.F_view_undone.ok sc_view_undone (fun vs H Q E h => len_P h fun ds Φ ⟨_, _, _, e, _⟩ => by subst e; rfl) (fun cdv A outer s H vs Q E hr h => ?_)
  refine ⟨_, (pss_one (ps_ret (pe_call (ok_view_often T) (hr.mono (by decide)) rfl T.mg_view_often T.F_view_often.kp T.b_view_often .nil pass0 (pa_cons (pv 0) (pa_cons (pe_un un_neg pe_int) pa_nil))))), ?_⟩
  refine body_P h fun ds Φ ⟨n, k, q, e, hn, hk, hf, hq, p⟩ => ?_
  subst e
  repeat walk_at "dl"
  refine ⟨_, _, _, _, rfl, hn, hk, by omega, hf, hq, (Bk.lit 1 (by decide)).up (by decide), ?_⟩
  rw [qoft_neg hn, show k * -1 = -k by omega]
  exact p
theorem kb_is_view_alike_0_other_one (T : Tx w K mg) : KBn K T.d_is_view_alike ["one", "other"] 0 ["other", "one"] (fun us ws => permU [1, 0] (us ++ ws)) (fun vs zs => permV [1, 0] (vs ++ zs)) :=
  kbn [1, 0] T.F_is_view_alike fun kV doc pm an cdv ct us ws h1 h2 => match us, ws, h1, h2 with | [], [_, _], _, _ => rfl
theorem kb_view_alike_0_other_one (T : Tx w K mg) : KBn K T.d_view_alike ["one", "other"] 0 ["other", "one"] (fun us ws => permU [1, 0] (us ++ ws)) (fun vs zs => permV [1, 0] (vs ++ zs)) :=
  kbn [1, 0] T.F_view_alike fun kV doc pm an cdv ct us ws h1 h2 => match us, ws, h1, h2 with | [], [_, _], _, _ => rfl
theorem op_eqDK {X : Cx} {K : PySem.W.Frag} (hK : X.K = K) (hu : X.A.units + 64 < cLine) : OpR X (compareOp .Eq) (rEqD K) := by
  subst hK
  exact op_eqD hu
theorem purL_ints : ∀ xs : List Int, purL (xs.map D.int) = true
  | [] => rfl
  | x :: xs => by
    show (pur (.int x) && purL (xs.map D.int)) = true
    rw [purL_ints xs]
    rfl
theorem can_ints : ∀ xs : List Int, PyData.canLayAll0 (pyL (xs.map D.int)) = true
  | [] => by simp [pyL, PyData.canLayAll0]
  | x :: xs => by
    have := can_ints xs
    simp [pyL, py, PyData.canLayAll0, PyData.canLay0] at this ⊢
    exact this
theorem dep_ints : ∀ xs : List Int, PyData.depthAll (pyL (xs.map D.int)) = 0
  | [] => by simp [pyL, PyData.depthAll]
  | x :: xs => by
    have := dep_ints xs
    simp [pyL, py, PyData.depthAll, PyData.depth] at this ⊢
    exact this
theorem shaped_ints (xs : List Int) : SeqAt.shaped (py (.lst (xs.map D.int))) = true := by
  unfold SeqAt.shaped
  have h1 : (py (.lst (xs.map D.int))).canLay0 = true := by
    show (PyData.list (pyL (xs.map D.int))).canLay0 = true
    rw [PyData.canLay0]
    exact can_ints xs
  have h2 : (py (.lst (xs.map D.int))).depth = 1 := by
    show (PyData.list (pyL (xs.map D.int))).depth = 1
    rw [PyData.depth, dep_ints]
  rw [h1, h2]
  rfl
theorem ne_nil_ints (xs : List Int) : (!PyData.eqv (py (.lst (xs.map D.int))) (py (.lst []))) = decide (xs ≠ []) := by
  cases xs with
  | nil => rfl
  | cons x xs => rfl
def P_can : List D → (D → Prop) → Prop := fun ds Φ => ∃ (n k : Int) (p : Rat) (k' : Int) (q : Rat), ds = [trD n k p, trD n k' q] ∧ Fa n ∧ k.natAbs ≤ 4 ∧ Fit n p ∧ Fit n q ∧ Sz 45 p ∧ Sz 45 q ∧ (k = 0 → k' = 0 → Nr n p q) ∧ ∀ b : Bool, (b = true ↔ Al n k p k' q) → Φ (.bl b)
theorem ok_l_can_be_alike (T : Tx w K mg) : FnOk P w K mg base CX0 4 T.f_l_can_be_alike T.d_l_can_be_alike ["_law_x", "_law_y"] (spP K P_can) := by
  refine T.F_l_can_be_alike.ok sc_l_can_be_alike (fun vs H Q E h => len_P h fun ds Φ ⟨_, _, _, _, _, e, _⟩ => by subst e; rfl) (fun cdv A outer s H vs Q E hr h => ?_)
  refine ⟨_, (pss_cons (ps_if (pt_cmpR op_ne (pe_ix (r := rIxT K) ix_tup (pv 0) pe_int (fun _ _ => rfl)) (pe_ix (r := rIxT K) ix_tup (pv 1) pe_int (fun _ _ => rfl)) (nomark _)) (pss_one (ps_ret pe_bl)) pss_nil) (pss_cons (ps_if (pt_cmpR op_eq (pe_ix (r := rIxT K) ix_tup (pv 0) pe_int (fun _ _ => rfl)) pe_int (nomark _)) (pss_cons (ps_setLc (i := 5) (own := [("_law_j", 4)]) (g := gName 4) (tt := _) rfl sc_l_can_be_alike.nd rfl rfl (sw_true rfl rfl rfl (by decide +kernel)) (pi_range2 rfl T.n_range (pa_cons (pe_un un_neg pe_int) (pa_cons pe_int pa_nil))) (blkOk_by (N := n_l_can_be_alike) (sc := defScope s_l_can_be_alike) (by decide +kernel)) (fun _ _ _ _ _ => pg_name (i := 4) sc_l_can_be_alike.nd rfl (by first | exact Or.inl rfl | exact Or.inr rfl)) (fun _ _ _ _ _ => pts_one (pt_cmpR (op_eqDK (K := K) rfl (hr.units)) (pe_call (ok_l_by T) (hr.mono (by decide)) rfl T.mg_l_by T.F_l_by.kp T.b_l_by .nil pass0 (pa_cons (pe_call (ok_l_power T) (hr.mono (by decide)) rfl T.mg_l_power T.F_l_power.kp T.b_l_power .nil pass0 (pa_cons (pe_ix (r := rIxT K) ix_tup (pv 0) pe_int (fun _ _ => rfl)) (pa_cons (pv 4) pa_nil))) (pa_cons (pe_ix (r := rIxT K) ix_tup (pv 0) pe_int (fun _ _ => rfl)) pa_nil))) (pe_ix (r := rIxT K) ix_tup (pv 1) pe_int (fun _ _ => rfl)) (nomark _))) (fun _ _ _ _ _ => (pv 4))) (pss_one (ps_ret (pe_cmpR (op_neD (hr.units)) (pv 5) (pe_lst pa_nil) (nomark _))))) pss_nil) (pss_cons (ps_set (i := 2) sc_l_can_be_alike.nd rfl (by first | exact Or.inl rfl | exact Or.inr rfl) (pe_call (ok_l_minus T) (hr.mono (by decide)) rfl T.mg_l_minus T.F_l_minus.kp T.b_l_minus .nil pass0 (pa_cons (pe_call (ok_l_power T) (hr.mono (by decide)) rfl T.mg_l_power T.F_l_power.kp T.b_l_power .nil pass0 (pa_cons (pe_ix (r := rIxT K) ix_tup (pv 0) pe_int (fun _ _ => rfl)) (pa_cons (pe_ix (r := rIxT K) ix_tup (pv 0) pe_int (fun _ _ => rfl)) pa_nil))) (pa_cons (pe_tup (pa_cons pe_int (pa_cons pe_int pa_nil))) pa_nil)))) (pss_cons (ps_set (i := 3) sc_l_can_be_alike.nd rfl (by first | exact Or.inl rfl | exact Or.inr rfl) (pe_ifExp (pt_cmpR op_gt (pe_ix (r := rIxT K) ix_tup (pv 2) pe_int (fun _ _ => rfl)) pe_int (nomark _)) (pe_tup (pa_cons (pe_ix (r := rIxT K) ix_tup (pv 2) pe_int (fun _ _ => rfl)) (pa_cons (pe_ix (r := rIxT K) ix_tup (pv 2) pe_int (fun _ _ => rfl)) pa_nil))) (pe_tup (pa_cons (pe_un un_neg (pe_ix (r := rIxT K) ix_tup (pv 2) pe_int (fun _ _ => rfl))) (pa_cons (pe_un un_neg (pe_ix (r := rIxT K) ix_tup (pv 2) pe_int (fun _ _ => rfl))) pa_nil))))) (pss_cons (ps_for PassesOwn.never rfl (pi_range1 rfl T.n_range (pa_cons (pe_callB call_abs rfl T.n_abs boot_abs (pa_cons (pe_ix (r := rIxT K) ix_tup (pv 0) pe_int (fun _ _ => rfl)) pa_nil)) pa_nil)) (pg_name (i := 4) sc_l_can_be_alike.nd rfl (by first | exact Or.inl rfl | exact Or.inr rfl)) (pss_cons (ps_set (i := 6) sc_l_can_be_alike.nd rfl (by first | exact Or.inl rfl | exact Or.inr rfl) (pe_call (ok_l_minus T) (hr.mono (by decide)) rfl T.mg_l_minus T.F_l_minus.kp T.b_l_minus .nil pass0 (pa_cons (pe_ix (r := rIxT K) ix_tup (pv 0) pe_int (fun _ _ => rfl)) (pa_cons (pe_call (ok_l_by T) (hr.mono (by decide)) rfl T.mg_l_by T.F_l_by.kp T.b_l_by .nil pass0 (pa_cons (pe_call (ok_l_power T) (hr.mono (by decide)) rfl T.mg_l_power T.F_l_power.kp T.b_l_power .nil pass0 (pa_cons (pe_ix (r := rIxT K) ix_tup (pv 0) pe_int (fun _ _ => rfl)) (pa_cons (pv 4) pa_nil))) (pa_cons (pe_ix (r := rIxT K) ix_tup (pv 1) pe_int (fun _ _ => rfl)) pa_nil))) pa_nil)))) (pss_one (ps_if (pt_val (pe_call (ok_l_fits T) (hr.mono (by decide)) rfl T.mg_l_fits T.F_l_fits.kp T.b_l_fits .nil pass0 (pa_cons (pe_ix (r := rIxT K) ix_tup (pv 0) pe_int (fun _ _ => rfl)) (pa_cons (pe_call (ok_l_by T) (hr.mono (by decide)) rfl T.mg_l_by T.F_l_by.kp T.b_l_by .nil pass0 (pa_cons (pv 6) (pa_cons (pv 3) pa_nil))) pa_nil)))) (pss_one (ps_ret pe_bl)) pss_nil)))) (pss_one (ps_ret pe_bl))))))), ?_⟩
  refine body_P h fun ds Φ ⟨n, k, u, k', v, e, hn, hk, fu, fv, su, sv, hr, p⟩ => ?_
  subst e
  repeat walk_at "dl"
  refine ⟨_, rfl, fun z => ?_, fun z => ?_⟩
  · have z : k ≠ k' := by simpa using z
    repeat walk_at "dl"
    exact p _ ⟨fun h => (by cases h), fun h => absurd h.1 z⟩
  have z : k = k' := by simpa using z
  subst z
  repeat walk_at "dl"
  refine ⟨_, rfl, fun z => ?_, fun z => ?_⟩
  · have k0 : k = 0 := of_decide_eq_true z
    subst k0
    have hr := hr rfl rfl
    have ec : Cj n 0 u v ↔ ∃ j : Int, (n : Rat) ^ j * u = v := by unfold Cj; rw [if_pos rfl]
    refine sm_seqI fun _ _ => ?_
    refine sm_asg ?_
    refine em_lcR2 (lo := -24) (hi := 25) ?_
    repeat walk_at "dl"
    refine ⟨rfl, by decide, by decide, by decide, by decide, fun i acc l => l = ⟨0, []⟩ ∧ ∃ xs : List Int, acc = xs.map D.int ∧ (xs ≠ [] ↔ ∃ t : Nat, t < i ∧ (n : Rat) ^ (-24 + (t : Int)) * u = v), ⟨rfl, [], rfl, ⟨fun h => absurd rfl h, fun ⟨t, h, _⟩ => absurd h (by omega)⟩⟩, ?_, ?_⟩
    · rintro i acc l hi ⟨e1, xs, e2, hx⟩
      subst e1 e2
      have hi : i < 49 := hi
      repeat walk_at "dl"
      refine ⟨_, _, rfl, hn, by omega, ?_⟩
      repeat walk_at "dl"
      refine ⟨_, _, rfl, (zsz (c := 24) hn (by omega)).up (by decide), su.up (by decide), ?_⟩
      repeat walk_at "dl"
      refine rm_eqD rfl rfl rfl rfl ?_
      rw [eqv_qD]
      refine ⟨_, rfl, fun z => ?_, fun z => ?_⟩
      · have z := of_decide_eq_true z
        repeat walk_at "dl"
        refine ⟨rfl, xs ++ [-24 + (i : Int)], by simp, ⟨fun _ => ⟨i, by omega, z⟩, fun _ => by simp⟩⟩
      · have z := of_decide_eq_false z
        refine ⟨rfl, xs, rfl, hx.trans ⟨fun ⟨t, h, e⟩ => ⟨t, by omega, e⟩, fun ⟨t, h, e⟩ => ⟨t, ?_, e⟩⟩⟩
        rcases Nat.lt_or_ge t i with h2 | h2
        · exact h2
        · exfalso
          rw [show t = i by omega] at e
          exact z e
    · rintro acc l _ ⟨e1, xs, e2, hx⟩
      subst e1 e2
      repeat walk_at "dl"
      refine rm_neD (show pur (.lst (xs.map D.int)) = true from purL_ints xs) rfl (shaped_ints xs) rfl ?_
      rw [ne_nil_ints]
      refine p _ ?_
      rw [decide_eq_true_iff, hx]
      constructor
      · rintro ⟨t, _, e⟩
        exact ⟨rfl, ec.mpr ⟨_, e⟩⟩
      · rintro ⟨_, h⟩
        obtain ⟨j, e⟩ := ec.mp h
        by_cases hu : u = 0
        · refine ⟨24, by decide, ?_⟩
          rw [hu, Rat.mul_zero] at e ⊢
          exact e
        · have := hr hu j e
          refine ⟨(j + 24).toNat, by omega, ?_⟩
          rw [show -24 + (((j + 24).toNat : Nat) : Int) = j by omega]
          exact e
  have k0 : k ≠ 0 := of_decide_eq_false z
  have h0 := g_ne hn k0
  have zk := (zsz hn hk).sub sz1
  have sI0 := sz1.div zk h0
  have eI : (1 : Rat) / ((n : Rat) ^ k - 1) = ((n : Rat) ^ k - 1)⁻¹ := by rw [Rat.div_def, Rat.one_mul]
  rw [eI] at sI0
  have ea : (if k < 0 then -k else k) = ((k.natAbs : Nat) : Int) := by split <;> omega
  have hL := Cj_rangeL hn k0 (p := u) fv
  refine sm_next ?_
  refine (‹∀ Γ' m, SM _ _ _ Γ' m _ _ → _› : ∀ Γ' m, SM _ _ _ Γ' m _ _ → _) _ _ ?_
  refine sm_cut (fun Γ' m => Γ' = [some (trD n k u), some (trD n k v), some (qD ((n : Rat) ^ k - 1)), none, none, none, none] ∧ m = ⟨0, []⟩) ?_ ?_
  · repeat walk_at "dl"
    refine ⟨_, _, rfl, hn, by omega, ?_⟩
    repeat walk_at "dl"
    refine ⟨_, (1 : Rat), rfl, (zsz hn hk).up (by decide), sz1.up (by decide), ?_⟩
    repeat walk_at "dl"
    exact ⟨rfl, rfl⟩
  rintro Γ' m ⟨e1, e2⟩
  subst e1 e2
  refine sm_cut (fun Γ' m => Γ' = [some (trD n k u), some (trD n k v), some (qD ((n : Rat) ^ k - 1)), some (qD ((n : Rat) ^ k - 1)⁻¹), none, none, none] ∧ m = ⟨0, []⟩) ?_ ?_
  · generalize hS : (n : Rat) ^ k - 1 = S at *
    have hn0 : S.num ≠ 0 := fun h => h0 (Rat.num_eq_zero.mp h)
    repeat walk_at "dl"
    refine ⟨_, rfl, fun z => ?_, fun z => ?_⟩
    · have hz : 0 < S.num := of_decide_eq_true z
      have EB := inv_pos_qD hz
      repeat walk_at "dl"
      rw [EB]
      exact ⟨rfl, rfl⟩
    · have hz : S.num < 0 := by have := of_decide_eq_false z; omega
      have EB := inv_neg_qD hz
      repeat walk_at "dl"
      rw [EB]
      exact ⟨rfl, rfl⟩
  rintro Γ' m ⟨e1, e2⟩
  subst e1 e2
  refine sm_seqI fun _ _ => ?_
  refine sm_forR (c := k.natAbs) ?_
  repeat walk_at "dl"
  rw [ea]
  refine ⟨rfl, by omega, fun i Γ' m => ∃ c4 c6, (∀ t : Nat, t < i → ¬ Fit n ((u - (n : Rat) ^ (t : Int) * v) * ((n : Rat) ^ k - 1)⁻¹)) ∧ Γ' = [some (trD n k u), some (trD n k v), some (qD ((n : Rat) ^ k - 1)), some (qD ((n : Rat) ^ k - 1)⁻¹), c4, none, c6] ∧ m = ⟨0, []⟩, ⟨none, none, fun t ht => absurd ht (by omega), rfl, rfl⟩, ?_, ?_⟩
  · rintro i Γ' m hi ⟨c4, c6, hF, e1, e2⟩
    subst e1 e2
    have ez : (0 : Int) + (i : Int) = i := Int.zero_add _
    have s1 := (zsz (k := (i : Int)) (c := 4) hn (by omega)).mul sv
    have s2 := su.sub s1
    have s3 := (s2.mul sI0).up (show _ ≤ 120 by decide)
    repeat walk_at "dl"
    rw [ez]
    refine ⟨_, _, rfl, hn, by omega, ?_⟩
    repeat walk_at "dl"
    refine ⟨_, _, rfl, (zsz (k := (i : Int)) (c := 4) hn (by omega)).up (by decide), sv.up (by decide), ?_⟩
    repeat walk_at "dl"
    refine ⟨_, _, rfl, su.up (by decide), s1.up (by decide), ?_⟩
    repeat walk_at "dl"
    refine ⟨_, _, rfl, s2.up (by decide), sI0.up (by decide), ?_⟩
    repeat walk_at "dl"
    refine ⟨_, _, rfl, hn, s3, fun b hb => ?_⟩
    refine ⟨_, rfl, fun z => ?_, fun z => ?_⟩
    · repeat walk_at "dl"
      exact p _ ⟨fun _ => ⟨rfl, hL.mpr ⟨i, hi, hb.mp z⟩⟩, fun _ => rfl⟩
    · refine sm_next ⟨_, _, fun t ht => ?_, rfl, rfl⟩
      rcases Nat.lt_or_ge t i with h | h
      · exact hF t h
      · rw [show t = i by omega]
        intro h
        rw [hb.mpr h] at z
        cases z
  · rintro Γ' m ⟨c4, c6, hF, e1, e2⟩
    subst e1 e2
    repeat walk_at "dl"
    refine p _ ⟨fun h => (by cases h), fun h => ?_⟩
    obtain ⟨i, hi, h2⟩ := hL.mp h.2
    exact absurd h2 (hF i hi)
/-- a small view -/
structure Vx (n k : Int) (q : Rat) : Prop where
  k4 : k.natAbs ≤ 4
  f : Fit n q
  s : Sz 10 q
  w : Ws n 3 10 q
/-- the other one of two -/
structure Zx (n k : Int) (p : Rat) (ky : Int) (qy : Rat) : Prop where
  k4 : ky.natAbs ≤ 4
  f : Fit n qy
  s : Sz 45 qy
  r : k = 0 → ky = 0 → Nr n p qy
theorem Ws.add {n : Int} (hn : Fa n) {s t : Nat} {p q : Rat} (h : Ws n s t p) (l : Ws n s t q) : Ws n s (t + 1) (p + q) := by
  obtain ⟨a, ea, la⟩ := h
  obtain ⟨b, eb, lb⟩ := l
  refine ⟨a + b, by rw [Rat.mul_add, ea, eb, Rat.intCast_add], ?_⟩
  rw [Nat.pow_succ]
  have h2 : n.natAbs ^ t * 2 ≤ n.natAbs ^ t * n.natAbs := Nat.mul_le_mul_left _ (by have := hn.lo; omega)
  omega
/-- what a shift is moved by -/
structure Mt (n : Int) (t : Rat) : Prop where
  f : Fit n t
  s : Sz 2 t
  a : Ws n 3 10 t
  m : ∀ p, Ws n 3 10 p → Ws n 4 13 (p * t)
theorem mt_int {n : Int} (hn : Fa n) {z : Int} (h : z.natAbs ≤ 3) : Mt n (z : Rat) := by
  have h4 : 2 ^ 2 ≤ n.natAbs ^ 2 := Nat.pow_le_pow_left (by have := hn.lo; omega) 2
  refine ⟨Fit.int n z, ⟨by rw [Rat.num_intCast]; unfold Bk; omega, by rw [Rat.den_intCast]; unfold Bk; decide⟩, ?_, ?_⟩
  · have : Ws n 0 2 (z : Rat) := ⟨z, by rw [show ((0 : Nat) : Int) = 0 from rfl, Rat.zpow_zero, Rat.one_mul], by omega⟩
    exact (((this.up hn).up hn).up hn).mono hn (by decide)
  · rintro p ⟨a, ea, la⟩
    have : Ws n 3 12 (p * (z : Rat)) := by
      refine ⟨a * z, by rw [← Rat.mul_assoc, ea, Rat.intCast_mul], ?_⟩
      rw [Int.natAbs_mul, show 12 = 10 + 2 from rfl, Nat.pow_add]
      have l1 : a.natAbs * z.natAbs ≤ a.natAbs * n.natAbs ^ 2 := Nat.mul_le_mul_left _ (by omega)
      have l2 : a.natAbs * n.natAbs ^ 2 < n.natAbs ^ 10 * n.natAbs ^ 2 := Nat.mul_lt_mul_of_pos_right la (by omega)
      omega
    exact this.up hn
theorem mt_inv {n : Int} (hn : Fa n) : Mt n (Rat.divInt 1 n) := by
  have n2 := hn.lo
  have n5 := hn.hi
  have e : Rat.divInt 1 n = (n : Rat) ^ (-1 : Int) := by
    have := pow_neg_q n 1
    rw [Int.pow_succ, Int.pow_zero, Int.one_mul] at this
    exact this
  refine ⟨by rw [e]; exact Fit.zpow hn _, (Sz.of (j := 1) (by unfold Bk; decide) (by unfold Bk; omega) (by omega)).up (by decide), ?_, ?_⟩
  · refine ⟨n ^ 2, ?_, ?_⟩
    · rw [e, ← zz hn, ← pow_q']
      rfl
    · rw [Int.natAbs_pow]
      exact Nat.pow_lt_pow_right (by omega) (by decide)
  · rintro p ⟨a, ea, la⟩
    have : Ws n 4 10 (p * Rat.divInt 1 n) := by
      refine ⟨a, ?_, la⟩
      rw [← ea, e, show ((4 : Nat) : Int) = ((3 : Nat) : Int) + 1 from rfl, zz hn]
      have h1 := zz1 hn 1
      rw [show (-1 : Int) = -1 from rfl] at h1 ⊢
      generalize (n : Rat) ^ (1 : Int) = x at *
      generalize (n : Rat) ^ (-1 : Int) = y at *
      generalize (n : Rat) ^ ((3 : Nat) : Int) = u at *
      grind
    exact this.mono hn (by decide)
theorem conj_shift {n k kc : Int} {q qc : Rat} (hn : Fa n) : qc + (n : Rat) ^ kc * q + (n : Rat) ^ (kc + k) * -((n : Rat) ^ (-kc) * qc) = qc + (n : Rat) ^ kc * q - (n : Rat) ^ k * qc := by
  have h1 := zz1 hn kc
  rw [zz hn]
  generalize (n : Rat) ^ kc = x at *
  generalize (n : Rat) ^ (-kc) = y at *
  generalize (n : Rat) ^ k = u at *
  grind
theorem conj_zx {n k kc : Int} {q qc : Rat} (hn : Fa n) (hk : k.natAbs ≤ 4) (f1 : Fit n q) (s1 : Sz 10 q) (hc : kc.natAbs ≤ 4) (f2 : Fit n qc) (s2 : Sz 10 qc) : Zx n k q (kc + k + -kc) (qc + (n : Rat) ^ kc * q + (n : Rat) ^ (kc + k) * -((n : Rat) ^ (-kc) * qc)) := by
  rw [conj_shift hn, show kc + k + -kc = k by omega]
  refine ⟨hk, ?_, ?_, fun e _ => ?_⟩
  · rw [Rat.sub_eq_add_neg]
    exact (f2.add ((Fit.zpow hn _).mul f1)).add ((Fit.zpow hn _).mul f2).neg
  · exact ((s2.add ((zsz hn hc).mul s1)).sub ((zsz hn hk).mul s2)).up (by decide)
  · subst e
    have : qc + (n : Rat) ^ kc * q - (n : Rat) ^ (0 : Int) * qc = (n : Rat) ^ kc * q := by
      rw [Rat.zpow_zero]
      grind
    rw [this]
    exact nr_pow hn (by omega)
def P_other : List D → Nat → (D → Nat → Prop) → Prop := fun ds N Φ => ∃ (n k : Int) (q : Rat), ds = [trD n k q] ∧ Fa n ∧ Vx n k q ∧ N + 7 ≤ 1000000 ∧ ∀ (m : Nat) (ky : Int) (qy : Rat), m ≤ N + 7 → Zx n k q ky qy → Φ (trD n ky qy) m
theorem ok_l_other (T : Tx w K mg) : FnOk P w K mg base CX0 5 T.f_l_other T.d_l_other ["_law_tub_here", "_law_x"] (spV K P_other) := by
  refine T.F_l_other.ok sc_l_other (fun vs H Q E h => len_V h fun ds n Φ ⟨_, _, _, e, _⟩ => by subst e; rfl) (fun cdv A outer s H vs Q E hr h => ?_)
  refine ⟨_, (pss_cons (ps_par (i := 2) (j := 3) rfl sc_l_other.nd rfl rfl (by decide) rfl rfl (pa_cons (pe_call (ok_l_ladle T) (hr.mono (by decide)) rfl T.mg_l_ladle T.F_l_ladle.kp T.b_l_ladle .nil pass0 (pa_cons (pv 0) (pa_cons pe_int pa_nil))) (pa_cons (pe_call (ok_l_small T) (hr.mono (by decide)) rfl T.mg_l_small T.F_l_small.kp T.b_l_small .nil pass0 (pa_cons (pv 0) (pa_cons (pe_ix (r := rIxT K) ix_tup (pv 1) pe_int (fun _ _ => rfl)) pa_nil))) pa_nil)) rfl) (pss_cons (ps_if (pt_cmpR op_lt (pv 2) pe_int (nomark _)) (pss_one (ps_ret (pe_call (ok_l_then T) (hr.mono (by decide)) rfl T.mg_l_then T.F_l_then.kp T.b_l_then .nil pass0 (pa_cons (pe_call (ok_l_then T) (hr.mono (by decide)) rfl T.mg_l_then T.F_l_then.kp T.b_l_then .nil pass0 (pa_cons (pv 3) (pa_cons (pv 1) pa_nil))) (pa_cons (pe_call (ok_l_undone T) (hr.mono (by decide)) rfl T.mg_l_undone T.F_l_undone.kp T.b_l_undone .nil pass0 (pa_cons (pv 3) pa_nil)) pa_nil))))) pss_nil) (pss_cons (ps_if (pt_cmpR op_eq (pv 2) pe_int (nomark _)) (pss_one (ps_ret (pe_tup (pa_cons (pe_ix (r := rIxT K) ix_tup (pv 1) pe_int (fun _ _ => rfl)) (pa_cons (pe_ix (r := rIxT K) ix_tup (pv 1) pe_int (fun _ _ => rfl)) (pa_cons (pe_call (ok_l_plus T) (hr.mono (by decide)) rfl T.mg_l_plus T.F_l_plus.kp T.b_l_plus .nil pass0 (pa_cons (pe_ix (r := rIxT K) ix_tup (pv 1) pe_int (fun _ _ => rfl)) (pa_cons (pe_call (ok_l_any_of T) (hr.mono (by decide)) rfl T.mg_l_any_of T.F_l_any_of.kp T.b_l_any_of .nil pass0 (pa_cons (pv 0) (pa_cons (pe_lst (pa_cons (pe_tup (pa_cons pe_int (pa_cons pe_int pa_nil))) (pa_cons (pe_tup (pa_cons (pe_un un_neg pe_int) (pa_cons pe_int pa_nil))) (pa_cons (pe_tup (pa_cons pe_int (pa_cons (pe_ix (r := rIxT K) ix_tup (pv 1) pe_int (fun _ _ => rfl)) pa_nil))) (pa_cons (pe_tup (pa_cons pe_int (pa_cons pe_int pa_nil))) pa_nil))))) pa_nil))) pa_nil))) pa_nil)))))) pss_nil) (pss_cons (ps_if (pt_cmpR op_eq (pv 2) pe_int (nomark _)) (pss_one (ps_ret (pe_tup (pa_cons (pe_ix (r := rIxT K) ix_tup (pv 1) pe_int (fun _ _ => rfl)) (pa_cons (pe_ix (r := rIxT K) ix_tup (pv 1) pe_int (fun _ _ => rfl)) (pa_cons (pe_ix (r := rIxT K) ix_tup (pv 3) pe_int (fun _ _ => rfl)) pa_nil)))))) pss_nil) (pss_cons (ps_if (pt_cmpR op_eq (pv 2) pe_int (nomark _)) (pss_one (ps_ret (pv 3))) pss_nil) (pss_one (ps_ret (pe_tup (pa_cons (pe_ix (r := rIxT K) ix_tup (pv 1) pe_int (fun _ _ => rfl)) (pa_cons (pe_ix (r := rIxT K) ix_tup (pv 1) pe_int (fun _ _ => rfl)) (pa_cons (pe_call (ok_l_by T) (hr.mono (by decide)) rfl T.mg_l_by T.F_l_by.kp T.b_l_by .nil pass0 (pa_cons (pe_ix (r := rIxT K) ix_tup (pv 1) pe_int (fun _ _ => rfl)) (pa_cons (pe_call (ok_l_any_of T) (hr.mono (by decide)) rfl T.mg_l_any_of T.F_l_any_of.kp T.b_l_any_of .nil pass0 (pa_cons (pv 0) (pa_cons (pe_lst (pa_cons (pe_tup (pa_cons pe_int (pa_cons (pe_ix (r := rIxT K) ix_tup (pv 1) pe_int (fun _ _ => rfl)) pa_nil))) (pa_cons (pe_tup (pa_cons (pe_un un_neg pe_int) (pa_cons pe_int pa_nil))) (pa_cons (pe_tup (pa_cons pe_int (pa_cons pe_int pa_nil))) (pa_cons (pe_tup (pa_cons pe_int (pa_cons pe_int pa_nil))) pa_nil))))) pa_nil))) pa_nil))) pa_nil))))))))))), ?_⟩
  refine body_V h fun b ds n Φ hn ⟨n', k, q, e, hf, hv, h2, p⟩ => ?_
  subst e
  obtain ⟨k4, f1, s1, w1⟩ := hv
  have n2 := hf.lo
  have n5 := hf.hi
  repeat walk_at "dl"
  refine ⟨_, rfl, _, rfl, by decide, by decide, by omega, fun r r0 r1 => ?_⟩
  repeat walk_at "dl"
  refine ⟨_, rfl, _, rfl, hf, by show n + 1 + 5 ≤ 1000000; omega, fun kc qc c1 c2 c3 c4 => ?_⟩
  repeat walk_at "dl"
  refine ⟨_, rfl, fun z => ?_, fun z => ?_⟩
  · repeat walk_at "dl"
    refine ⟨_, _, _, _, _, _, rfl, hf, by omega, c3.up (by decide), s1.up (by decide), ?_⟩
    repeat walk_at "dl"
    refine ⟨_, _, _, rfl, hf, by omega, c3.up (by decide), ?_⟩
    repeat walk_at "dl"
    refine ⟨_, _, _, _, _, _, rfl, hf, by omega, (c3.add ((zsz hf c1).mul s1)).up (by decide), (szn ((zsz (k := -kc) (c := 4) hf (by omega)).mul c3)).up (by decide), ?_⟩
    exact p _ _ _ (by show n + 1 + 5 ≤ n + 7; omega) (conj_zx hf k4 f1 s1 c1 c2 c3)
  repeat walk_at "dl"
  refine ⟨_, rfl, fun z => ?_, fun z => ?_⟩
  · repeat walk_at "dl"
    refine ⟨_, rfl, _, _, rfl, .lst _, by simp, by simp, by show n + 1 + 5 + 1 ≤ 1000000; omega, fun d hd => ?_⟩
    obtain ⟨t, e, ht⟩ : ∃ t : Rat, d = qD t ∧ Mt n' t := by
      simp only [List.mem_cons, List.not_mem_nil, or_false] at hd
      rcases hd with hd | hd | hd | hd
      · exact ⟨((1 : Int) : Rat), hd, mt_int hf (by decide)⟩
      · exact ⟨((-2 : Int) : Rat), hd, mt_int hf (by decide)⟩
      · exact ⟨_, by rw [hd]; exact one_qD (by omega), mt_inv hf⟩
      · exact ⟨((3 : Int) : Rat), hd, mt_int hf (by decide)⟩
    subst e
    repeat walk_at "dl"
    refine ⟨_, _, rfl, s1.up (by decide), ht.s.up (by decide), ?_⟩
    repeat walk_at "dl"
    exact p _ _ _ (by show n + 1 + 5 + 1 ≤ n + 7; omega) ⟨k4, f1.add ht.f, (s1.add ht.s).up (by decide), fun _ _ => ws_nr hf (w1.mono hf (show 10 ≤ 11 by decide)) (w1.add hf ht.a) (by decide)⟩
  repeat walk_at "dl"
  refine ⟨_, rfl, fun z => ?_, fun z => ?_⟩
  · repeat walk_at "dl"
    exact p _ _ _ (by show n + 1 + 5 ≤ n + 7; omega) ⟨k4, c2, c3.up (by decide), fun _ _ => ws_nr hf w1 c4 (by decide)⟩
  repeat walk_at "dl"
  refine ⟨_, rfl, fun z => ?_, fun z => ?_⟩
  · repeat walk_at "dl"
    exact p _ _ _ (by show n + 1 + 5 ≤ n + 7; omega) ⟨c1, c2, c3.up (by decide), fun _ _ => ws_nr hf w1 c4 (by decide)⟩
  repeat walk_at "dl"
  refine ⟨_, rfl, _, _, rfl, .lst _, by simp, by simp, by show n + 1 + 5 + 1 ≤ 1000000; omega, fun d hd => ?_⟩
  obtain ⟨t, e, ht⟩ : ∃ t : Rat, d = qD t ∧ Mt n' t := by
    simp only [List.mem_cons, List.not_mem_nil, or_false] at hd
    rcases hd with hd | hd | hd | hd
    · exact ⟨_, by rw [hd]; exact one_qD (by omega), mt_inv hf⟩
    · exact ⟨((-1 : Int) : Rat), hd, mt_int hf (by decide)⟩
    · exact ⟨((2 : Int) : Rat), hd, mt_int hf (by decide)⟩
    · exact ⟨((3 : Int) : Rat), hd, mt_int hf (by decide)⟩
  subst e
  repeat walk_at "dl"
  refine ⟨_, _, rfl, s1.up (by decide), ht.s.up (by decide), ?_⟩
  repeat walk_at "dl"
  exact p _ _ _ (by show n + 1 + 5 + 1 ≤ n + 7; omega) ⟨k4, f1.mul ht.f, (s1.mul ht.s).up (by decide), fun _ _ => ws_nr hf ((w1.up hf).mono hf (show 11 ≤ 13 by decide)) (ht.m q w1) (by decide)⟩
theorem cw_conj {n k j : Int} {u v e : Rat} (hn : Fa n) (h : Cw n k u v j e) : j + k + -j = k ∧ e + (n : Rat) ^ j * u + (n : Rat) ^ (j + k) * -((n : Rat) ^ (-j) * e) = v := by
  refine ⟨by omega, ?_⟩
  rw [conj_shift hn]
  exact h.eq
def P_pairR : List D → (D → Prop) → Prop := fun ds Φ => ∃ (n k : Int) (u : Rat) (k' : Int) (v : Rat), ds = [trD n k u, trD n k' v] ∧ Fa n ∧ k.natAbs ≤ 4 ∧ k'.natAbs ≤ 4 ∧ Fit n u ∧ Fit n v ∧ Sz 45 u ∧ Sz 45 v ∧ (k = 0 → k' = 0 → Nr n u v) ∧ Φ (.bl true)
theorem ok_l_pair_right (T : Tx w K mg) : FnG P w K mg base CX0 8 T.f_l_pair_right T.d_l_pair_right ["_law_x", "_law_y"] (spP K P_pairR) := by
  refine okG T.F_l_pair_right sc_l_pair_right (fun vs H Q E h => len_P h fun ds Φ ⟨_, _, _, _, _, e, _⟩ => by subst e; rfl) (fun cdv A outer s H vs Q E hr hgd h => ?_)
  refine ⟨_, (pss_cons (ps_par3 (i := 2) (j := 3) (l := 4) rfl sc_l_pair_right.nd rfl rfl rfl (by decide) (by decide) (by decide) rfl rfl rfl (pa_cons (pe_call (ok_l_view T) (hr.mono (by decide)) rfl T.mg_l_view T.F_l_view.kp T.b_l_view .nil pass0 (pa_cons (pv 0) pa_nil)) (pa_cons (pe_call (ok_l_view T) (hr.mono (by decide)) rfl T.mg_l_view T.F_l_view.kp T.b_l_view .nil pass0 (pa_cons (pv 1) pa_nil)) (pa_cons (pe_call (ok_l_can_be_alike T) (hr.mono (by decide)) rfl T.mg_l_can_be_alike T.F_l_can_be_alike.kp T.b_l_can_be_alike .nil pass0 (pa_cons (pv 0) (pa_cons (pv 1) pa_nil))) pa_nil))) rfl) (pss_cons (ps_set (i := 5) sc_l_pair_right.nd rfl (by first | exact Or.inl rfl | exact Or.inr rfl) (pe_lst (pa_cons (pe_call (ok_is_view_alike T) (hr.mono (by decide)) rfl T.mg_is_view_alike T.F_is_view_alike.kp T.b_is_view_alike .nil pass0 (pa_cons (pv 2) (pa_cons (pv 3) pa_nil))) (pa_cons (pe_callN0 (ok_is_view_alike T) (hr.mono (by decide)) rfl T.mg_is_view_alike T.F_is_view_alike.kp (kb_is_view_alike_0_other_one T) pass0 (pk_cons (pv 3) (pk_cons (pv 2) pk_nil))) (pa_cons (pe_call (ok_is_view_alike T) (hr.mono (by decide)) rfl T.mg_is_view_alike T.F_is_view_alike.kp T.b_is_view_alike .nil pass0 (pa_cons (pv 3) (pa_cons (pv 2) pa_nil))) pa_nil))))) (pss_cons (ps_if (PW.pt (pw_or (pt_cmpR op_ne (pe_callB (call_repr_data hgd (units128 hr)) rfl T.n_repr boot_repr (pa_cons (pv 5) pa_nil)) (pe_callB (call_repr_data hgd (units128 hr)) rfl T.n_repr boot_repr (pa_cons (pe_op op_rep (pe_lst (pa_cons (pv 4) pa_nil)) pe_int) pa_nil)) (nomark _)) (pw_or1 (pt_cmpR op_ne (pe_call (ok_is_view_alike T) (hr.mono (by decide)) rfl T.mg_is_view_alike T.F_is_view_alike.kp T.b_is_view_alike .nil pass0 (pa_cons (pe_call (ok_view_undone T) (hr.mono (by decide)) rfl T.mg_view_undone T.F_view_undone.kp T.b_view_undone .nil pass0 (pa_cons (pv 2) pa_nil)) (pa_cons (pe_call (ok_view_undone T) (hr.mono (by decide)) rfl T.mg_view_undone T.F_view_undone.kp T.b_view_undone .nil pass0 (pa_cons (pv 3) pa_nil)) pa_nil))) (pv 4) (nomark _))))) (pss_one (ps_ret pe_bl)) pss_nil) (pss_cons (ps_for PassesOwn.never rfl (pi_listK (K := K) rfl (pe_lst (pa_cons (pe_call (ok_view_alike T) (hr.mono (by decide)) rfl T.mg_view_alike T.F_view_alike.kp T.b_view_alike .nil pass0 (pa_cons (pv 2) (pa_cons (pv 3) pa_nil))) (pa_cons (pe_callN0 (ok_view_alike T) (hr.mono (by decide)) rfl T.mg_view_alike T.F_view_alike.kp (kb_view_alike_0_other_one T) pass0 (pk_cons (pv 3) (pk_cons (pv 2) pk_nil))) pa_nil)))) (pg_name (i := 6) sc_l_pair_right.nd rfl (by first | exact Or.inl rfl | exact Or.inr rfl)) (pss_one (ps_if (pt_not (pt_val (pv 4))) (pss_one (ps_if (pt_cmp (pc_notN (pv 6))) (pss_one (ps_ret pe_bl)) pss_nil)) (pss_one (ps_if (PW.pt (pw_or (pt_not (pt_val (pe_callB (r := rIsi K) call_isi rfl T.n_isinstance boot_isinstance (pa_cons (pv 6) (pa_cons (pe_glob (v := .ref T.C_View) rfl T.mg_View rfl) pa_nil))))) (pw_or1 (pt_cmpR op_ne (pe_prop (pv 6) T.cl_View T.pr_View_factor (ok_View_factor T) (hr.mono (by decide)) T.b_View_factor .nil pass0 rfl) (pe_ix (r := rIxT K) ix_tup (pv 0) pe_int (fun _ _ => rfl)) (nomark _))))) (pss_one (ps_ret pe_bl)) (pss_one (ps_if (pt_cmpR (op_neD (hr.units)) (pe_call (ok_l_then T) (hr.mono (by decide)) rfl T.mg_l_then T.F_l_then.kp T.b_l_then .nil pass0 (pa_cons (pe_call (ok_l_then T) (hr.mono (by decide)) rfl T.mg_l_then T.F_l_then.kp T.b_l_then .nil pass0 (pa_cons (pe_call (ok_l_seen T) (hr.mono (by decide)) rfl T.mg_l_seen T.F_l_seen.kp T.b_l_seen .nil pass0 (pa_cons (pv 6) pa_nil)) (pa_cons (pv 0) pa_nil))) (pa_cons (pe_call (ok_l_undone T) (hr.mono (by decide)) rfl T.mg_l_undone T.F_l_undone.kp T.b_l_undone .nil pass0 (pa_cons (pe_call (ok_l_seen T) (hr.mono (by decide)) rfl T.mg_l_seen T.F_l_seen.kp T.b_l_seen .nil pass0 (pa_cons (pv 6) pa_nil)) pa_nil)) pa_nil))) (pv 1) (nomark _)) (pss_one (ps_ret pe_bl)) pss_nil))))))) (pss_one (ps_ret pe_bl)))))), ?_⟩
  refine body_P h fun ds Φ ⟨n, k, u, k', v, e, hn, hk, hk', fu, fv, su, sv, hr, p⟩ => ?_
  subst e
  have hr2 : k' = 0 → k = 0 → Nr n v u := fun a b => nr_symm hn (hr b a)
  have hr3 : -k = 0 → -k' = 0 → Nr n (-((n : Rat) ^ (-k) * u)) (-((n : Rat) ^ (-k') * v)) := fun a b => by
    have a' : k = 0 := by omega
    have b' : k' = 0 := by omega
    subst a' b'
    rw [Int.neg_zero, Rat.zpow_zero, Rat.one_mul, Rat.one_mul]
    exact nr_neg (hr rfl rfl)
  refine sm_cut (fun Γ' m => ∃ b : Bool, (b = true ↔ Al n k u k' v) ∧ Γ' = [some (trD n k u), some (trD n k' v), some (vw T.C_View n k u), some (vw T.C_View n k' v), some (.bl b), none, none] ∧ m = ⟨0, []⟩) ?_ ?_
  · repeat walk_at "dl"
    refine ⟨_, _, _, rfl, hn, by omega, fu, su.up (by decide), ?_⟩
    repeat walk_at "dl"
    refine ⟨_, _, _, rfl, hn, by omega, fv, sv.up (by decide), ?_⟩
    repeat walk_at "dl"
    refine ⟨_, _, _, _, _, rfl, hn, hk, fu, fv, su, sv, hr, fun b hb => ?_⟩
    repeat walk_at "dl"
    exact ⟨b, hb, rfl, rfl⟩
  rintro Γ' m ⟨b, hb, e1, e2⟩
  subst e1 e2
  have bb : ∀ {c : Bool}, (c = true ↔ Al n k u k' v) → c = b := fun h => Bool.eq_iff_iff.mpr (h.trans hb.symm)
  refine sm_cut (fun Γ' m => Γ' = [some (trD n k u), some (trD n k' v), some (vw T.C_View n k u), some (vw T.C_View n k' v), some (.bl b), some (.lst [.bl b, .bl b, .bl b]), none] ∧ m = ⟨0, []⟩) ?_ ?_
  · repeat walk_at "dl"
    refine ⟨_, _, _, _, _, rfl, hn, hk, fu, fv, su.up (by decide), sv.up (by decide), hr, fun b1 h1 => ?_⟩
    rw [bb h1]
    repeat walk_at "dl"
    refine ⟨rfl, rfl, _, _, _, _, _, rfl, hn, hk, fu, fv, su.up (by decide), sv.up (by decide), hr, fun b1 h1 => ?_⟩
    rw [bb h1]
    repeat walk_at "dl"
    refine ⟨_, _, _, _, _, rfl, hn, hk', fv, fu, sv.up (by decide), su.up (by decide), hr2, fun b1 h1 => ?_⟩
    rw [bb (h1.trans (al_symm hn))]
    repeat walk_at "dl"
    exact ⟨rfl, rfl⟩
  rintro Γ' m ⟨e1, e2⟩
  subst e1 e2
  have sx := (szn ((zsz (k := -k) (c := 4) hn (by omega)).mul su)).up (show _ ≤ 60 by decide)
  have sy := (szn ((zsz (k := -k') (c := 4) hn (by omega)).mul sv)).up (show _ ≤ 60 by decide)
  have fx := ((Fit.zpow hn (-k)).mul fu).neg
  have fy := ((Fit.zpow hn (-k')).mul fv).neg
  repeat walk_at "dl"
  refine cm_reprD ⟨trivial, trivial, trivial, trivial⟩ ⟨_, .inr rfl⟩ (Nat.le_of_ble_eq_true rfl) (Nat.le_of_ble_eq_true rfl) ?_
  repeat walk_at "dl"
  refine rm_rep (by decide) (by decide) (show 1 ≤ 1000 by decide) ?_
  repeat walk_at "dl"
  refine cm_reprD ⟨trivial, trivial, trivial, trivial⟩ ⟨_, .inr rfl⟩ (Nat.le_of_ble_eq_true rfl) (Nat.le_of_ble_eq_true rfl) ?_
  refine rm_neSS rfl ?_
  refine ⟨_, rfl, fun z => (by cases z), fun _ => ?_⟩
  repeat walk_at "dl"
  refine ⟨_, _, _, rfl, hn, by omega, fu, su.up (by decide), ?_⟩
  repeat walk_at "dl"
  refine ⟨_, _, _, rfl, hn, by omega, fv, sv.up (by decide), ?_⟩
  repeat walk_at "dl"
  refine ⟨_, _, _, _, _, rfl, hn, by omega, fx, fy, sx, sy, hr3, fun b1 h1 => ?_⟩
  rw [bb (h1.trans (al_undone hn))]
  repeat walk_at "dl"
  refine ⟨_, rfl, fun z => absurd z (by simp), fun _ => ?_⟩
  repeat walk_at "dl"
  refine sm_for (wk_list ?_)
  cases b with
  | false =>
    have hN : ¬ Al n k u k' v := fun h => by have := hb.mpr h; cases this
    repeat walk_at "dl"
    refine ⟨_, _, _, _, _, rfl, hn, hk, fu, fv, su.up (by decide), sv.up (by decide), hr, fun _ => ?_, fun j e ek h => absurd ⟨ek, h.cj⟩ hN, trivial⟩
    repeat walk_at "dl"
    refine ⟨rfl, rfl, _, _, _, _, _, rfl, hn, hk, fu, fv, su.up (by decide), sv.up (by decide), hr, fun _ => ?_, fun j e ek h => absurd ⟨ek, h.cj⟩ hN, trivial⟩
    repeat walk_at "dl"
    refine ⟨_, rfl, fun i Γ' m => ∃ c6, Γ' = [some (trD n k u), some (trD n k' v), some (vw T.C_View n k u), some (vw T.C_View n k' v), some (.bl false), some (.lst [.bl false, .bl false, .bl false]), c6] ∧ m = ⟨0, []⟩, ⟨_, rfl, rfl⟩, ?_, ?_⟩
    · rintro i x Γ' l hx ⟨c6, e1, e2⟩
      subst e1 e2
      have ex := two_get hx
      subst ex
      repeat walk_at "dl"
      refine Or.inl ⟨rfl, _, rfl, fun z => (by cases z), fun _ => ?_⟩
      repeat walk_at "dl"
      exact ⟨_, rfl, rfl⟩
    · rintro Γ' m ⟨c6, e1, e2⟩
      subst e1 e2
      repeat walk_at "dl"
      exact p
  | true =>
    have hA : Al n k u k' v := hb.mp rfl
    repeat walk_at "dl"
    refine ⟨_, _, _, _, _, rfl, hn, hk, fu, fv, su.up (by decide), sv.up (by decide), hr, fun h => absurd hA h, fun j1 e1 ek h1 => ?_, trivial⟩
    repeat walk_at "dl"
    refine ⟨rfl, rfl, _, _, _, _, _, rfl, hn, hk, fu, fv, su.up (by decide), sv.up (by decide), hr, fun h => absurd hA h, fun j2 e2 _ h2 => ?_, trivial⟩
    repeat walk_at "dl"
    refine ⟨_, rfl, fun i Γ' m => ∃ c6, Γ' = [some (trD n k u), some (trD n k' v), some (vw T.C_View n k u), some (vw T.C_View n k' v), some (.bl true), some (.lst [.bl true, .bl true, .bl true]), c6] ∧ m = ⟨0, []⟩, ⟨_, rfl, rfl⟩, ?_, ?_⟩
    · rintro i x Γ' l hx ⟨c6, f1, f2⟩
      subst f1 f2
      obtain ⟨j, e, ex, h⟩ : ∃ j e, x = vw T.C_View n j e ∧ Cw n k u v j e := by
        match i, hx with
        | 0, hx => exact ⟨_, _, (Option.some.inj hx).symm, h1⟩
        | 1, hx => exact ⟨_, _, (Option.some.inj hx).symm, h2⟩
        | i + 2, hx => simp at hx
      subst ex
      have j24 := h.j24
      have sE := h.s
      obtain ⟨q1, q2⟩ := cw_conj hn h
      repeat walk_at "dl"
      refine cm_isiC T.isi_View ⟨true, rfl, (fun z => by cases z), fun _ => ?_⟩
      repeat walk_at "dl"
      refine ⟨_, rfl, fun z => absurd z (by simp), fun _ => ?_⟩
      repeat walk_at "dl"
      refine ⟨_, _, _, rfl, ?_⟩
      repeat walk_at "dl"
      refine ⟨_, _, _, _, _, _, rfl, hn, by omega, sE.up (by decide), su.up (by decide), ?_⟩
      repeat walk_at "dl"
      refine ⟨_, _, _, rfl, ?_⟩
      repeat walk_at "dl"
      refine ⟨_, _, _, rfl, hn, by omega, sE.up (by decide), ?_⟩
      repeat walk_at "dl"
      refine ⟨_, _, _, _, _, _, rfl, hn, by omega, (sE.add ((zsz hn j24).mul su)).up (by decide), (szn ((zsz (k := -j) (c := 24) hn (by omega)).mul sE)).up (by decide), ?_⟩
      rw [q1, q2]
      repeat walk_at "dl"
      refine rm_neD rfl rfl rfl rfl ?_
      rw [eqv_trD, decide_eq_true (show k = k' ∧ v = v from ⟨hA.1, rfl⟩)]
      refine ⟨_, rfl, fun z => (by cases z), fun _ => ?_⟩
      repeat walk_at "dl"
      exact ⟨_, rfl, rfl⟩
    · rintro Γ' m ⟨c6, f1, f2⟩
      subst f1 f2
      repeat walk_at "dl"
      exact p
theorem al_self {n k : Int} {u : Rat} : Al n k u k u := by
  refine ⟨rfl, ?_⟩
  unfold Cj
  split
  · exact ⟨0, by rw [Rat.zpow_zero, Rat.one_mul]⟩
  · refine ⟨0, ?_⟩
    unfold Fj
    rw [Rat.zpow_zero, Rat.one_mul, Rat.sub_self, Rat.div_def, Rat.zero_mul]
    exact Fit.int n 0
theorem nr_self {n : Int} (hn : Fa n) (u : Rat) : Nr n u u := by
  have := nr_pow hn (p := u) (c := 0) (by decide)
  rwa [Rat.zpow_zero, Rat.one_mul] at this
theorem part_qD {n r : Int} (hn : Fa n) : D.tup [.int (1 + 2 * n * r), .int n] = qD (Rat.divInt (1 + 2 * n * r) n) := by
  have n0 := hn.ne
  have n2 := hn.lo
  have en := ratio_num (a := 1 + 2 * n * r) (b := n) n0
  have ed := ratio_den (a := 1 + 2 * n * r) (b := n) n0
  have eg : shr (1 + 2 * n * r) n = 1 := by
    rw [shr_posB (by omega)]
    have h1 := gcdI_dvd_l (1 + 2 * n * r) n
    have h2 := gcdI_dvd_r (1 + 2 * n * r) n
    have h3 : gcdI (1 + 2 * n * r) n ∣ 1 := by
      have h4 : gcdI (1 + 2 * n * r) n ∣ 2 * n * r := by
        have h := Int.dvd_trans h2 (Int.dvd_mul_right n (2 * r))
        rw [show n * (2 * r) = 2 * n * r by grind] at h
        exact h
      have := Int.dvd_sub h1 h4
      rwa [show 1 + 2 * n * r - 2 * n * r = 1 by omega] at this
    have h5 := Int.le_of_dvd (by decide) h3
    have h6 := gcdI_pos (a := 1 + 2 * n * r) n0
    omega
  rw [eg, Int.fdiv_one] at en ed
  show _ = D.tup [.int _, .int _]
  rw [← en, ← ed]
/-- two that are held against each other -/
def Pq (n : Int) (x y : D) : Prop := ∃ (k : Int) (u : Rat) (k' : Int) (v : Rat), x = trD n k u ∧ y = trD n k' v ∧ k.natAbs ≤ 4 ∧ k'.natAbs ≤ 4 ∧ Fit n u ∧ Fit n v ∧ Sz 45 u ∧ Sz 45 v ∧ (k = 0 → k' = 0 → Nr n u v)
def P_lright : List D → Nat → (D → Nat → Prop) → Prop := fun ds n Φ => ds = [] ∧ n = 1 ∧ ∀ m, Φ (.bl true) m
theorem ok_l_right (T : Tx w K mg) : FnG P w K mg base CX0 9 T.f_l_right T.d_l_right ["_law_tub_here"] (spV K P_lright) := by
  refine okG T.F_l_right sc_l_right (fun vs H Q E h => len_V h fun ds n Φ ⟨e, _⟩ => by subst e; rfl) (fun cdv A outer s H vs Q E hr hgd h => ?_)
  refine ⟨_, (pss_cons (ps_set (i := 1) sc_l_right.nd rfl (by first | exact Or.inl rfl | exact Or.inr rfl) (pe_call (ok_l_any_of T) (hr.mono (by decide)) rfl T.mg_l_any_of T.F_l_any_of.kp T.b_l_any_of .nil pass0 (pa_cons (pv 0) (pa_cons (pe_lst (pa_cons pe_int (pa_cons pe_int (pa_cons pe_int (pa_cons pe_int pa_nil))))) pa_nil)))) (pss_cons (ps_par (i := 2) (j := 3) rfl sc_l_right.nd rfl rfl (by decide) rfl rfl (pa_cons (pe_call (ok_l_small T) (hr.mono (by decide)) rfl T.mg_l_small T.F_l_small.kp T.b_l_small .nil pass0 (pa_cons (pv 0) (pa_cons (pv 1) pa_nil))) (pa_cons (pe_call (ok_l_small T) (hr.mono (by decide)) rfl T.mg_l_small T.F_l_small.kp T.b_l_small .nil pass0 (pa_cons (pv 0) (pa_cons (pv 1) pa_nil))) pa_nil)) rfl) (pss_cons (ps_set (i := 4) sc_l_right.nd rfl (by first | exact Or.inl rfl | exact Or.inr rfl) (pe_lst (pa_cons (pe_tup (pa_cons (pv 2) (pa_cons (pe_call (ok_l_other T) (hr.mono (by decide)) rfl T.mg_l_other T.F_l_other.kp T.b_l_other .nil pass0 (pa_cons (pv 0) (pa_cons (pv 2) pa_nil))) pa_nil))) pa_nil))) (pss_cons (ps_set (i := 5) sc_l_right.nd rfl (by first | exact Or.inl rfl | exact Or.inr rfl) (pe_tup (pa_cons (pe_op op_add pe_int (pe_op op_mulW (pe_op op_mul pe_int (pv 1)) (pe_call (ok_l_ladle T) (hr.mono (by decide)) rfl T.mg_l_ladle T.F_l_ladle.kp T.b_l_ladle .nil pass0 (pa_cons (pv 0) (pa_cons pe_int pa_nil))))) (pa_cons (pv 1) pa_nil)))) (pss_cons (ps_expr (pe_bm (r := rAppend) PySem.F.plainAttrs_list PySem.F.slot_list_append PySem.F.type_list_append mt_append (pv 4) (pa_cons (pe_tup (pa_cons (pe_tup (pa_cons (pv 1) (pa_cons pe_int (pa_cons (pv 5) pa_nil)))) (pa_cons (pe_tup (pa_cons (pv 1) (pa_cons pe_int (pa_cons (pe_call (ok_l_by T) (hr.mono (by decide)) rfl T.mg_l_by T.F_l_by.kp T.b_l_by .nil pass0 (pa_cons (pv 5) (pa_cons (pe_call (ok_l_power T) (hr.mono (by decide)) rfl T.mg_l_power T.F_l_power.kp T.b_l_power .nil pass0 (pa_cons (pv 1) (pa_cons (pe_call (ok_l_any_of T) (hr.mono (by decide)) rfl T.mg_l_any_of T.F_l_any_of.kp T.b_l_any_of .nil pass0 (pa_cons (pv 0) (pa_cons (pe_lst (pa_cons pe_int (pa_cons (pe_un un_neg pe_int) (pa_cons pe_int (pa_cons (pe_un un_neg pe_int) pa_nil))))) pa_nil))) pa_nil))) pa_nil))) pa_nil)))) pa_nil))) pa_nil))) (pss_cons (ps_set (i := 2) sc_l_right.nd rfl (by first | exact Or.inl rfl | exact Or.inr rfl) (pe_tup (pa_cons (pv 1) (pa_cons (pe_call (ok_l_any_of T) (hr.mono (by decide)) rfl T.mg_l_any_of T.F_l_any_of.kp T.b_l_any_of .nil pass0 (pa_cons (pv 0) (pa_cons (pe_lst (pa_cons pe_int (pa_cons (pe_un un_neg pe_int) (pa_cons pe_int (pa_cons (pe_un un_neg pe_int) pa_nil))))) pa_nil))) (pa_cons (pv 5) pa_nil))))) (pss_cons (ps_set (i := 6) sc_l_right.nd rfl (by first | exact Or.inl rfl | exact Or.inr rfl) (pe_tup (pa_cons (pv 1) (pa_cons pe_int (pa_cons (pe_ix (r := rIxT K) ix_tup (pv 3) pe_int (fun _ _ => rfl)) pa_nil))))) (pss_cons (ps_expr (pe_bm (r := rAppend) PySem.F.plainAttrs_list PySem.F.slot_list_append PySem.F.type_list_append mt_append (pv 4) (pa_cons (pe_tup (pa_cons (pv 2) (pa_cons (pe_call (ok_l_then T) (hr.mono (by decide)) rfl T.mg_l_then T.F_l_then.kp T.b_l_then .nil pass0 (pa_cons (pe_call (ok_l_then T) (hr.mono (by decide)) rfl T.mg_l_then T.F_l_then.kp T.b_l_then .nil pass0 (pa_cons (pv 6) (pa_cons (pv 2) pa_nil))) (pa_cons (pe_call (ok_l_undone T) (hr.mono (by decide)) rfl T.mg_l_undone T.F_l_undone.kp T.b_l_undone .nil pass0 (pa_cons (pv 6) pa_nil)) pa_nil))) pa_nil))) pa_nil))) (pss_cons (ps_for PassesOwn.never rfl (pi_listK (K := K) rfl (pv 4)) (pg_tup rfl (pgs_cons (pg_name (i := 2) sc_l_right.nd rfl (by first | exact Or.inl rfl | exact Or.inr rfl)) (pgs_cons (pg_name (i := 6) sc_l_right.nd rfl (by first | exact Or.inl rfl | exact Or.inr rfl)) pgs_nil))) (pss_one (ps_if (PW.pt (pw_or (pt_not (pt_val (pe_callG (ok_l_pair_right T) (hr.mono (by decide)) hgd rfl T.mg_l_pair_right T.F_l_pair_right.kp T.b_l_pair_right (pa_cons (pv 2) (pa_cons (pv 6) pa_nil))))) (pw_or1 (pt_not (pt_val (pe_call (ok_is_view_alike T) (hr.mono (by decide)) rfl T.mg_is_view_alike T.F_is_view_alike.kp T.b_is_view_alike .nil pass0 (pa_cons (pe_call (ok_l_view T) (hr.mono (by decide)) rfl T.mg_l_view T.F_l_view.kp T.b_l_view .nil pass0 (pa_cons (pv 2) pa_nil)) (pa_cons (pe_call (ok_l_view T) (hr.mono (by decide)) rfl T.mg_l_view T.F_l_view.kp T.b_l_view .nil pass0 (pa_cons (pv 2) pa_nil)) pa_nil)))))))) (pss_one (ps_ret pe_bl)) pss_nil))) (pss_one (ps_ret pe_bl))))))))))), ?_⟩
  refine body_V h fun b ds n Φ hn ⟨e, e0, p⟩ => ?_
  subst e
  subst e0
  repeat walk_at "dl"
  refine ⟨_, rfl, _, _, rfl, .lst _, by simp, by simp, by decide, fun d hd => ?_⟩
  obtain ⟨n', e, hf⟩ : ∃ n' : Int, d = .int n' ∧ Fa n' := by
    simp only [List.mem_cons, List.not_mem_nil, or_false] at hd
    rcases hd with hd | hd | hd | hd <;> exact ⟨_, hd, ⟨by decide, by decide⟩⟩
  subst e
  have n2 := hf.lo
  have n5 := hf.hi
  have bn : Bk 1 n' := hf.small
  refine (‹∀ Γ' m, SM _ _ _ Γ' m _ _ → _› : ∀ Γ' m, SM _ _ _ Γ' m _ _ → _) _ _ ?_
  refine sm_cut (fun Γ' m => ∃ kx qx kc qc t, Vx n' kx qx ∧ Vx n' kc qc ∧ Γ' = [some (.adr b), some (.int n'), some (trD n' kx qx), some (trD n' kc qc), none, none, none] ∧ m = ⟨t, []⟩ ∧ t ≤ 20) ?_ ?_
  · repeat walk_at "dl"
    refine ⟨_, rfl, _, rfl, hf, by decide, fun kx qx x1 x2 x3 x4 => ?_⟩
    repeat walk_at "dl"
    refine ⟨_, rfl, _, rfl, hf, by decide, fun kc qc y1 y2 y3 y4 => ?_⟩
    repeat walk_at "dl"
    exact ⟨_, _, _, _, _, ⟨x1, x2, x3, x4⟩, ⟨y1, y2, y3, y4⟩, rfl, rfl, by decide⟩
  rintro Γ' m ⟨kx, qx, kc, qc, t, hX, hC, e1, e2, ht⟩
  subst e1 e2
  refine sm_seqI fun _ kA => ?_
  refine sm_asgO ?_
  repeat walk_at "dl"
  refine ⟨_, rfl, _, _, _, rfl, hf, hX, by show t + 7 ≤ 1000000; omega, fun m ky qy hm hy => ?_⟩
  have hm : m ≤ t + 7 := hm
  repeat walk_at "dl"
  refine fun pa => kA _ _ ?_
  refine sm_cut (fun Γ' m' => ∃ w t', Fit n' w ∧ Sz 5 w ∧ t' ≤ 30 ∧ Γ' = [some (.adr b), some (.int n'), some (trD n' kx qx), some (trD n' kc qc), some (.adr pa), some (qD w), none] ∧ m' = ⟨t', [(pa, .lst [.tup [trD n' kx qx, trD n' ky qy]])]⟩) ?_ ?_
  · repeat walk_at "dl"
    refine ⟨_, rfl, _, rfl, by decide, by decide, by show m + 1 ≤ 1000000; omega, fun r r0 r1 => ?_⟩
    have br : Bk 1 r := by unfold Bk; omega
    have b2 : Bk 2 (2 * n') := by unfold Bk; omega
    repeat walk_at "dl"
    have hP : D.tup [.int (1 + 2 * n' * r), .int n'] = qD (Rat.divInt (1 + 2 * n' * r) n') := part_qD hf
    have h1 : Bk 5 (1 + 2 * n' * r) := ((Bk.lit (x := 1) 1 (by decide)).add (b2.mul br)).up (by decide)
    exact ⟨_, m + 1, fit_of (m := 1) (by omega) (by rw [Int.pow_succ, Int.pow_zero, Int.one_mul]; exact Int.dvd_refl _), Sz.of h1 (bn.up (by decide)) (by omega), by omega, by rw [← hP]; rfl, rfl⟩
  rintro Γ' m' ⟨w, t', hPf, hPs, ht', e1, e2⟩
  subst e1 e2
  refine sm_seqI fun _ kC => ?_
  refine sm_append (i := 0) (p := pa) (em_var rfl ⟨rfl, ⟨_, rfl⟩, ?_⟩)
  repeat walk_at "dl"
  refine ⟨_, rfl, _, _, rfl, .lst _, by simp, by simp, by show t' + 1 ≤ 1000000; omega, fun d hd => ?_⟩
  obtain ⟨c, e, hc⟩ : ∃ c : Int, d = .int c ∧ c.natAbs ≤ 4 := by
    simp only [List.mem_cons, List.not_mem_nil, or_false] at hd
    rcases hd with hd | hd | hd | hd <;> exact ⟨_, hd, by decide⟩
  subst e
  repeat walk_at "dl"
  refine ⟨_, _, rfl, hf, by omega, ?_⟩
  repeat walk_at "dl"
  refine ⟨_, _, rfl, hPs.up (by decide), (zsz hf hc).up (by decide), ?_⟩
  repeat walk_at "dl"
  refine ⟨_, rfl, by simp, kC _ _ ?_⟩
  refine sm_cut (fun Γ' m' => ∃ k3 t2, k3.natAbs ≤ 4 ∧ k3 ≠ 0 ∧ t2 ≤ 40 ∧ Γ' = [some (.adr b), some (.int n'), some (trD n' k3 w), some (trD n' kc qc), some (.adr pa), some (qD w), none] ∧ m' = ⟨t2, [(pa, .lst [.tup [trD n' kx qx, trD n' ky qy], .tup [trD n' 0 w, trD n' 0 (w * (n' : Rat) ^ c)]])]⟩) ?_ ?_
  · repeat walk_at "dl"
    refine ⟨_, rfl, _, _, rfl, .lst _, by simp, by simp, by show t' + 1 + 1 ≤ 1000000; omega, fun d hd => ?_⟩
    obtain ⟨k3, e, hk3, hk0⟩ : ∃ c : Int, d = .int c ∧ c.natAbs ≤ 4 ∧ c ≠ 0 := by
      simp only [List.mem_cons, List.not_mem_nil, or_false] at hd
      rcases hd with hd | hd | hd | hd <;> exact ⟨_, hd, by decide, by decide⟩
    subst e
    repeat walk_at "dl"
    exact ⟨k3, t' + 1 + 1, hk3, hk0, by omega, rfl, rfl⟩
  rintro Γ' m' ⟨k3, t2, hk3, hk0, ht2, e1, e2⟩
  subst e1 e2
  refine sm_cut (fun Γ' m' => Γ' = [some (.adr b), some (.int n'), some (trD n' k3 w), some (trD n' kc qc), some (.adr pa), some (qD w), some (trD n' 1 qc)] ∧ m' = ⟨t2, [(pa, .lst [.tup [trD n' kx qx, trD n' ky qy], .tup [trD n' 0 w, trD n' 0 (w * (n' : Rat) ^ c)]])]⟩) ?_ ?_
  · repeat walk_at "dl"
    exact ⟨rfl, rfl⟩
  rintro Γ' m' ⟨e1, e2⟩
  subst e1 e2
  refine sm_seqI fun _ kF => ?_
  refine sm_append (i := 0) (p := pa) (em_var rfl ⟨rfl, ⟨_, rfl⟩, ?_⟩)
  have s1 := hC.s
  have f1 := hC.f
  repeat walk_at "dl"
  refine ⟨_, _, _, _, _, _, rfl, hf, by decide, s1.up (by decide), hPs.up (by decide), ?_⟩
  repeat walk_at "dl"
  refine ⟨_, _, _, rfl, hf, by decide, s1.up (by decide), ?_⟩
  repeat walk_at "dl"
  refine ⟨_, _, _, _, _, _, rfl, hf, by omega, (s1.add ((zsz (k := 1) (c := 4) hf (by decide)).mul hPs)).up (by decide), (szn ((zsz (k := -1) (c := 4) hf (by decide)).mul s1)).up (by decide), ?_⟩
  repeat walk_at "dl"
  refine ⟨_, rfl, by simp, kF _ _ ?_⟩
  have hZ := conj_zx (k := k3) (kc := 1) hf hk3 hPf (hPs.up (by decide)) (by decide) f1 s1
  refine sm_told (i := 0) (j := 4) rfl rfl ?_
  refine sm_seqI fun _ _ => ?_
  refine sm_for (wk_list ?_)
  repeat walk_at "dl"
  refine ⟨_, rfl, fun i Γ' m => ∃ c2 c3 c4 c5 c6 t, Γ' = [some (.adr b), some (.int n'), c2, c3, c4, c5, c6] ∧ m = ⟨t, []⟩, ⟨_, _, _, _, _, _, rfl, rfl⟩, ?_, ?_⟩
  · rintro i x Γ' l hx ⟨c2, c3, c4, c5, c6, t, e1, e2⟩
    subst e1 e2
    obtain ⟨x0, y0, ex, k, u, k', v, ex0, ey0, g1, g2, g3, g4, g5, g6, g7⟩ : ∃ x0 y0, x = .tup [x0, y0] ∧ Pq n' x0 y0 := by
      match i, hx with
      | 0, hx => exact ⟨_, _, (Option.some.inj hx).symm, _, _, _, _, rfl, rfl, hX.k4, hy.k4, hX.f, hy.f, hX.s.up (by decide), hy.s, hy.r⟩
      | 1, hx => exact ⟨_, _, (Option.some.inj hx).symm, _, _, _, _, rfl, rfl, by decide, by decide, hPf, hPf.mul (Fit.zpow hf c), hPs.up (by decide), (hPs.mul (zsz hf hc)).up (by decide), fun _ _ => by rw [Rat.mul_comm]; exact nr_pow hf (by omega)⟩
      | 2, hx => exact ⟨_, _, (Option.some.inj hx).symm, _, _, _, _, rfl, rfl, hk3, hZ.k4, hPf, hZ.f, hPs.up (by decide), hZ.s, fun a _ => absurd a hk0⟩
      | i + 3, hx => simp at hx
    subst ex ex0 ey0
    repeat walk_at "dl"
    refine ⟨_, _, _, _, _, rfl, hf, g1, g2, g3, g4, g5, g6, g7, ?_⟩
    refine ⟨_, rfl, fun z => (by cases z), fun _ => ?_⟩
    repeat walk_at "dl"
    refine ⟨_, _, _, rfl, hf, by omega, g3, g5.up (by decide), ?_⟩
    repeat walk_at "dl"
    refine ⟨_, _, _, rfl, hf, by omega, g3, g5.up (by decide), ?_⟩
    repeat walk_at "dl"
    refine ⟨_, _, _, _, _, rfl, hf, g1, g3, g3, g5.up (by decide), g5.up (by decide), fun _ _ => nr_self hf u, fun b1 h1 => ?_⟩
    rw [h1.mpr al_self]
    refine ⟨_, rfl, fun z => (by cases z), fun _ => ?_⟩
    repeat walk_at "dl"
    exact ⟨_, _, _, _, _, _, rfl, rfl⟩
  rintro Γ' m ⟨c2, c3, c4, c5, c6, t, e1, e2⟩
  subst e1 e2
  repeat walk_at "dl"
  exact p _
theorem ok_law (T : Tx w K mg) : FnG P w K mg base CX0 10 T.f_law T.d_law ["_law_cells"] (spP K P_law) := by
  refine okG T.F_law sc_law (fun vs H Q E h => len_P h fun ds Φ ⟨_, e, _⟩ => by subst e; rfl) (fun cdv A outer s H vs Q E hr hgd h => ?_)
  refine ⟨_, (pss_one (ps_ret (pe_callB (r := rAll K) (cr_all rfl) rfl T.n_all boot_all (pa_cons (pe_lc (own := [("_law_at", 1)]) (g := gName 1) (tt := tYes) rfl sc_law.nd (pi_range1 rfl T.n_range (pa_cons pe_int pa_nil)) (blkOk_by (N := n_law) (sc := defScope s_law) (by decide +kernel)) (fun _ _ _ _ _ => pg_name (i := 1) sc_law.nd rfl (by first | exact Or.inl rfl | exact Or.inr rfl)) (fun _ _ _ _ _ => pts_nil) (fun _ _ _ _ _ => (pe_callG (ok_l_right T) (hr.mono (by decide)) hgd rfl T.mg_l_right T.F_l_right.kp T.b_l_right (pa_cons (pe_call (ok_l_tub T) (hr.mono (by decide)) rfl T.mg_l_tub T.F_l_tub.kp T.b_l_tub .nil pass0 (pa_cons (pv 0) (pa_cons (pv 1) pa_nil))) pa_nil)))) pa_nil)))), ?_⟩
  refine body_P h fun ds Φ ⟨ns, e, hl, p⟩ => ?_
  subst e
  repeat walk_at "dl"
  refine em_lcR (c := 2) ?_
  repeat walk_at "dl"
  refine ⟨rfl, by decide, fun i acc l => l = ⟨0, []⟩ ∧ acc = List.replicate i (.bl true), ⟨rfl, rfl⟩, ?_, ?_⟩
  · rintro i acc l hi ⟨e1, e2⟩
    subst e1 e2
    refine tm_yes ⟨fun _ => ?_, fun z => (by cases z)⟩
    refine em_fresh ?_
    repeat walk_at "dl"
    rw [Int.zero_add]
    exact ⟨ns, i, rfl, by omega, hl, rfl, rfl, fun _ => ⟨rfl, by rw [List.replicate_succ']⟩⟩
  · rintro acc l _ ⟨e1, e2⟩
    subst e1 e2
    repeat walk_at "dl"
    exact cm_all [true, true] rfl p
end

theorem all_mk {w : World} {K : PySem.W.Frag} {h : Heap} {mg : Str → Option Value} {fa f0 f1 f2 f3 f4 f5 f6 f7 f8 f9 f10 f11 f12 f13 f14 f15 f16 f17 f18 f19 f20 f21 f22 f23 f24 f25 f26 f27 f28 f29 f30 f31 f32 f33 f34 f35 f36 f37 f38 f39 f40 f41 f42 f43 f44 f45 f46 f47 : Addr} (X : K.In h) (G : h.Ns mainGlobals mg) (hfa : mg "law" = some (.ref fa))
    {od0 od1 od2 od3 od4 od5 od6 od7 od8 od9 od10 od11 od12 od13 od14 od15 od16 od17 od18 od19 od20 od21 od22 od23 od24 od25 od26 od27 od28 od29 od30 od31 od32 od33 od34 od35 od36 od37 od38 od39 od40 od41 od42 od43 od44 od45 od46 od47 an0 an1 an2 an3 an4 an5 an6 an7 an8 an9 an10 an11 an12 an13 an14 an15 an16 an17 an18 an19 an20 an21 an22 an23 an24 an25 an26 an27 an28 an29 an30 an31 an32 an33 an34 an35 an36 an37 an38 an39 an40 an41 an42 an43 an44 an45 an46 an47 : Option Addr} {sl0 sl1 sl2 sl3 sl4 sl5 sl6 sl7 sl8 sl9 sl10 sl11 sl12 sl13 sl14 sl15 sl16 sl17 sl18 sl19 sl20 sl21 sl22 sl23 sl24 sl25 sl26 sl27 sl28 sl29 sl30 sl31 sl32 sl33 sl34 sl35 sl36 sl37 sl38 sl39 sl40 sl41 sl42 sl43 sl44 sl45 sl46 sl47 : Array (Option Value)} {oc0 oc1 oc2 oc3 oc4 oc5 oc6 oc7 oc8 oc9 oc10 oc11 oc12 oc13 oc14 oc15 oc16 oc17 oc18 oc19 oc20 oc21 oc22 oc23 oc24 oc25 oc26 oc27 oc28 oc29 oc30 oc31 oc32 oc33 oc34 oc35 oc36 oc37 oc38 oc39 oc40 oc41 oc42 oc43 oc44 oc45 oc46 oc47 kV0 kV1 kV2 kV3 kV4 kV5 kV6 kV7 kV8 kV9 kV10 kV11 kV12 kV13 kV14 kV15 kV16 kV17 kV18 kV19 kV20 kV21 kV22 kV23 kV24 kV25 kV26 kV27 kV28 kV29 kV30 kV31 kV32 kV33 kV34 kV35 kV36 kV37 kV38 kV39 kV40 kV41 kV42 kV43 kV44 kV45 kV46 kV47 dc0 dc1 dc2 dc3 dc4 dc5 dc6 dc7 dc8 dc9 dc10 dc11 dc12 dc13 dc14 dc15 dc16 dc17 dc18 dc19 dc20 dc21 dc22 dc23 dc24 dc25 dc26 dc27 dc28 dc29 dc30 dc31 dc32 dc33 dc34 dc35 dc36 dc37 dc38 dc39 dc40 dc41 dc42 dc43 dc44 dc45 dc46 dc47 pm0 pm1 pm2 pm3 pm4 pm5 pm6 pm7 pm8 pm9 pm10 pm11 pm12 pm13 pm14 pm15 pm16 pm17 pm18 pm19 pm20 pm21 pm22 pm23 pm24 pm25 pm26 pm27 pm28 pm29 pm30 pm31 pm32 pm33 pm34 pm35 pm36 pm37 pm38 pm39 pm40 pm41 pm42 pm43 pm44 pm45 pm46 pm47 cd0 cd1 cd2 cd3 cd4 cd5 cd6 cd7 cd8 cd9 cd10 cd11 cd12 cd13 cd14 cd15 cd16 cd17 cd18 cd19 cd20 cd21 cd22 cd23 cd24 cd25 cd26 cd27 cd28 cd29 cd30 cd31 cd32 cd33 cd34 cd35 cd36 cd37 cd38 cd39 cd40 cd41 cd42 cd43 cd44 cd45 cd46 cd47 ct0 ct1 ct2 ct3 ct4 ct5 ct6 ct7 ct8 ct9 ct10 ct11 ct12 ct13 ct14 ct15 ct16 ct17 ct18 ct19 ct20 ct21 ct22 ct23 ct24 ct25 ct26 ct27 ct28 ct29 ct30 ct31 ct32 ct33 ct34 ct35 ct36 ct37 ct38 ct39 ct40 ct41 ct42 ct43 ct44 ct45 ct46 ct47 : Value}
    {C_View : Addr}
    {pp_View_factor : Addr} {rp_View_factor : List Value}
    {pp_View_zoom : Addr} {rp_View_zoom : List Value}
    {pp_View_shift : Addr} {rp_View_shift : List Value}
    {t_LEAST_FACTOR : Tok}
    {t_MOST_FACTOR : Tok}
    {t_MOST_ZOOM : Tok}
    {u_ZERO : Addr} {ua_ZERO : Option Addr} {un_ZERO : Nat} {us_ZERO : Array (Option Value)} {tt_ZERO_0 tt_ZERO_1 : Tok}
    (a0 : PySem.W.nsIn K mainGlobals "is_integer" = some (some (.ref f0)))
    (l0 : K.lookup f0 = some ⟨oc0, od0, .func (PySem.W.fnOf "is_integer" "is_integer" (defArgs s_is_integer) (defBody s_is_integer) (defScope s_is_integer) .none kV0 dc0 pm0 an0 cd0 ct0), sl0⟩)
    (c0 : PySem.W.codeIn K cd0 "is_integer" = true)
    (k0 : PySem.W.keepIn K (.ref f0) = true)
    (a1 : PySem.W.nsIn K mainGlobals "check_number" = some (some (.ref f1)))
    (l1 : K.lookup f1 = some ⟨oc1, od1, .func (PySem.W.fnOf "check_number" "check_number" (defArgs s_check_number) (defBody s_check_number) (defScope s_check_number) .none kV1 dc1 pm1 an1 cd1 ct1), sl1⟩)
    (c1 : PySem.W.codeIn K cd1 "check_number" = true)
    (k1 : PySem.W.keepIn K (.ref f1) = true)
    (a2 : PySem.W.nsIn K mainGlobals "is_ratio" = some (some (.ref f2)))
    (l2 : K.lookup f2 = some ⟨oc2, od2, .func (PySem.W.fnOf "is_ratio" "is_ratio" (defArgs s_is_ratio) (defBody s_is_ratio) (defScope s_is_ratio) .none kV2 dc2 pm2 an2 cd2 ct2), sl2⟩)
    (c2 : PySem.W.codeIn K cd2 "is_ratio" = true)
    (k2 : PySem.W.keepIn K (.ref f2) = true)
    (a3 : PySem.W.nsIn K mainGlobals "ratio" = some (some (.ref f3)))
    (l3 : K.lookup f3 = some ⟨oc3, od3, .func (PySem.W.fnOf "ratio" "ratio" (defArgs s_ratio) (defBody s_ratio) (defScope s_ratio) .none kV3 dc3 pm3 an3 cd3 ct3), sl3⟩)
    (c3 : PySem.W.codeIn K cd3 "ratio" = true)
    (k3 : PySem.W.keepIn K (.ref f3) = true)
    (a4 : PySem.W.nsIn K mainGlobals "ratio_less" = some (some (.ref f4)))
    (l4 : K.lookup f4 = some ⟨oc4, od4, .func (PySem.W.fnOf "ratio_less" "ratio_less" (defArgs s_ratio_less) (defBody s_ratio_less) (defScope s_ratio_less) .none kV4 dc4 pm4 an4 cd4 ct4), sl4⟩)
    (c4 : PySem.W.codeIn K cd4 "ratio_less" = true)
    (k4 : PySem.W.keepIn K (.ref f4) = true)
    (a5 : PySem.W.nsIn K mainGlobals "ratio_times" = some (some (.ref f5)))
    (l5 : K.lookup f5 = some ⟨oc5, od5, .func (PySem.W.fnOf "ratio_times" "ratio_times" (defArgs s_ratio_times) (defBody s_ratio_times) (defScope s_ratio_times) .none kV5 dc5 pm5 an5 cd5 ct5), sl5⟩)
    (c5 : PySem.W.codeIn K cd5 "ratio_times" = true)
    (k5 : PySem.W.keepIn K (.ref f5) = true)
    (a6 : PySem.W.nsIn K mainGlobals "ratio_over" = some (some (.ref f6)))
    (l6 : K.lookup f6 = some ⟨oc6, od6, .func (PySem.W.fnOf "ratio_over" "ratio_over" (defArgs s_ratio_over) (defBody s_ratio_over) (defScope s_ratio_over) .none kV6 dc6 pm6 an6 cd6 ct6), sl6⟩)
    (c6 : PySem.W.codeIn K cd6 "ratio_over" = true)
    (k6 : PySem.W.keepIn K (.ref f6) = true)
    (a7 : PySem.W.nsIn K mainGlobals "power_of" = some (some (.ref f7)))
    (l7 : K.lookup f7 = some ⟨oc7, od7, .func (PySem.W.fnOf "power_of" "power_of" (defArgs s_power_of) (defBody s_power_of) (defScope s_power_of) .none kV7 dc7 pm7 an7 cd7 ct7), sl7⟩)
    (c7 : PySem.W.codeIn K cd7 "power_of" = true)
    (k7 : PySem.W.keepIn K (.ref f7) = true)
    (a8 : PySem.W.nsIn K mainGlobals "stripped" = some (some (.ref f8)))
    (l8 : K.lookup f8 = some ⟨oc8, od8, .func (PySem.W.fnOf "stripped" "stripped" (defArgs s_stripped) (defBody s_stripped) (defScope s_stripped) .none kV8 dc8 pm8 an8 cd8 ct8), sl8⟩)
    (c8 : PySem.W.codeIn K cd8 "stripped" = true)
    (k8 : PySem.W.keepIn K (.ref f8) = true)
    (a9 : PySem.W.nsIn K mainGlobals "fits" = some (some (.ref f9)))
    (l9 : K.lookup f9 = some ⟨oc9, od9, .func (PySem.W.fnOf "fits" "fits" (defArgs s_fits) (defBody s_fits) (defScope s_fits) .none kV9 dc9 pm9 an9 cd9 ct9), sl9⟩)
    (c9 : PySem.W.codeIn K cd9 "fits" = true)
    (k9 : PySem.W.keepIn K (.ref f9) = true)
    (a10 : PySem.W.nsIn K mainGlobals "exponent_in" = some (some (.ref f10)))
    (l10 : K.lookup f10 = some ⟨oc10, od10, .func (PySem.W.fnOf "exponent_in" "exponent_in" (defArgs s_exponent_in) (defBody s_exponent_in) (defScope s_exponent_in) .none kV10 dc10 pm10 an10 cd10 ct10), sl10⟩)
    (c10 : PySem.W.codeIn K cd10 "exponent_in" = true)
    (k10 : PySem.W.keepIn K (.ref f10) = true)
    (l11 : K.lookup f11 = some ⟨oc11, od11, .func (PySem.W.fnOf "__init__" "View.__init__" (defArgs s_View_init) (defBody s_View_init) (defScope s_View_init) .none kV11 dc11 pm11 an11 cd11 ct11), sl11⟩)
    (c11 : PySem.W.codeIn K cd11 "View.__init__" = true)
    (k11 : PySem.W.keepIn K (.ref f11) = true)
    (l12 : K.lookup f12 = some ⟨oc12, od12, .func (PySem.W.fnOf "factor" "View.factor" (defArgs s_View_factor) (defBody s_View_factor) (defScope s_View_factor) .none kV12 dc12 pm12 an12 cd12 ct12), sl12⟩)
    (c12 : PySem.W.codeIn K cd12 "View.factor" = true)
    (k12 : PySem.W.keepIn K (.ref f12) = true)
    (l13 : K.lookup f13 = some ⟨oc13, od13, .func (PySem.W.fnOf "zoom" "View.zoom" (defArgs s_View_zoom) (defBody s_View_zoom) (defScope s_View_zoom) .none kV13 dc13 pm13 an13 cd13 ct13), sl13⟩)
    (c13 : PySem.W.codeIn K cd13 "View.zoom" = true)
    (k13 : PySem.W.keepIn K (.ref f13) = true)
    (l14 : K.lookup f14 = some ⟨oc14, od14, .func (PySem.W.fnOf "shift" "View.shift" (defArgs s_View_shift) (defBody s_View_shift) (defScope s_View_shift) .none kV14 dc14 pm14 an14 cd14 ct14), sl14⟩)
    (c14 : PySem.W.codeIn K cd14 "View.shift" = true)
    (k14 : PySem.W.keepIn K (.ref f14) = true)
    (a15 : PySem.W.nsIn K mainGlobals "pair_of" = some (some (.ref f15)))
    (l15 : K.lookup f15 = some ⟨oc15, od15, .func (PySem.W.fnOf "pair_of" "pair_of" (defArgs s_pair_of) (defBody s_pair_of) (defScope s_pair_of) .none kV15 dc15 pm15 an15 cd15 ct15), sl15⟩)
    (c15 : PySem.W.codeIn K cd15 "pair_of" = true)
    (k15 : PySem.W.keepIn K (.ref f15) = true)
    (a16 : PySem.W.nsIn K mainGlobals "view_of" = some (some (.ref f16)))
    (l16 : K.lookup f16 = some ⟨oc16, od16, .func (PySem.W.fnOf "view_of" "view_of" (defArgs s_view_of) (defBody s_view_of) (defScope s_view_of) .none kV16 dc16 pm16 an16 cd16 ct16), sl16⟩)
    (c16 : PySem.W.codeIn K cd16 "view_of" = true)
    (k16 : PySem.W.keepIn K (.ref f16) = true)
    (a17 : PySem.W.nsIn K mainGlobals "check_view" = some (some (.ref f17)))
    (l17 : K.lookup f17 = some ⟨oc17, od17, .func (PySem.W.fnOf "check_view" "check_view" (defArgs s_check_view) (defBody s_check_view) (defScope s_check_view) .none kV17 dc17 pm17 an17 cd17 ct17), sl17⟩)
    (c17 : PySem.W.codeIn K cd17 "check_view" = true)
    (k17 : PySem.W.keepIn K (.ref f17) = true)
    (a18 : PySem.W.nsIn K mainGlobals "check_views" = some (some (.ref f18)))
    (l18 : K.lookup f18 = some ⟨oc18, od18, .func (PySem.W.fnOf "check_views" "check_views" (defArgs s_check_views) (defBody s_check_views) (defScope s_check_views) .none kV18 dc18 pm18 an18 cd18 ct18), sl18⟩)
    (c18 : PySem.W.codeIn K cd18 "check_views" = true)
    (k18 : PySem.W.keepIn K (.ref f18) = true)
    (a19 : PySem.W.nsIn K mainGlobals "scaled" = some (some (.ref f19)))
    (l19 : K.lookup f19 = some ⟨oc19, od19, .func (PySem.W.fnOf "scaled" "scaled" (defArgs s_scaled) (defBody s_scaled) (defScope s_scaled) .none kV19 dc19 pm19 an19 cd19 ct19), sl19⟩)
    (c19 : PySem.W.codeIn K cd19 "scaled" = true)
    (k19 : PySem.W.keepIn K (.ref f19) = true)
    (a20 : PySem.W.nsIn K mainGlobals "growth" = some (some (.ref f20)))
    (l20 : K.lookup f20 = some ⟨oc20, od20, .func (PySem.W.fnOf "growth" "growth" (defArgs s_growth) (defBody s_growth) (defScope s_growth) .none kV20 dc20 pm20 an20 cd20 ct20), sl20⟩)
    (c20 : PySem.W.codeIn K cd20 "growth" = true)
    (k20 : PySem.W.keepIn K (.ref f20) = true)
    (a21 : PySem.W.nsIn K mainGlobals "pair_often" = some (some (.ref f21)))
    (l21 : K.lookup f21 = some ⟨oc21, od21, .func (PySem.W.fnOf "pair_often" "pair_often" (defArgs s_pair_often) (defBody s_pair_often) (defScope s_pair_often) .none kV21 dc21 pm21 an21 cd21 ct21), sl21⟩)
    (c21 : PySem.W.codeIn K cd21 "pair_often" = true)
    (k21 : PySem.W.keepIn K (.ref f21) = true)
    (a22 : PySem.W.nsIn K mainGlobals "view_often" = some (some (.ref f22)))
    (l22 : K.lookup f22 = some ⟨oc22, od22, .func (PySem.W.fnOf "view_often" "view_often" (defArgs s_view_often) (defBody s_view_often) (defScope s_view_often) .none kV22 dc22 pm22 an22 cd22 ct22), sl22⟩)
    (c22 : PySem.W.codeIn K cd22 "view_often" = true)
    (k22 : PySem.W.keepIn K (.ref f22) = true)
    (a23 : PySem.W.nsIn K mainGlobals "view_undone" = some (some (.ref f23)))
    (l23 : K.lookup f23 = some ⟨oc23, od23, .func (PySem.W.fnOf "view_undone" "view_undone" (defArgs s_view_undone) (defBody s_view_undone) (defScope s_view_undone) .none kV23 dc23 pm23 an23 cd23 ct23), sl23⟩)
    (c23 : PySem.W.codeIn K cd23 "view_undone" = true)
    (k23 : PySem.W.keepIn K (.ref f23) = true)
    (a24 : PySem.W.nsIn K mainGlobals "pair_between_zoomed" = some (some (.ref f24)))
    (l24 : K.lookup f24 = some ⟨oc24, od24, .func (PySem.W.fnOf "pair_between_zoomed" "pair_between_zoomed" (defArgs s_pair_between_zoomed) (defBody s_pair_between_zoomed) (defScope s_pair_between_zoomed) .none kV24 dc24 pm24 an24 cd24 ct24), sl24⟩)
    (c24 : PySem.W.codeIn K cd24 "pair_between_zoomed" = true)
    (k24 : PySem.W.keepIn K (.ref f24) = true)
    (a25 : PySem.W.nsIn K mainGlobals "pair_between" = some (some (.ref f25)))
    (l25 : K.lookup f25 = some ⟨oc25, od25, .func (PySem.W.fnOf "pair_between" "pair_between" (defArgs s_pair_between) (defBody s_pair_between) (defScope s_pair_between) .none kV25 dc25 pm25 an25 cd25 ct25), sl25⟩)
    (c25 : PySem.W.codeIn K cd25 "pair_between" = true)
    (k25 : PySem.W.keepIn K (.ref f25) = true)
    (a26 : PySem.W.nsIn K mainGlobals "is_view_alike" = some (some (.ref f26)))
    (l26 : K.lookup f26 = some ⟨oc26, od26, .func (PySem.W.fnOf "is_view_alike" "is_view_alike" (defArgs s_is_view_alike) (defBody s_is_view_alike) (defScope s_is_view_alike) .none kV26 dc26 pm26 an26 cd26 ct26), sl26⟩)
    (c26 : PySem.W.codeIn K cd26 "is_view_alike" = true)
    (k26 : PySem.W.keepIn K (.ref f26) = true)
    (a27 : PySem.W.nsIn K mainGlobals "view_alike" = some (some (.ref f27)))
    (l27 : K.lookup f27 = some ⟨oc27, od27, .func (PySem.W.fnOf "view_alike" "view_alike" (defArgs s_view_alike) (defBody s_view_alike) (defScope s_view_alike) .none kV27 dc27 pm27 an27 cd27 ct27), sl27⟩)
    (c27 : PySem.W.codeIn K cd27 "view_alike" = true)
    (k27 : PySem.W.keepIn K (.ref f27) = true)
    (a28 : PySem.W.nsIn K mainGlobals "_law_tub" = some (some (.ref f28)))
    (l28 : K.lookup f28 = some ⟨oc28, od28, .func (PySem.W.fnOf "_law_tub" "_law_tub" (defArgs s_l_tub) (defBody s_l_tub) (defScope s_l_tub) .none kV28 dc28 pm28 an28 cd28 ct28), sl28⟩)
    (c28 : PySem.W.codeIn K cd28 "_law_tub" = true)
    (k28 : PySem.W.keepIn K (.ref f28) = true)
    (a29 : PySem.W.nsIn K mainGlobals "_law_ladle" = some (some (.ref f29)))
    (l29 : K.lookup f29 = some ⟨oc29, od29, .func (PySem.W.fnOf "_law_ladle" "_law_ladle" (defArgs s_l_ladle) (defBody s_l_ladle) (defScope s_l_ladle) .none kV29 dc29 pm29 an29 cd29 ct29), sl29⟩)
    (c29 : PySem.W.codeIn K cd29 "_law_ladle" = true)
    (k29 : PySem.W.keepIn K (.ref f29) = true)
    (a30 : PySem.W.nsIn K mainGlobals "_law_any_of" = some (some (.ref f30)))
    (l30 : K.lookup f30 = some ⟨oc30, od30, .func (PySem.W.fnOf "_law_any_of" "_law_any_of" (defArgs s_l_any_of) (defBody s_l_any_of) (defScope s_l_any_of) .none kV30 dc30 pm30 an30 cd30 ct30), sl30⟩)
    (c30 : PySem.W.codeIn K cd30 "_law_any_of" = true)
    (k30 : PySem.W.keepIn K (.ref f30) = true)
    (a31 : PySem.W.nsIn K mainGlobals "_law_frac" = some (some (.ref f31)))
    (l31 : K.lookup f31 = some ⟨oc31, od31, .func (PySem.W.fnOf "_law_frac" "_law_frac" (defArgs s_l_frac) (defBody s_l_frac) (defScope s_l_frac) .none kV31 dc31 pm31 an31 cd31 ct31), sl31⟩)
    (c31 : PySem.W.codeIn K cd31 "_law_frac" = true)
    (k31 : PySem.W.keepIn K (.ref f31) = true)
    (a32 : PySem.W.nsIn K mainGlobals "_law_plus" = some (some (.ref f32)))
    (l32 : K.lookup f32 = some ⟨oc32, od32, .func (PySem.W.fnOf "_law_plus" "_law_plus" (defArgs s_l_plus) (defBody s_l_plus) (defScope s_l_plus) .none kV32 dc32 pm32 an32 cd32 ct32), sl32⟩)
    (c32 : PySem.W.codeIn K cd32 "_law_plus" = true)
    (k32 : PySem.W.keepIn K (.ref f32) = true)
    (a33 : PySem.W.nsIn K mainGlobals "_law_by" = some (some (.ref f33)))
    (l33 : K.lookup f33 = some ⟨oc33, od33, .func (PySem.W.fnOf "_law_by" "_law_by" (defArgs s_l_by) (defBody s_l_by) (defScope s_l_by) .none kV33 dc33 pm33 an33 cd33 ct33), sl33⟩)
    (c33 : PySem.W.codeIn K cd33 "_law_by" = true)
    (k33 : PySem.W.keepIn K (.ref f33) = true)
    (a34 : PySem.W.nsIn K mainGlobals "_law_minus" = some (some (.ref f34)))
    (l34 : K.lookup f34 = some ⟨oc34, od34, .func (PySem.W.fnOf "_law_minus" "_law_minus" (defArgs s_l_minus) (defBody s_l_minus) (defScope s_l_minus) .none kV34 dc34 pm34 an34 cd34 ct34), sl34⟩)
    (c34 : PySem.W.codeIn K cd34 "_law_minus" = true)
    (k34 : PySem.W.keepIn K (.ref f34) = true)
    (a35 : PySem.W.nsIn K mainGlobals "_law_power" = some (some (.ref f35)))
    (l35 : K.lookup f35 = some ⟨oc35, od35, .func (PySem.W.fnOf "_law_power" "_law_power" (defArgs s_l_power) (defBody s_l_power) (defScope s_l_power) .none kV35 dc35 pm35 an35 cd35 ct35), sl35⟩)
    (c35 : PySem.W.codeIn K cd35 "_law_power" = true)
    (k35 : PySem.W.keepIn K (.ref f35) = true)
    (a36 : PySem.W.nsIn K mainGlobals "_law_fits" = some (some (.ref f36)))
    (l36 : K.lookup f36 = some ⟨oc36, od36, .func (PySem.W.fnOf "_law_fits" "_law_fits" (defArgs s_l_fits) (defBody s_l_fits) (defScope s_l_fits) .none kV36 dc36 pm36 an36 cd36 ct36), sl36⟩)
    (c36 : PySem.W.codeIn K cd36 "_law_fits" = true)
    (k36 : PySem.W.keepIn K (.ref f36) = true)
    (a37 : PySem.W.nsIn K mainGlobals "_law_then" = some (some (.ref f37)))
    (l37 : K.lookup f37 = some ⟨oc37, od37, .func (PySem.W.fnOf "_law_then" "_law_then" (defArgs s_l_then) (defBody s_l_then) (defScope s_l_then) .none kV37 dc37 pm37 an37 cd37 ct37), sl37⟩)
    (c37 : PySem.W.codeIn K cd37 "_law_then" = true)
    (k37 : PySem.W.keepIn K (.ref f37) = true)
    (a38 : PySem.W.nsIn K mainGlobals "_law_undone" = some (some (.ref f38)))
    (l38 : K.lookup f38 = some ⟨oc38, od38, .func (PySem.W.fnOf "_law_undone" "_law_undone" (defArgs s_l_undone) (defBody s_l_undone) (defScope s_l_undone) .none kV38 dc38 pm38 an38 cd38 ct38), sl38⟩)
    (c38 : PySem.W.codeIn K cd38 "_law_undone" = true)
    (k38 : PySem.W.keepIn K (.ref f38) = true)
    (a39 : PySem.W.nsIn K mainGlobals "_law_shift" = some (some (.ref f39)))
    (l39 : K.lookup f39 = some ⟨oc39, od39, .func (PySem.W.fnOf "_law_shift" "_law_shift" (defArgs s_l_shift) (defBody s_l_shift) (defScope s_l_shift) .none kV39 dc39 pm39 an39 cd39 ct39), sl39⟩)
    (c39 : PySem.W.codeIn K cd39 "_law_shift" = true)
    (k39 : PySem.W.keepIn K (.ref f39) = true)
    (a40 : PySem.W.nsIn K mainGlobals "_law_small" = some (some (.ref f40)))
    (l40 : K.lookup f40 = some ⟨oc40, od40, .func (PySem.W.fnOf "_law_small" "_law_small" (defArgs s_l_small) (defBody s_l_small) (defScope s_l_small) .none kV40 dc40 pm40 an40 cd40 ct40), sl40⟩)
    (c40 : PySem.W.codeIn K cd40 "_law_small" = true)
    (k40 : PySem.W.keepIn K (.ref f40) = true)
    (a41 : PySem.W.nsIn K mainGlobals "_law_view" = some (some (.ref f41)))
    (l41 : K.lookup f41 = some ⟨oc41, od41, .func (PySem.W.fnOf "_law_view" "_law_view" (defArgs s_l_view) (defBody s_l_view) (defScope s_l_view) .none kV41 dc41 pm41 an41 cd41 ct41), sl41⟩)
    (c41 : PySem.W.codeIn K cd41 "_law_view" = true)
    (k41 : PySem.W.keepIn K (.ref f41) = true)
    (a42 : PySem.W.nsIn K mainGlobals "_law_seen" = some (some (.ref f42)))
    (l42 : K.lookup f42 = some ⟨oc42, od42, .func (PySem.W.fnOf "_law_seen" "_law_seen" (defArgs s_l_seen) (defBody s_l_seen) (defScope s_l_seen) .none kV42 dc42 pm42 an42 cd42 ct42), sl42⟩)
    (c42 : PySem.W.codeIn K cd42 "_law_seen" = true)
    (k42 : PySem.W.keepIn K (.ref f42) = true)
    (a43 : PySem.W.nsIn K mainGlobals "_law_can_be_alike" = some (some (.ref f43)))
    (l43 : K.lookup f43 = some ⟨oc43, od43, .func (PySem.W.fnOf "_law_can_be_alike" "_law_can_be_alike" (defArgs s_l_can_be_alike) (defBody s_l_can_be_alike) (defScope s_l_can_be_alike) .none kV43 dc43 pm43 an43 cd43 ct43), sl43⟩)
    (c43 : PySem.W.codeIn K cd43 "_law_can_be_alike" = true)
    (k43 : PySem.W.keepIn K (.ref f43) = true)
    (a44 : PySem.W.nsIn K mainGlobals "_law_other" = some (some (.ref f44)))
    (l44 : K.lookup f44 = some ⟨oc44, od44, .func (PySem.W.fnOf "_law_other" "_law_other" (defArgs s_l_other) (defBody s_l_other) (defScope s_l_other) .none kV44 dc44 pm44 an44 cd44 ct44), sl44⟩)
    (c44 : PySem.W.codeIn K cd44 "_law_other" = true)
    (k44 : PySem.W.keepIn K (.ref f44) = true)
    (a45 : PySem.W.nsIn K mainGlobals "_law_pair_right" = some (some (.ref f45)))
    (l45 : K.lookup f45 = some ⟨oc45, od45, .func (PySem.W.fnOf "_law_pair_right" "_law_pair_right" (defArgs s_l_pair_right) (defBody s_l_pair_right) (defScope s_l_pair_right) .none kV45 dc45 pm45 an45 cd45 ct45), sl45⟩)
    (c45 : PySem.W.codeIn K cd45 "_law_pair_right" = true)
    (k45 : PySem.W.keepIn K (.ref f45) = true)
    (a46 : PySem.W.nsIn K mainGlobals "_law_right" = some (some (.ref f46)))
    (l46 : K.lookup f46 = some ⟨oc46, od46, .func (PySem.W.fnOf "_law_right" "_law_right" (defArgs s_l_right) (defBody s_l_right) (defScope s_l_right) .none kV46 dc46 pm46 an46 cd46 ct46), sl46⟩)
    (c46 : PySem.W.codeIn K cd46 "_law_right" = true)
    (k46 : PySem.W.keepIn K (.ref f46) = true)
    (a47 : PySem.W.nsIn K mainGlobals "law" = some (some (.ref f47)))
    (l47 : K.lookup f47 = some ⟨oc47, od47, .func (PySem.W.fnOf "law" "law" (defArgs s_law) (defBody s_law) (defScope s_law) .none kV47 dc47 pm47 an47 cd47 ct47), sl47⟩)
    (c47 : PySem.W.codeIn K cd47 "law" = true)
    (k47 : PySem.W.keepIn K (.ref f47) = true)
    (aC_View : PySem.W.nsIn K mainGlobals "View" = some (some (.ref C_View)))
    (pg_View : PySem.W.plainGet K C_View Str.empty = true)
    (hd_View : PySem.W.hasDictIn K C_View = true)
    (po_View : PySem.W.plainOver K C_View = true)
    (sa_View : PySem.W.findIn K (.ref C_View) "__setattr__" = some (some (.builtin "object.__setattr__")))
    (mk_View : PySem.W.makesIn K C_View = true)
    (kc_View : PySem.W.keepIn K (.ref C_View) = true)
    (ii_View : PySem.W.findIn K (.ref C_View) "__init__" = some (some (.ref f11)))
    (ij_View : PySem.W.isFn K (.ref f11) = true)
    (pa_View_factor : PySem.W.findIn K (.ref C_View) "factor" = some (some (.ref pp_View_factor)))
    (pb_View_factor : PySem.W.specialIn K (.ref pp_View_factor) "__get__" = some (some (.builtin "property.__get__")))
    (pc_View_factor : PySem.W.takesIn K (.ref pp_View_factor) = some true)
    (pd_View_factor : PySem.W.recIn K pp_View_factor "property" = some (.ref f12 :: rp_View_factor))
    (pa_View_zoom : PySem.W.findIn K (.ref C_View) "zoom" = some (some (.ref pp_View_zoom)))
    (pb_View_zoom : PySem.W.specialIn K (.ref pp_View_zoom) "__get__" = some (some (.builtin "property.__get__")))
    (pc_View_zoom : PySem.W.takesIn K (.ref pp_View_zoom) = some true)
    (pd_View_zoom : PySem.W.recIn K pp_View_zoom "property" = some (.ref f13 :: rp_View_zoom))
    (pa_View_shift : PySem.W.findIn K (.ref C_View) "shift" = some (some (.ref pp_View_shift)))
    (pb_View_shift : PySem.W.specialIn K (.ref pp_View_shift) "__get__" = some (some (.builtin "property.__get__")))
    (pc_View_shift : PySem.W.takesIn K (.ref pp_View_shift) = some true)
    (pd_View_shift : PySem.W.recIn K pp_View_shift "property" = some (.ref f14 :: rp_View_shift))
    (na_View__factor : PySem.W.findIn K (.ref C_View) "_factor" = some none)
    (na_View__zoom : PySem.W.findIn K (.ref C_View) "_zoom" = some none)
    (na_View__shift : PySem.W.findIn K (.ref C_View) "_shift" = some none)
    (ia_View : PySem.W.findIn K (.ref C_View) "__class__" = some (some (.builtin "object.__class__")))
    (ib_View : PySem.W.specialIn K (.builtin "object.__class__") "__get__" = some (some (.builtin "getset_descriptor.__get__")))
    (ic_View : PySem.W.takesIn K (.builtin "object.__class__") = some true)
    (id_View : PySem.W.mroIn K C_View (.type "object") = some true)
    (ci_LEAST_FACTOR : PySem.W.nsIn K mainGlobals "LEAST_FACTOR" = some (some (.int (2) t_LEAST_FACTOR)))
    (ci_MOST_FACTOR : PySem.W.nsIn K mainGlobals "MOST_FACTOR" = some (some (.int (5) t_MOST_FACTOR)))
    (ci_MOST_ZOOM : PySem.W.nsIn K mainGlobals "MOST_ZOOM" = some (some (.int (400) t_MOST_ZOOM)))
    (ta_ZERO : PySem.W.nsIn K mainGlobals "ZERO" = some (some (.ref u_ZERO)))
    (tb_ZERO : K.lookup u_ZERO = some ⟨.type "tuple", ua_ZERO, .seq #[.int (0) tt_ZERO_0, .int (1) tt_ZERO_1] un_ZERO, us_ZERO⟩)
    (gg : PySem.W.nsIn K mainGlobals "gcd" = some (some (.builtin "math.gcd")))
    (n_int : PySem.W.nsIn K mainGlobals "int" = some none)
    (n_bool : PySem.W.nsIn K mainGlobals "bool" = some none)
    (n_tuple : PySem.W.nsIn K mainGlobals "tuple" = some none)
    (n_isinstance : PySem.W.nsIn K mainGlobals "isinstance" = some none)
    (n_len : PySem.W.nsIn K mainGlobals "len" = some none)
    (n_abs : PySem.W.nsIn K mainGlobals "abs" = some none)
    (n_repr : PySem.W.nsIn K mainGlobals "repr" = some none)
    (n_all : PySem.W.nsIn K mainGlobals "all" = some none)
    (n_range : PySem.W.nsIn K mainGlobals "range" = some none)
    (n_divmod : PySem.W.nsIn K mainGlobals "divmod" = some none)
    (n_min : PySem.W.nsIn K mainGlobals "min" = some none)
    (n_max : PySem.W.nsIn K mainGlobals "max" = some none) : ∃ T : Tx w K mg, T.f_law = fa := by
  have e := hfa.symm.trans (PySem.W.mg_of X G a47)
  cases e
  have F0 := fun_mk (st := s_is_integer) l0 c0 k0
  have F1 := fun_mk (st := s_check_number) l1 c1 k1
  have F2 := fun_mk (st := s_is_ratio) l2 c2 k2
  have F3 := fun_mk (st := s_ratio) l3 c3 k3
  have F4 := fun_mk (st := s_ratio_less) l4 c4 k4
  have F5 := fun_mk (st := s_ratio_times) l5 c5 k5
  have F6 := fun_mk (st := s_ratio_over) l6 c6 k6
  have F7 := fun_mk (st := s_power_of) l7 c7 k7
  have F8 := fun_mk (st := s_stripped) l8 c8 k8
  have F9 := fun_mk (st := s_fits) l9 c9 k9
  have F10 := fun_mk (st := s_exponent_in) l10 c10 k10
  have F11 := fun_mk (st := s_View_init) l11 c11 k11
  have F12 := fun_mk (st := s_View_factor) l12 c12 k12
  have F13 := fun_mk (st := s_View_zoom) l13 c13 k13
  have F14 := fun_mk (st := s_View_shift) l14 c14 k14
  have F15 := fun_mk (st := s_pair_of) l15 c15 k15
  have F16 := fun_mk (st := s_view_of) l16 c16 k16
  have F17 := fun_mk (st := s_check_view) l17 c17 k17
  have F18 := fun_mk (st := s_check_views) l18 c18 k18
  have F19 := fun_mk (st := s_scaled) l19 c19 k19
  have F20 := fun_mk (st := s_growth) l20 c20 k20
  have F21 := fun_mk (st := s_pair_often) l21 c21 k21
  have F22 := fun_mk (st := s_view_often) l22 c22 k22
  have F23 := fun_mk (st := s_view_undone) l23 c23 k23
  have F24 := fun_mk (st := s_pair_between_zoomed) l24 c24 k24
  have F25 := fun_mk (st := s_pair_between) l25 c25 k25
  have F26 := fun_mk (st := s_is_view_alike) l26 c26 k26
  have F27 := fun_mk (st := s_view_alike) l27 c27 k27
  have F28 := fun_mk (st := s_l_tub) l28 c28 k28
  have F29 := fun_mk (st := s_l_ladle) l29 c29 k29
  have F30 := fun_mk (st := s_l_any_of) l30 c30 k30
  have F31 := fun_mk (st := s_l_frac) l31 c31 k31
  have F32 := fun_mk (st := s_l_plus) l32 c32 k32
  have F33 := fun_mk (st := s_l_by) l33 c33 k33
  have F34 := fun_mk (st := s_l_minus) l34 c34 k34
  have F35 := fun_mk (st := s_l_power) l35 c35 k35
  have F36 := fun_mk (st := s_l_fits) l36 c36 k36
  have F37 := fun_mk (st := s_l_then) l37 c37 k37
  have F38 := fun_mk (st := s_l_undone) l38 c38 k38
  have F39 := fun_mk (st := s_l_shift) l39 c39 k39
  have F40 := fun_mk (st := s_l_small) l40 c40 k40
  have F41 := fun_mk (st := s_l_view) l41 c41 k41
  have F42 := fun_mk (st := s_l_seen) l42 c42 k42
  have F43 := fun_mk (st := s_l_can_be_alike) l43 c43 k43
  have F44 := fun_mk (st := s_l_other) l44 c44 k44
  have F45 := fun_mk (st := s_l_pair_right) l45 c45 k45
  have F46 := fun_mk (st := s_l_right) l46 c46 k46
  have F47 := fun_mk (st := s_law) l47 c47 k47
  exact ⟨{
    f_is_integer := f0
    d_is_integer := _
    F_is_integer := F0
    b_is_integer := F0.binds (ps := ["value"]) (fun _ _ _ _ _ _ us hl => match us, hl with | [_], _ => rfl)
    mg_is_integer := PySem.W.mg_of X G a0
    f_check_number := f1
    d_check_number := _
    F_check_number := F1
    b_check_number := F1.binds (ps := ["value"]) (fun _ _ _ _ _ _ us hl => match us, hl with | [_], _ => rfl)
    mg_check_number := PySem.W.mg_of X G a1
    f_is_ratio := f2
    d_is_ratio := _
    F_is_ratio := F2
    b_is_ratio := F2.binds (ps := ["value"]) (fun _ _ _ _ _ _ us hl => match us, hl with | [_], _ => rfl)
    mg_is_ratio := PySem.W.mg_of X G a2
    f_ratio := f3
    d_ratio := _
    F_ratio := F3
    b_ratio := F3.binds (ps := ["top", "bottom"]) (fun _ _ _ _ _ _ us hl => match us, hl with | [_, _], _ => rfl)
    mg_ratio := PySem.W.mg_of X G a3
    f_ratio_less := f4
    d_ratio_less := _
    F_ratio_less := F4
    b_ratio_less := F4.binds (ps := ["one", "other"]) (fun _ _ _ _ _ _ us hl => match us, hl with | [_, _], _ => rfl)
    mg_ratio_less := PySem.W.mg_of X G a4
    f_ratio_times := f5
    d_ratio_times := _
    F_ratio_times := F5
    b_ratio_times := F5.binds (ps := ["one", "other"]) (fun _ _ _ _ _ _ us hl => match us, hl with | [_, _], _ => rfl)
    mg_ratio_times := PySem.W.mg_of X G a5
    f_ratio_over := f6
    d_ratio_over := _
    F_ratio_over := F6
    b_ratio_over := F6.binds (ps := ["one", "other"]) (fun _ _ _ _ _ _ us hl => match us, hl with | [_, _], _ => rfl)
    mg_ratio_over := PySem.W.mg_of X G a6
    f_power_of := f7
    d_power_of := _
    F_power_of := F7
    b_power_of := F7.binds (ps := ["base", "exponent"]) (fun _ _ _ _ _ _ us hl => match us, hl with | [_, _], _ => rfl)
    mg_power_of := PySem.W.mg_of X G a7
    f_stripped := f8
    d_stripped := _
    F_stripped := F8
    b_stripped := F8.binds (ps := ["number", "factor"]) (fun _ _ _ _ _ _ us hl => match us, hl with | [_, _], _ => rfl)
    mg_stripped := PySem.W.mg_of X G a8
    f_fits := f9
    d_fits := _
    F_fits := F9
    b_fits := F9.binds (ps := ["value", "factor"]) (fun _ _ _ _ _ _ us hl => match us, hl with | [_, _], _ => rfl)
    mg_fits := PySem.W.mg_of X G a9
    f_exponent_in := f10
    d_exponent_in := _
    F_exponent_in := F10
    b_exponent_in := F10.binds (ps := ["value", "base"]) (fun _ _ _ _ _ _ us hl => match us, hl with | [_, _], _ => rfl)
    mg_exponent_in := PySem.W.mg_of X G a10
    f_View_init := f11
    d_View_init := _
    F_View_init := F11
    b_View_init := F11.binds (ps := ["self", "factor", "zoom", "shift"]) (fun _ _ _ _ _ _ us hl => match us, hl with | [_, _, _, _], _ => rfl)
    f_View_factor := f12
    d_View_factor := _
    F_View_factor := F12
    b_View_factor := F12.binds (ps := ["self"]) (fun _ _ _ _ _ _ us hl => match us, hl with | [_], _ => rfl)
    f_View_zoom := f13
    d_View_zoom := _
    F_View_zoom := F13
    b_View_zoom := F13.binds (ps := ["self"]) (fun _ _ _ _ _ _ us hl => match us, hl with | [_], _ => rfl)
    f_View_shift := f14
    d_View_shift := _
    F_View_shift := F14
    b_View_shift := F14.binds (ps := ["self"]) (fun _ _ _ _ _ _ us hl => match us, hl with | [_], _ => rfl)
    f_pair_of := f15
    d_pair_of := _
    F_pair_of := F15
    b_pair_of := F15.binds (ps := ["view"]) (fun _ _ _ _ _ _ us hl => match us, hl with | [_], _ => rfl)
    mg_pair_of := PySem.W.mg_of X G a15
    f_view_of := f16
    d_view_of := _
    F_view_of := F16
    b_view_of := F16.binds (ps := ["factor", "pair"]) (fun _ _ _ _ _ _ us hl => match us, hl with | [_, _], _ => rfl)
    mg_view_of := PySem.W.mg_of X G a16
    f_check_view := f17
    d_check_view := _
    F_check_view := F17
    b_check_view := F17.binds (ps := ["value"]) (fun _ _ _ _ _ _ us hl => match us, hl with | [_], _ => rfl)
    mg_check_view := PySem.W.mg_of X G a17
    f_check_views := f18
    d_check_views := _
    F_check_views := F18
    b_check_views := F18.binds (ps := ["one", "other"]) (fun _ _ _ _ _ _ us hl => match us, hl with | [_, _], _ => rfl)
    mg_check_views := PySem.W.mg_of X G a18
    f_scaled := f19
    d_scaled := _
    F_scaled := F19
    b_scaled := F19.binds (ps := ["factor", "zoom", "number"]) (fun _ _ _ _ _ _ us hl => match us, hl with | [_, _, _], _ => rfl)
    mg_scaled := PySem.W.mg_of X G a19
    f_growth := f20
    d_growth := _
    F_growth := F20
    b_growth := F20.binds (ps := ["factor", "zoom"]) (fun _ _ _ _ _ _ us hl => match us, hl with | [_, _], _ => rfl)
    mg_growth := PySem.W.mg_of X G a20
    f_pair_often := f21
    d_pair_often := _
    F_pair_often := F21
    b_pair_often := F21.binds (ps := ["factor", "pair", "times"]) (fun _ _ _ _ _ _ us hl => match us, hl with | [_, _, _], _ => rfl)
    mg_pair_often := PySem.W.mg_of X G a21
    f_view_often := f22
    d_view_often := _
    F_view_often := F22
    b_view_often := F22.binds (ps := ["one", "times"]) (fun _ _ _ _ _ _ us hl => match us, hl with | [_, _], _ => rfl)
    mg_view_often := PySem.W.mg_of X G a22
    f_view_undone := f23
    d_view_undone := _
    F_view_undone := F23
    b_view_undone := F23.binds (ps := ["one"]) (fun _ _ _ _ _ _ us hl => match us, hl with | [_], _ => rfl)
    mg_view_undone := PySem.W.mg_of X G a23
    f_pair_between_zoomed := f24
    d_pair_between_zoomed := _
    F_pair_between_zoomed := F24
    b_pair_between_zoomed := F24.binds (ps := ["one", "other"]) (fun _ _ _ _ _ _ us hl => match us, hl with | [_, _], _ => rfl)
    mg_pair_between_zoomed := PySem.W.mg_of X G a24
    f_pair_between := f25
    d_pair_between := _
    F_pair_between := F25
    b_pair_between := F25.binds (ps := ["one", "other"]) (fun _ _ _ _ _ _ us hl => match us, hl with | [_, _], _ => rfl)
    mg_pair_between := PySem.W.mg_of X G a25
    f_is_view_alike := f26
    d_is_view_alike := _
    F_is_view_alike := F26
    b_is_view_alike := F26.binds (ps := ["one", "other"]) (fun _ _ _ _ _ _ us hl => match us, hl with | [_, _], _ => rfl)
    mg_is_view_alike := PySem.W.mg_of X G a26
    f_view_alike := f27
    d_view_alike := _
    F_view_alike := F27
    b_view_alike := F27.binds (ps := ["one", "other"]) (fun _ _ _ _ _ _ us hl => match us, hl with | [_, _], _ => rfl)
    mg_view_alike := PySem.W.mg_of X G a27
    f_l_tub := f28
    d_l_tub := _
    F_l_tub := F28
    b_l_tub := F28.binds (ps := ["_law_cells", "_law_at"]) (fun _ _ _ _ _ _ us hl => match us, hl with | [_, _], _ => rfl)
    mg_l_tub := PySem.W.mg_of X G a28
    f_l_ladle := f29
    d_l_ladle := _
    F_l_ladle := F29
    b_l_ladle := F29.binds (ps := ["_law_tub_here", "_law_upto"]) (fun _ _ _ _ _ _ us hl => match us, hl with | [_, _], _ => rfl)
    mg_l_ladle := PySem.W.mg_of X G a29
    f_l_any_of := f30
    d_l_any_of := _
    F_l_any_of := F30
    b_l_any_of := F30.binds (ps := ["_law_tub_here", "_law_things"]) (fun _ _ _ _ _ _ us hl => match us, hl with | [_, _], _ => rfl)
    mg_l_any_of := PySem.W.mg_of X G a30
    f_l_frac := f31
    d_l_frac := _
    F_l_frac := F31
    b_l_frac := F31.binds (ps := ["_law_top", "_law_bottom"]) (fun _ _ _ _ _ _ us hl => match us, hl with | [_, _], _ => rfl)
    mg_l_frac := PySem.W.mg_of X G a31
    f_l_plus := f32
    d_l_plus := _
    F_l_plus := F32
    b_l_plus := F32.binds (ps := ["_law_near", "_law_far"]) (fun _ _ _ _ _ _ us hl => match us, hl with | [_, _], _ => rfl)
    mg_l_plus := PySem.W.mg_of X G a32
    f_l_by := f33
    d_l_by := _
    F_l_by := F33
    b_l_by := F33.binds (ps := ["_law_near", "_law_far"]) (fun _ _ _ _ _ _ us hl => match us, hl with | [_, _], _ => rfl)
    mg_l_by := PySem.W.mg_of X G a33
    f_l_minus := f34
    d_l_minus := _
    F_l_minus := F34
    b_l_minus := F34.binds (ps := ["_law_near", "_law_far"]) (fun _ _ _ _ _ _ us hl => match us, hl with | [_, _], _ => rfl)
    mg_l_minus := PySem.W.mg_of X G a34
    f_l_power := f35
    d_l_power := _
    F_l_power := F35
    b_l_power := F35.binds (ps := ["_law_n", "_law_k"]) (fun _ _ _ _ _ _ us hl => match us, hl with | [_, _], _ => rfl)
    mg_l_power := PySem.W.mg_of X G a35
    f_l_fits := f36
    d_l_fits := _
    F_l_fits := F36
    b_l_fits := F36.binds (ps := ["_law_n", "_law_part"]) (fun _ _ _ _ _ _ us hl => match us, hl with | [_, _], _ => rfl)
    mg_l_fits := PySem.W.mg_of X G a36
    f_l_then := f37
    d_l_then := _
    F_l_then := F37
    b_l_then := F37.binds (ps := ["_law_x", "_law_y"]) (fun _ _ _ _ _ _ us hl => match us, hl with | [_, _], _ => rfl)
    mg_l_then := PySem.W.mg_of X G a37
    f_l_undone := f38
    d_l_undone := _
    F_l_undone := F38
    b_l_undone := F38.binds (ps := ["_law_x"]) (fun _ _ _ _ _ _ us hl => match us, hl with | [_], _ => rfl)
    mg_l_undone := PySem.W.mg_of X G a38
    f_l_shift := f39
    d_l_shift := _
    F_l_shift := F39
    b_l_shift := F39.binds (ps := ["_law_tub_here", "_law_n", "_law_most", "_law_deep"]) (fun _ _ _ _ _ _ us hl => match us, hl with | [_, _, _, _], _ => rfl)
    mg_l_shift := PySem.W.mg_of X G a39
    f_l_small := f40
    d_l_small := _
    F_l_small := F40
    b_l_small := F40.binds (ps := ["_law_tub_here", "_law_n"]) (fun _ _ _ _ _ _ us hl => match us, hl with | [_, _], _ => rfl)
    mg_l_small := PySem.W.mg_of X G a40
    f_l_view := f41
    d_l_view := _
    F_l_view := F41
    b_l_view := F41.binds (ps := ["_law_x"]) (fun _ _ _ _ _ _ us hl => match us, hl with | [_], _ => rfl)
    mg_l_view := PySem.W.mg_of X G a41
    f_l_seen := f42
    d_l_seen := _
    F_l_seen := F42
    b_l_seen := F42.binds (ps := ["_law_view_here"]) (fun _ _ _ _ _ _ us hl => match us, hl with | [_], _ => rfl)
    mg_l_seen := PySem.W.mg_of X G a42
    f_l_can_be_alike := f43
    d_l_can_be_alike := _
    F_l_can_be_alike := F43
    b_l_can_be_alike := F43.binds (ps := ["_law_x", "_law_y"]) (fun _ _ _ _ _ _ us hl => match us, hl with | [_, _], _ => rfl)
    mg_l_can_be_alike := PySem.W.mg_of X G a43
    f_l_other := f44
    d_l_other := _
    F_l_other := F44
    b_l_other := F44.binds (ps := ["_law_tub_here", "_law_x"]) (fun _ _ _ _ _ _ us hl => match us, hl with | [_, _], _ => rfl)
    mg_l_other := PySem.W.mg_of X G a44
    f_l_pair_right := f45
    d_l_pair_right := _
    F_l_pair_right := F45
    b_l_pair_right := F45.binds (ps := ["_law_x", "_law_y"]) (fun _ _ _ _ _ _ us hl => match us, hl with | [_, _], _ => rfl)
    mg_l_pair_right := PySem.W.mg_of X G a45
    f_l_right := f46
    d_l_right := _
    F_l_right := F46
    b_l_right := F46.binds (ps := ["_law_tub_here"]) (fun _ _ _ _ _ _ us hl => match us, hl with | [_], _ => rfl)
    mg_l_right := PySem.W.mg_of X G a46
    f_law := fa
    d_law := _
    F_law := F47
    b_law := F47.binds (ps := ["_law_cells"]) (fun _ _ _ _ _ _ us hl => match us, hl with | [_], _ => rfl)
    mg_law := PySem.W.mg_of X G a47
    C_View := C_View
    mg_View := PySem.W.mg_of X G aC_View
    cl_View := ⟨pg_View, hd_View, po_View, sa_View⟩
    mk_View := ⟨mk_View, ii_View, ij_View, kc_View⟩
    pp_View_factor := pp_View_factor
    pr_View_factor := ⟨pa_View_factor, pb_View_factor, pc_View_factor, rp_View_factor, pd_View_factor⟩
    pp_View_zoom := pp_View_zoom
    pr_View_zoom := ⟨pa_View_zoom, pb_View_zoom, pc_View_zoom, rp_View_zoom, pd_View_zoom⟩
    pp_View_shift := pp_View_shift
    pr_View_shift := ⟨pa_View_shift, pb_View_shift, pc_View_shift, rp_View_shift, pd_View_shift⟩
    na_View__factor := na_View__factor
    na_View__zoom := na_View__zoom
    na_View__shift := na_View__shift
    isi_View := ⟨⟨pg_View, hd_View, po_View, sa_View⟩, ia_View, ib_View, ic_View, id_View⟩
    t_LEAST_FACTOR := t_LEAST_FACTOR
    c_LEAST_FACTOR := PySem.W.mg_of X G ci_LEAST_FACTOR
    t_MOST_FACTOR := t_MOST_FACTOR
    c_MOST_FACTOR := PySem.W.mg_of X G ci_MOST_FACTOR
    t_MOST_ZOOM := t_MOST_ZOOM
    c_MOST_ZOOM := PySem.W.mg_of X G ci_MOST_ZOOM
    u_ZERO := u_ZERO
    mg_ZERO := PySem.W.mg_of X G ta_ZERO
    s_ZERO := fun H => .inr ⟨_, _, _, tb_ZERO, rfl, rfl, (by show 2 ≤ sizeLine; rw [sizeLine_eq]; omega), .cons ⟨_, rfl⟩ (.cons ⟨_, rfl⟩ (.nil))⟩
    g_gcd := PySem.W.mg_of X G gg
    n_int := PySem.W.mg_none_of X G n_int
    n_bool := PySem.W.mg_none_of X G n_bool
    n_tuple := PySem.W.mg_none_of X G n_tuple
    n_isinstance := PySem.W.mg_none_of X G n_isinstance
    n_len := PySem.W.mg_none_of X G n_len
    n_abs := PySem.W.mg_none_of X G n_abs
    n_repr := PySem.W.mg_none_of X G n_repr
    n_all := PySem.W.mg_none_of X G n_all
    n_range := PySem.W.mg_none_of X G n_range
    n_divmod := PySem.W.mg_none_of X G n_divmod
    n_min := PySem.W.mg_none_of X G n_min
    n_max := PySem.W.mg_none_of X G n_max }, rfl⟩

theorem fin {P : Program} {w : World} {K : PySem.W.Frag} {mg : Str → Option Value} {fa : Addr} (h : ∃ T : Tx w K mg, T.f_law = fa) : ∃ fd : FuncData, (∀ (s : Shared) (u : Value), BindsTo s fd ⟨[u], []⟩ [("_law_cells", u)]) ∧ ∀ base : Heap, K.In base → base.Ns mainGlobals mg → FnG P w K mg base CX0 10 fa fd ["_law_cells"] (spP K P_law) := by
  obtain ⟨T, e⟩ := h
  subst e
  refine ⟨T.d_law, fun s u => ?_, fun base _ _ => ok_law T⟩
  obtain ⟨oc, od, kV, doc, pm, an, cdv, ct, osl, e, _⟩ := T.F_law.ex
  rw [e]
  exact .of_eq rfl

end Sl

open PySem PySem.W PyProof.Rows
set_option maxRecDepth 100000 in
set_option maxHeartbeats 0 in
theorem PySem.Challenge.cw_pressworlds_k42_whole_views_alike_holds : PySem.Challenge.rw_pressworlds_k42_whole_views_alike.Holds := by
  w_on; o_law; k_head; (case hw => w_witness2)
  k_fill
  refine DM.walkG (l := PySem.Challenge.rw_pressworlds_k42_whole_views_alike) (k := 10) (x := "_law_cells") rfl rfl ⟨rfl, by decide, by decide⟩ (fun w h Y => PySem.W.kIn_of Y) ?F
  case F =>
    intro w mg fa h KX G hmg
    refine' Sl.fin (Sl.all_mk KX G hmg ?a0 ?l0 ?c0 ?k0 ?a1 ?l1 ?c1 ?k1 ?a2 ?l2 ?c2 ?k2 ?a3 ?l3 ?c3 ?k3 ?a4 ?l4 ?c4 ?k4 ?a5 ?l5 ?c5 ?k5 ?a6 ?l6 ?c6 ?k6 ?a7 ?l7 ?c7 ?k7 ?a8 ?l8 ?c8 ?k8 ?a9 ?l9 ?c9 ?k9 ?a10 ?l10 ?c10 ?k10 ?l11 ?c11 ?k11 ?l12 ?c12 ?k12 ?l13 ?c13 ?k13 ?l14 ?c14 ?k14 ?a15 ?l15 ?c15 ?k15 ?a16 ?l16 ?c16 ?k16 ?a17 ?l17 ?c17 ?k17 ?a18 ?l18 ?c18 ?k18 ?a19 ?l19 ?c19 ?k19 ?a20 ?l20 ?c20 ?k20 ?a21 ?l21 ?c21 ?k21 ?a22 ?l22 ?c22 ?k22 ?a23 ?l23 ?c23 ?k23 ?a24 ?l24 ?c24 ?k24 ?a25 ?l25 ?c25 ?k25 ?a26 ?l26 ?c26 ?k26 ?a27 ?l27 ?c27 ?k27 ?a28 ?l28 ?c28 ?k28 ?a29 ?l29 ?c29 ?k29 ?a30 ?l30 ?c30 ?k30 ?a31 ?l31 ?c31 ?k31 ?a32 ?l32 ?c32 ?k32 ?a33 ?l33 ?c33 ?k33 ?a34 ?l34 ?c34 ?k34 ?a35 ?l35 ?c35 ?k35 ?a36 ?l36 ?c36 ?k36 ?a37 ?l37 ?c37 ?k37 ?a38 ?l38 ?c38 ?k38 ?a39 ?l39 ?c39 ?k39 ?a40 ?l40 ?c40 ?k40 ?a41 ?l41 ?c41 ?k41 ?a42 ?l42 ?c42 ?k42 ?a43 ?l43 ?c43 ?k43 ?a44 ?l44 ?c44 ?k44 ?a45 ?l45 ?c45 ?k45 ?a46 ?l46 ?c46 ?k46 ?a47 ?l47 ?c47 ?k47 ?aC_View ?pg_View ?hd_View ?po_View ?sa_View ?mk_View ?kc_View ?ii_View ?ij_View ?pa_View_factor ?pb_View_factor ?pc_View_factor ?pd_View_factor ?pa_View_zoom ?pb_View_zoom ?pc_View_zoom ?pd_View_zoom ?pa_View_shift ?pb_View_shift ?pc_View_shift ?pd_View_shift ?na_View__factor ?na_View__zoom ?na_View__shift ?ia_View ?ib_View ?ic_View ?id_View ?ci_LEAST_FACTOR ?ci_MOST_FACTOR ?ci_MOST_ZOOM ?ta_ZERO ?tb_ZERO ?gg ?n_int ?n_bool ?n_tuple ?n_isinstance ?n_len ?n_abs ?n_repr ?n_all ?n_range ?n_divmod ?n_min ?n_max)
    (case aC_View => k_is); (case ii_View => k_is); (case pa_View_factor => k_is); (case pd_View_factor => k_is); (case pa_View_zoom => k_is); (case pd_View_zoom => k_is); (case pa_View_shift => k_is); (case pd_View_shift => k_is); (case ta_ZERO => k_is); (case a0 => k_is); (case a1 => k_is); (case a2 => k_is); (case a3 => k_is); (case a4 => k_is); (case a5 => k_is); (case a6 => k_is); (case a7 => k_is); (case a8 => k_is); (case a9 => k_is); (case a10 => k_is); (case a15 => k_is); (case a16 => k_is); (case a17 => k_is); (case a18 => k_is); (case a19 => k_is); (case a20 => k_is); (case a21 => k_is); (case a22 => k_is); (case a23 => k_is); (case a24 => k_is); (case a25 => k_is); (case a26 => k_is); (case a27 => k_is); (case a28 => k_is); (case a29 => k_is); (case a30 => k_is); (case a31 => k_is); (case a32 => k_is); (case a33 => k_is); (case a34 => k_is); (case a35 => k_is); (case a36 => k_is); (case a37 => k_is); (case a38 => k_is); (case a39 => k_is); (case a40 => k_is); (case a41 => k_is); (case a42 => k_is); (case a43 => k_is); (case a44 => k_is); (case a45 => k_is); (case a46 => k_is); (case a47 => k_is); (case l0 => k_is); (case c0 => k_is); (case k0 => k_is); (case l1 => k_is); (case c1 => k_is); (case k1 => k_is); (case l2 => k_is); (case c2 => k_is); (case k2 => k_is); (case l3 => k_is); (case c3 => k_is); (case k3 => k_is); (case l4 => k_is); (case c4 => k_is); (case k4 => k_is); (case l5 => k_is); (case c5 => k_is); (case k5 => k_is); (case l6 => k_is); (case c6 => k_is); (case k6 => k_is); (case l7 => k_is); (case c7 => k_is); (case k7 => k_is); (case l8 => k_is); (case c8 => k_is); (case k8 => k_is); (case l9 => k_is); (case c9 => k_is); (case k9 => k_is); (case l10 => k_is); (case c10 => k_is); (case k10 => k_is); (case l11 => k_is); (case c11 => k_is); (case k11 => k_is); (case l12 => k_is); (case c12 => k_is); (case k12 => k_is); (case l13 => k_is); (case c13 => k_is); (case k13 => k_is); (case l14 => k_is); (case c14 => k_is); (case k14 => k_is); (case l15 => k_is); (case c15 => k_is); (case k15 => k_is); (case l16 => k_is); (case c16 => k_is); (case k16 => k_is); (case l17 => k_is); (case c17 => k_is); (case k17 => k_is); (case l18 => k_is); (case c18 => k_is); (case k18 => k_is); (case l19 => k_is); (case c19 => k_is); (case k19 => k_is); (case l20 => k_is); (case c20 => k_is); (case k20 => k_is); (case l21 => k_is); (case c21 => k_is); (case k21 => k_is); (case l22 => k_is); (case c22 => k_is); (case k22 => k_is); (case l23 => k_is); (case c23 => k_is); (case k23 => k_is); (case l24 => k_is); (case c24 => k_is); (case k24 => k_is); (case l25 => k_is); (case c25 => k_is); (case k25 => k_is); (case l26 => k_is); (case c26 => k_is); (case k26 => k_is); (case l27 => k_is); (case c27 => k_is); (case k27 => k_is); (case l28 => k_is); (case c28 => k_is); (case k28 => k_is); (case l29 => k_is); (case c29 => k_is); (case k29 => k_is); (case l30 => k_is); (case c30 => k_is); (case k30 => k_is); (case l31 => k_is); (case c31 => k_is); (case k31 => k_is); (case l32 => k_is); (case c32 => k_is); (case k32 => k_is); (case l33 => k_is); (case c33 => k_is); (case k33 => k_is); (case l34 => k_is); (case c34 => k_is); (case k34 => k_is); (case l35 => k_is); (case c35 => k_is); (case k35 => k_is); (case l36 => k_is); (case c36 => k_is); (case k36 => k_is); (case l37 => k_is); (case c37 => k_is); (case k37 => k_is); (case l38 => k_is); (case c38 => k_is); (case k38 => k_is); (case l39 => k_is); (case c39 => k_is); (case k39 => k_is); (case l40 => k_is); (case c40 => k_is); (case k40 => k_is); (case l41 => k_is); (case c41 => k_is); (case k41 => k_is); (case l42 => k_is); (case c42 => k_is); (case k42 => k_is); (case l43 => k_is); (case c43 => k_is); (case k43 => k_is); (case l44 => k_is); (case c44 => k_is); (case k44 => k_is); (case l45 => k_is); (case c45 => k_is); (case k45 => k_is); (case l46 => k_is); (case c46 => k_is); (case k46 => k_is); (case l47 => k_is); (case c47 => k_is); (case k47 => k_is); (case pg_View => k_is); (case hd_View => k_is); (case po_View => k_is); (case sa_View => k_is); (case mk_View => k_is); (case kc_View => k_is); (case ij_View => k_is); (case pb_View_factor => k_is); (case pc_View_factor => k_is); (case pb_View_zoom => k_is); (case pc_View_zoom => k_is); (case pb_View_shift => k_is); (case pc_View_shift => k_is); (case na_View__factor => k_is); (case na_View__zoom => k_is); (case na_View__shift => k_is); (case ia_View => k_is); (case ib_View => k_is); (case ic_View => k_is); (case id_View => k_is); (case ci_LEAST_FACTOR => k_is); (case ci_MOST_FACTOR => k_is); (case ci_MOST_ZOOM => k_is); (case tb_ZERO => k_is); (case gg => k_is); (case n_int => k_is); (case n_bool => k_is); (case n_tuple => k_is); (case n_isinstance => k_is); (case n_len => k_is); (case n_abs => k_is); (case n_repr => k_is); (case n_all => k_is); (case n_range => k_is); (case n_divmod => k_is); (case n_min => k_is); (case n_max => k_is)

