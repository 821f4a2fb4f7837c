import PyProof.Rows.All
import Wide.All
import OpenK.AllK
import Wide.FinOn
import HandS.ForMost
import HandS.ForExc
import HandS.OwnEq
import HandS.IsInst
import HandS.Property
import HandS.Defaults
import HandS.MakeKw
import HandS.Wide
import HandS.WideBits
import HandS.NoneIn
import HandS.Style
import HandS.Deep
import HandS.Gcd
import HandS.Walk
import HandS.StrMore
import HandS.FStr
import HandS.ClsMeth
import HandS.Lambda
import HandS.TupAny
import HandS.TupMul
import HandS.MakeKwOnly
import HandS.RaiseMore
import HandS.Rev
import HandS.CallLocal
import HandS.Small
import HandS.Flow
import KE.KRevSl
import HandS.Text
import PyProof.Rows.RegReprOcc
import KE.DataCmp
import KE.KCallOwn
import HandS.List
import HandS.TryMany
import HandS.ExcInit
import HandS.ExcIs
import HandS.ExcField
import KE.KExcIs
import HandS.ExcOwn
import HandS.WordsExc
import KE.KExcInit
import HandS.EndTab
import HandS.SetFor
import HandS.HotCalls
import PySem.Challenge.RW_pressworlds_k22_whole_points_made_and_re
set_option Elab.async false
set_option linter.all false
set_option maxRecDepth 100000
set_option maxHeartbeats 4000000
/-! DF: Python data as plain data; defs as plain functions; one's own things by value in their slots. -/
namespace DF
open PySem L2

def CT (K : PySem.W.Frag) (c : Str) (C : Addr) : Prop := PySem.W.nsIn K mainGlobals c = some (some (.ref C))
theorem CT.one {K : PySem.W.Frag} {c : Str} {C C' : Addr} (h : CT K c C) (h' : CT K c C') : C = C' := by
  unfold CT at h h'
  rw [h] at h'
  injection h' with h'
  injection h' with h'
  injection h'

inductive D where
  | non | bl (b : Bool) | int (i : Int) | str (s : Str) | ty (n : String) | cls (c : Str) | scr (ns : List Int)
  | tup (ds : List D) | lst (ds : List D) | ins (c : Str) (fs : List (Str × D)) | dct (kvs : List (Key × D))

/-- the script: locked, or one of the module's own lists -/
def Sc (K : PySem.W.Frag) (H : Hp) (b : Addr) (ns : List Int) : Prop := (∃ o, H b = some (.frz o (.lst (ns.map V.int)))) ∨ ∀ H' : Hp, SqL K H' b (ns.map V.int)
theorem Sc.ext {K : PySem.W.Frag} {G H : Hp} {b : Addr} {ns : List Int} (h : Sc K G b ns) (e : Ext G H) : Sc K H b ns := h.elim (fun ⟨o, z⟩ => .inl ⟨o, e _ _ z⟩) .inr
theorem Sc.seq {K : PySem.W.Frag} {H : Hp} {b : Addr} {ns : List Int} (h : Sc K H b ns) : SqL K H b (ns.map V.int) := h.elim (fun ⟨o, z⟩ => .inl (.inr ⟨o, z⟩)) fun z => z H
theorem sqT_ext {K : PySem.W.Frag} {G H : Hp} {b : Addr} {xs : List V} (h : SqT K G b xs) (e : Ext G H) : SqT K H b xs := by
  rcases h with h | h
  · rcases h with h | ⟨o, h⟩
    · exact .inl (.inl (e _ _ h))
    · exact .inl (.inr ⟨o, e _ _ h⟩)
  · exact .inr h
theorem ext_upd {G : Hp} {p : Addr} {o : HO} (h : G p = none) : Ext G (upd G p o) := fun b u e => by rw [upd_ne (by intro z; subst z; rw [h] at e; cases e)]; exact e
theorem ext_upd' {G H : Hp} {p : Addr} {o : HO} (i : Ext G H) (h : H p = none) : Ext G (upd H p o) := i.trans (ext_upd h)
mutual
inductive At (K : PySem.W.Frag) (G : Hp) : V → D → Prop
  | non : At K G .non .non
  | bl (b : Bool) : At K G (.bl b) (.bl b)
  | int (i : Int) : At K G (.int i) (.int i)
  | str (s : Str) : At K G (.str s) (.str s)
  | ty (n : String) : At K G (.ty n) (.ty n)
  | cls {a : Addr} {c : Str} : CT K c a → At K G (.ref a) (.cls c)
  | scr {p : Addr} {ns : List Int} : Sc K G p ns → At K G (.ref p) (.scr ns)
  | tup {p : Addr} {vs : List V} {ds : List D} : SqT K G p vs → AtL K G vs ds → At K G (.ref p) (.tup ds)
  | lst {p : Addr} {vs : List V} {ds : List D} : G p = some (.lst vs) → AtL K G vs ds → At K G (.ref p) (.lst ds)
  | ins {p C dx : Addr} {c : Str} {fs : List (Str × V)} {gs : List (Str × D)} : CT K c C → G p = some (.ins C dx fs) → AtF K G fs gs → At K G (.ref p) (.ins c gs)
  | dct {p : Addr} {vs : List (Key × V)} {ds : List (Key × D)} : G p = some (.dK vs) → AtK K G vs ds → At K G (.ref p) (.dct ds)
inductive AtL (K : PySem.W.Frag) (G : Hp) : List V → List D → Prop
  | nil : AtL K G [] []
  | cons {v : V} {d : D} {vs : List V} {ds : List D} : At K G v d → AtL K G vs ds → AtL K G (v :: vs) (d :: ds)
inductive AtF (K : PySem.W.Frag) (G : Hp) : List (Str × V) → List (Str × D) → Prop
  | nil : AtF K G [] []
  | cons {f : Str} {v : V} {d : D} {vs : List (Str × V)} {ds : List (Str × D)} : At K G v d → AtF K G vs ds → AtF K G ((f, v) :: vs) ((f, d) :: ds)
inductive AtK (K : PySem.W.Frag) (G : Hp) : List (Key × V) → List (Key × D) → Prop
  | nil : AtK K G [] []
  | cons {f : Key} {v : V} {d : D} {vs : List (Key × V)} {ds : List (Key × D)} : At K G v d → AtK K G vs ds → AtK K G ((f, v) :: vs) ((f, d) :: ds)
end

section
variable {K : PySem.W.Frag} {G G' H H' : Hp}
mutual
theorem At.mono (e : Ext G G') : ∀ {v : V} {d : D}, At K G v d → At K G' v d
  | _, _, .non => .non
  | _, _, .bl b => .bl b
  | _, _, .int i => .int i
  | _, _, .str s => .str s
  | _, _, .ty n => .ty n
  | _, _, .cls h => .cls h
  | _, _, .scr h => .scr (h.ext e)
  | _, _, .tup h l => .tup (sqT_ext h e) (AtL.mono e l)
  | _, _, .lst h l => .lst (e _ _ h) (AtL.mono e l)
  | _, _, .ins c h l => .ins c (e _ _ h) (AtF.mono e l)
  | _, _, .dct h l => .dct (e _ _ h) (AtK.mono e l)
theorem AtL.mono (e : Ext G G') : ∀ {vs : List V} {ds : List D}, AtL K G vs ds → AtL K G' vs ds
  | _, _, .nil => .nil
  | _, _, .cons h l => .cons (At.mono e h) (AtL.mono e l)
theorem AtF.mono (e : Ext G G') : ∀ {vs : List (Str × V)} {ds : List (Str × D)}, AtF K G vs ds → AtF K G' vs ds
  | _, _, .nil => .nil
  | _, _, .cons h l => .cons (At.mono e h) (AtF.mono e l)
theorem AtK.mono (e : Ext G G') : ∀ {vs : List (Key × V)} {ds : List (Key × D)}, AtK K G vs ds → AtK K G' vs ds
  | _, _, .nil => .nil
  | _, _, .cons h l => .cons (At.mono e h) (AtK.mono e l)
end
theorem AtL.length {vs : List V} : ∀ {ds : List D}, AtL K G vs ds → vs.length = ds.length := by
  induction vs with
  | nil => intro ds h; cases h; rfl
  | cons v vs ih => intro ds h; cases h with | cons _ l => rw [List.length_cons, List.length_cons, ih l]
theorem AtL.get {vs : List V} : ∀ {ds : List D}, AtL K G vs ds → ∀ {j : Nat} {d : D}, ds[j]? = some d → ∃ v, vs[j]? = some v ∧ At K G v d := by
  induction vs with
  | nil => intro ds h j d e; cases h; simp at e
  | cons v vs ih =>
    intro ds h j d e
    cases h with
    | cons a l =>
      cases j with
      | zero => simp at e; subst e; exact ⟨v, by simp, a⟩
      | succ j => simp at e; obtain ⟨u, h1, h2⟩ := ih l e; exact ⟨u, by simpa using h1, h2⟩
theorem AtL.get' {vs : List V} : ∀ {ds : List D}, AtL K G vs ds → ∀ {j : Nat} {v : V}, vs[j]? = some v → ∃ d, ds[j]? = some d ∧ At K G v d := by
  induction vs with
  | nil => intro ds h j d e; simp at e
  | cons v vs ih =>
    intro ds h j d e
    cases h with
    | cons a l =>
      cases j with
      | zero => simp at e; subst e; exact ⟨_, by simp, a⟩
      | succ j => simp at e; obtain ⟨u, h1, h2⟩ := ih l e; exact ⟨u, by simpa using h1, h2⟩
theorem AtL.append {vs : List V} : ∀ {ds : List D} {us : List V} {es : List D}, AtL K G vs ds → AtL K G us es → AtL K G (vs ++ us) (ds ++ es) := by
  induction vs with
  | nil => intro ds us es h k; cases h; exact k
  | cons v vs ih => intro ds us es h k; cases h with | cons a l => exact .cons a (ih l k)
theorem AtL.take {vs : List V} : ∀ {ds : List D} (n : Nat), AtL K G vs ds → AtL K G (vs.take n) (ds.take n) := by
  induction vs with
  | nil => intro ds n h; cases h; simp; exact .nil
  | cons v vs ih => intro ds n h; cases h with | cons a l => cases n with | zero => exact .nil | succ n => exact .cons a (ih n l)
theorem AtL.drop {vs : List V} : ∀ {ds : List D} (n : Nat), AtL K G vs ds → AtL K G (vs.drop n) (ds.drop n) := by
  induction vs with
  | nil => intro ds n h; cases h; simp; exact .nil
  | cons v vs ih => intro ds n h; cases h with | cons a l => cases n with | zero => exact .cons a l | succ n => exact ih n l
theorem AtL.set {vs : List V} : ∀ {ds : List D} (n : Nat) {v : V} {d : D}, AtL K G vs ds → At K G v d → AtL K G (vs.set n v) (ds.set n d) := by
  induction vs with
  | nil => intro ds n v d h _; cases h; exact .nil
  | cons v vs ih => intro ds n u d h t; cases h with | cons a l => cases n with | zero => exact .cons t l | succ n => exact .cons a (ih n l t)
theorem AtL.reverse {vs : List V} : ∀ {ds : List D}, AtL K G vs ds → AtL K G vs.reverse ds.reverse := by
  induction vs with
  | nil => intro ds h; cases h; exact .nil
  | cons v vs ih => intro ds h; cases h with | cons a l => rw [List.reverse_cons, List.reverse_cons]; exact (ih l).append (.cons a .nil)
theorem AtL.dropLast {vs : List V} {ds : List D} (h : AtL K G vs ds) : AtL K G vs.dropLast ds.dropLast := by
  rw [List.dropLast_eq_take, List.dropLast_eq_take, h.length]; exact h.take _
theorem AtF.look {fs : List (Str × V)} : ∀ {gs : List (Str × D)}, AtF K G fs gs → ∀ {f : Str} {d : D}, gs.lookup f = some d → ∃ v, fs.lookup f = some v ∧ At K G v d := by
  induction fs with
  | nil => intro gs h f d e; cases h; simp [List.lookup] at e
  | cons p fs ih =>
    intro gs h f d e
    cases h with
    | cons a l =>
      rename_i f0 v0 d0 ds0
      by_cases hf : (f == f0) = true
      · simp [List.lookup, hf] at e ⊢
        subst e
        exact a
      · have hf' : (f == f0) = false := by simpa using hf
        simp [List.lookup, hf'] at e ⊢
        exact ih l e
theorem AtF.no {fs : List (Str × V)} : ∀ {gs : List (Str × D)}, AtF K G fs gs → ∀ {f : Str}, gs.lookup f = none → fs.lookup f = none := by
  induction fs with
  | nil => intro gs h f e; rfl
  | cons p fs ih =>
    intro gs h f e
    cases h with
    | cons a l =>
      rename_i f0 v0 d0 ds0
      by_cases hf : (f == f0) = true
      · rw [List.lookup, hf] at e; cases e
      · have hf' : (f == f0) = false := by simpa using hf
        rw [List.lookup, hf'] at e ⊢
        exact ih l e
theorem AtF.length {fs : List (Str × V)} : ∀ {gs : List (Str × D)}, AtF K G fs gs → fs.length = gs.length := by
  induction fs with
  | nil => intro gs h; cases h; rfl
  | cons p fs ih => intro gs h; cases h with | cons a l => rw [List.length_cons, List.length_cons, ih l]
end

/-! ### what is one's own -/
inductive OD where
  | lst (ds : List D) | dct (kvs : List (Key × D)) | ins (c : Str) (gs : List (Str × D))
abbrev Ow := Addr → Option OD
def Ow.put (c : Ow) (p : Addr) (o : OD) : Ow := fun b => if b = p then some o else c b
def Ow.del (c : Ow) (p : Addr) : Ow := fun b => if b = p then none else c b
theorem Ow.put_same {c : Ow} {p : Addr} {o : OD} : c.put p o p = some o := if_pos rfl
theorem Ow.put_ne {c : Ow} {p b : Addr} {o : OD} (h : b ≠ p) : c.put p o b = c b := if_neg h
theorem Ow.del_same {c : Ow} {p : Addr} : c.del p p = none := if_pos rfl
theorem Ow.del_ne {c : Ow} {p b : Addr} (h : b ≠ p) : c.del p b = c b := if_neg h
def HasO (K : PySem.W.Frag) (G H : Hp) (p : Addr) : OD → Prop
  | .lst ds => ∃ vs, H p = some (.lst vs) ∧ AtL K G vs ds
  | .dct ds => ∃ vs, H p = some (.dK vs) ∧ AtK K G vs ds
  | .ins c gs => ∃ C dx fs, CT K c C ∧ H p = some (.ins C dx fs) ∧ AtF K G fs gs
section
variable {K : PySem.W.Frag} {G G' H H' H1 G1 G2 H2 : Hp} {c c' c1 c2 : Ow}
theorem HasO.mono {p : Addr} (e : Ext G G') (h : H p ≠ none → H' p = H p) : ∀ {o : OD}, HasO K G H p o → HasO K G' H' p o
  | .lst _, ⟨vs, k, l⟩ => ⟨vs, by rw [h (by rw [k]; simp)]; exact k, l.mono e⟩
  | .dct _, ⟨vs, k, l⟩ => ⟨vs, by rw [h (by rw [k]; simp)]; exact k, l.mono e⟩
  | .ins _ _, ⟨C, dx, vs, ct, k, l⟩ => ⟨C, dx, vs, ct, by rw [h (by rw [k]; simp)]; exact k, l.mono e⟩
theorem HasO.some {p : Addr} : ∀ {o : OD}, HasO K G H p o → H p ≠ none
  | .lst _, ⟨vs, k, l⟩ => by rw [k]; simp
  | .dct _, ⟨vs, k, l⟩ => by rw [k]; simp
  | .ins _ _, ⟨_, _, vs, _, k, l⟩ => by rw [k]; simp
/-- what never changes -/
def Stay : HO → Prop
  | .xd _ => True
  | .ext _ => True
  | _ => False
theorem Stay.nt {o : HO} (h : Stay o) : ∀ ps, o ≠ HO.tbl ps := fun ps z => by subst z; exact h
/-- the tables of code objects that lambdas need -/
class TbC where
  T : List (Addr × Str)
  xa : Addr
  Z : Hp → Hp → Prop
  zm : ∀ {G H G' H' : Hp}, Z G H → Ext G G' → (∀ b o, Stay o → H b = some o → H' b = some o) → Z G' H'
def NoT (G : Hp) : Prop := ∀ b ps, G b ≠ some (HO.tbl ps)
theorem NoT.ne {G : Hp} {b : Addr} {o : HO} (h : NoT G) (e : G b = some o) : ∀ ps, o ≠ HO.tbl ps := fun ps z => h b ps (by rw [e, z])
theorem HasO.ne {K : PySem.W.Frag} {G H : Hp} {p : Addr} {o : OD} {ho : HO} (h : HasO K G H p o) (e : H p = Option.some ho) : (∀ ps, ho ≠ HO.tbl ps) ∧ ∀ q, ho ≠ HO.ext q := by
  cases o with
  | lst ds => obtain ⟨vs, k, _⟩ := h; rw [k] at e; cases e; exact ⟨fun _ z => (by cases z), fun _ z => (by cases z)⟩
  | dct ds => obtain ⟨vs, k, _⟩ := h; rw [k] at e; cases e; exact ⟨fun _ z => (by cases z), fun _ z => (by cases z)⟩
  | ins c gs => obtain ⟨_, _, vs, _, k, _⟩ := h; rw [k] at e; cases e; exact ⟨fun _ z => (by cases z), fun _ z => (by cases z)⟩
/-- tables live on where nothing of theirs is touched -/
theorem tabs_keep {T : List (Addr × Str)} {H H' : Hp} (t : LamX.Tabs T H) (e : ∀ b o, H b = Option.some o → ((∃ ps, o = HO.tbl ps) ∨ ∃ q, o = HO.ext q) → H' b = Option.some o) : LamX.Tabs T H' := fun x hx => by
  obtain ⟨ps, h1, h2, h3⟩ := t x hx
  exact ⟨ps, e _ _ h1 (.inl ⟨_, rfl⟩), h2, fun pos cv hc => by
    obtain ⟨c, e1, e2⟩ := h3 pos cv hc
    exact ⟨c, e1, e _ _ e2 (.inr ⟨_, rfl⟩)⟩⟩
variable [TbC]
abbrev ExtT (H H' : Hp) : Prop := ∀ b o, ((∀ ps, o ≠ HO.tbl ps) ∨ TbC.T = []) → H b = some o → H' b = some o
structure Iv (K : PySem.W.Frag) (c : Ow) (G H : Hp) : Prop where
  i : Ext G H
  ow : ∀ p o, c p = some o → G p = none ∧ HasO K G H p o
  nt : NoT G
  tb : LamX.Tabs TbC.T H
  z : TbC.Z G H
/-- told things stand in the heap; none is a table -/
structure Bs (G H : Hp) : Prop where
  i : Ext G H
  nt : NoT G
  tb : LamX.Tabs TbC.T H
  z : TbC.Z G H
theorem Iv.bs (v : Iv K c G H) : Bs G H := ⟨v.i, v.nt, v.tb, v.z⟩
theorem Bs.iv (b : Bs G H) : Iv K (fun _ => none) G H := ⟨b.i, fun _ _ z => (by cases z), b.nt, b.tb, b.z⟩
/-- what may happen: T may be touched -/
structure Grow (T : Addr → Prop) (c : Ow) (G H : Hp) (c' : Ow) (G' H' : Hp) : Prop where
  g : Ext G G'
  h : ∀ b o, c b = none → ((∀ ps, o ≠ HO.tbl ps) ∨ TbC.T = []) → H b = some o → H' b = some o
  w : ∀ b, G' b ≠ none → G b ≠ none ∨ H b = none ∨ T b
  o : ∀ b, c' b ≠ none → c b ≠ none ∨ H b = none
  f : ∀ b, ¬ T b → c b ≠ none → c' b = c b ∧ H' b = H b
  n : ∀ b, H b ≠ none → H' b ≠ none
variable {T T1 T2 : Addr → Prop}
theorem Iv.free (v : Iv K c G H) {b : Addr} (h : H b = none) : c b = none := by
  cases e : c b with
  | none => rfl
  | some o => exact absurd h (v.ow b o e).2.some
theorem Iv.gnone (v : Iv K c G H) {b : Addr} (h : H b = none) : G b = none := by
  cases e : G b with
  | none => rfl
  | some o => rw [v.i b o e] at h; cases h
theorem Grow.refl : Grow T c G H c G H := ⟨Ext.rfl', fun _ _ _ _ h => h, fun _ h => .inl h, fun _ h => .inl h, fun _ _ _ => ⟨rfl, rfl⟩, fun _ h => h⟩
theorem Grow.trans' (v0 : Iv K c G H) (x : Grow T1 c G H c1 G1 H1) (y : Grow T2 c1 G1 H1 c2 G2 H2) (h1 : ∀ b, T1 b → T b) (h2 : ∀ b, T2 b → T b ∨ H b = none) : Grow T c G H c2 G2 H2 := by
  have un : ∀ b, c b = .none → H b ≠ .none → c1 b = .none := fun b hc hb => by
    cases e : c1 b with
    | none => rfl
    | some o => exact ((x.o b (by rw [e]; simp)).elim (fun z => absurd hc z) fun z => absurd z hb)
  have back : ∀ b, H1 b = .none → H b = .none := fun b z => by
    cases e : H b with
    | none => rfl
    | some o => exact absurd z (x.n b (by rw [e]; simp))
  refine ⟨x.g.trans y.g, fun b o hc ho hb => y.h b o (un b hc (by rw [hb]; simp)) ho (x.h b o hc ho hb), fun b hb => ?_, fun b hb => ?_, fun b ht hb => ?_, fun b h => y.n b (x.n b h)⟩
  · rcases y.w b hb with z | z | z
    · rcases x.w b z with z | z | z
      · exact .inl z
      · exact .inr (.inl z)
      · exact .inr (.inr (h1 b z))
    · exact .inr (.inl (back b z))
    · exact (h2 b z).elim (fun z => .inr (.inr z)) fun z => .inr (.inl z)
  · exact (y.o b hb).elim (x.o b) fun z => .inr (back b z)
  · obtain ⟨e1, e2⟩ := x.f b (fun z => ht (h1 b z)) hb
    by_cases z : T2 b
    · rcases h2 b z with z | z
      · exact absurd z ht
      · exact absurd (v0.free z) hb
    · obtain ⟨e3, e4⟩ := y.f b z (by rw [e1]; exact hb)
      exact ⟨e3.trans e1, e4.trans e2⟩
theorem Grow.trans (v0 : Iv K c G H) (x : Grow T c G H c1 G1 H1) (y : Grow T c1 G1 H1 c2 G2 H2) : Grow T c G H c2 G2 H2 := x.trans' v0 y (fun _ h => h) fun _ h => .inl h
theorem Grow.mono (x : Grow T1 c G H c1 G1 H1) (h : ∀ b, T1 b → T b) : Grow T c G H c1 G1 H1 :=
  ⟨x.g, x.h, fun b hb => (x.w b hb).elim .inl fun z => z.elim (fun z => .inr (.inl z)) fun z => .inr (.inr (h b z)), x.o, fun b ht => x.f b fun z => ht (h b z), x.n⟩
/-- pure growth -/
structure PG (G H G' H' : Hp) : Prop where
  g : Ext G G'
  h : ExtT H H'
  i : Ext G' H'
  n : ∀ b, G' b ≠ none → G b ≠ none ∨ H b = none
  m : ∀ b, H b ≠ none → H' b ≠ none
  nt : NoT G → NoT G'
  tb : LamX.Tabs TbC.T H → LamX.Tabs TbC.T H'
/-- no tables at all -/
@[reducible] def TbC.off : TbC := ⟨[], 0, fun _ _ => True, fun _ _ _ => trivial⟩
theorem xd_ext {H H' : Hp} (e : Ext H H') : ∀ b o, Stay o → H b = some o → H' b = some o := fun b o _ h => e b _ h
theorem xd_t {H H' : Hp} (e : ExtT H H') : ∀ b o, Stay o → H b = some o → H' b = some o := fun b o st h => e b _ (.inl st.nt) h
theorem HasO.nxd {K : PySem.W.Frag} {G H : Hp} {p b : Addr} {o : OD} {ho : HO} (h : HasO K G H p o) (st : Stay ho) (e : H b = Option.some ho) : b ≠ p := fun z => by
  subst z
  cases o with
  | lst ds => obtain ⟨vs, k, _⟩ := h; rw [k] at e; cases e; exact st
  | dct ds => obtain ⟨vs, k, _⟩ := h; rw [k] at e; cases e; exact st
  | ins c gs => obtain ⟨_, _, vs, _, k, _⟩ := h; rw [k] at e; cases e; exact st
theorem tabs_ext {T : List (Addr × Str)} (e : Ext H H') (t : LamX.Tabs T H) : LamX.Tabs T H' := fun x hx => (t x hx).ext e
theorem ext_m (e : Ext H H') : ∀ b, H b ≠ none → H' b ≠ none := fun b h => by
  cases k : H b with
  | none => exact absurd k h
  | some o => rw [e b o k]; simp
theorem PG.of (g : Ext G G') (h : Ext H H') (i : Ext G' H') (n : ∀ b, G' b ≠ none → G b ≠ none ∨ H b = none) (nt : NoT G → NoT G') : PG G H G' H' := ⟨g, fun b o _ => h b o, i, n, ext_m h, nt, tabs_ext h⟩
theorem PG.refl (i : Ext G H) : PG G H G H := .of Ext.rfl' Ext.rfl' i (fun _ h => .inl h) id
theorem PG.trans (x : PG G H G1 H1) (y : PG G1 H1 G2 H2) : PG G H G2 H2 := ⟨x.g.trans y.g, fun b o ho e => y.h b o ho (x.h b o ho e), y.i, fun b hb => (y.n b hb).elim (x.n b) fun z => .inr (by
  cases e : H b with
  | none => rfl
  | some o => exact absurd z (x.m b (by rw [e]; simp))), fun b h => y.m b (x.m b h), fun h => y.nt (x.nt h), fun h => y.tb (x.tb h)⟩
theorem PG.grow (v : Iv K c G H) (x : PG G H G' H') : Grow T c G H c G' H' := ⟨x.g, fun b o _ ho e => x.h b o ho e, fun b h => (x.n b h).elim .inl fun z => .inr (.inl z), fun b h => .inl h, fun b _ hb => ⟨rfl, by
  cases q : c b with
  | none => exact absurd q hb
  | some o =>
    cases e : H b with
    | none => exact absurd e (v.ow b o q).2.some
    | some u => exact x.h b u (.inl ((v.ow b o q).2.ne e).1) e⟩, x.m⟩
theorem PG.iv (v : Iv K c G H) (x : PG G H G' H') : Iv K c G' H' := by
  refine ⟨x.i, fun p o e => ?_, x.nt v.nt, x.tb v.tb, TbC.zm v.z x.g (xd_t x.h)⟩
  obtain ⟨h1, h2⟩ := v.ow p o e
  refine ⟨Classical.byContradiction fun z => (x.n p z).elim (fun w => w h1) h2.some, h2.mono x.g fun hs => ?_⟩
  cases k : H p with
  | none => exact absurd k hs
  | some o => exact x.h _ _ (.inl (h2.ne k).1) k
theorem PG.new {p : Addr} {o : HO} (i : Ext G H) (hp : H p = none) (ho : ∀ ps, o ≠ HO.tbl ps := by intro _ z; cases z) : PG G H (upd G p o) (upd H p o) := by
  have gp : G p = none := by
    cases k : G p with
    | none => rfl
    | some u => rw [i p u k] at hp; cases hp
  refine .of (ext_upd gp) (ext_upd hp) (fun b u e => ?_) (fun b h => ?_) fun h b ps e => ?_
  · by_cases hb : b = p
    · subst hb; rw [upd_same] at e ⊢; exact e
    · rw [upd_ne hb] at e ⊢; exact i b u e
  · by_cases hb : b = p
    · subst hb; exact .inr hp
    · rw [upd_ne hb] at h; exact .inl h
  · by_cases hb : b = p
    · subst hb; rw [upd_same] at e; injection e with e; exact ho ps e
    · rw [upd_ne hb] at e; exact h b ps e
/-- a new thing in the heap that is not told -/
theorem PG.hid {p : Addr} {o : HO} (i : Ext G H) (hp : H p = none) : PG G H G (upd H p o) :=
  .of Ext.rfl' (ext_upd hp) (ext_upd' i hp) (fun b h => .inl h) id
/-- a thing of one's own changes -/
theorem own_set (v : Iv K c G H) {p : Addr} {o o' : OD} {ho : HO} (hT : T p) (hi : c p = some o) (hh : HasO K G (upd H p ho) p o') : Grow T c G H (c.put p o') G (upd H p ho) ∧ Iv K (c.put p o') G (upd H p ho) := by
  have gp := (v.ow p o hi).1
  refine ⟨⟨Ext.rfl', fun b u hc _ hb => ?_, fun b h => .inl h, fun b hb => .inl ?_, fun b ht _ => have ne : b ≠ p := fun z => ht (z ▸ hT); ⟨Ow.put_ne ne, upd_ne ne⟩, fun b hb => ?_⟩, fun b u e => ?_, fun b u e => ?_, v.nt, tabs_keep v.tb fun b u e k => ?_, TbC.zm v.z Ext.rfl' fun b u st e => by rw [upd_ne ((v.ow p o hi).2.nxd st e)]; exact e⟩
  · rw [upd_ne (by intro z; subst z; rw [hi] at hc; cases hc)]; exact hb
  · by_cases e : b = p
    · subst e; rw [hi]; simp
    · rwa [Ow.put_ne e] at hb
  · by_cases e : b = p
    · subst e; rw [upd_same]; simp
    · rw [upd_ne e]; exact hb
  · rw [upd_ne (by intro z; subst z; rw [gp] at e; cases e)]; exact v.i b u e
  · by_cases z : b = p
    · subst z; rw [Ow.put_same] at e; cases e; exact ⟨gp, hh⟩
    · rw [Ow.put_ne z] at e
      obtain ⟨q1, q2⟩ := v.ow b u e
      exact ⟨q1, q2.mono Ext.rfl' fun _ => upd_ne z⟩
  · by_cases z : b = p
    · subst z
      obtain ⟨n1, n2⟩ := (v.ow b o hi).2.ne e
      rcases k with ⟨ps, k⟩ | ⟨q, k⟩
      · exact absurd k (n1 ps)
      · exact absurd k (n2 q)
    · rw [upd_ne z]; exact e
/-- a new thing of one's own -/
theorem own_new (v : Iv K c G H) {p : Addr} {o : OD} {ho : HO} (hp : H p = none) (hh : HasO K G (upd H p ho) p o) : Grow T c G H (c.put p o) G (upd H p ho) ∧ Iv K (c.put p o) G (upd H p ho) := by
  have gp := v.gnone hp
  refine ⟨⟨Ext.rfl', fun b u _ _ hb => by rw [upd_ne (ne_of_none hb hp)]; exact hb, fun b h => .inl h, fun b hb => ?_, fun b _ hb => have ne : b ≠ p := fun z => hb (by rw [z]; exact v.free hp); ⟨Ow.put_ne ne, upd_ne ne⟩, fun b hb => ?_⟩, ext_upd' v.i hp, fun b u e => ?_, v.nt, tabs_ext (ext_upd hp) v.tb, TbC.zm v.z Ext.rfl' (xd_ext (ext_upd hp))⟩
  · by_cases e : b = p
    · subst e; exact .inr hp
    · rw [Ow.put_ne e] at hb; exact .inl hb
  · by_cases e : b = p
    · subst e; rw [upd_same]; simp
    · rw [upd_ne e]; exact hb
  · by_cases z : b = p
    · subst z; rw [Ow.put_same] at e; cases e; exact ⟨gp, hh⟩
    · rw [Ow.put_ne z] at e
      obtain ⟨q1, q2⟩ := v.ow b u e
      exact ⟨q1, q2.mono Ext.rfl' fun _ => upd_ne z⟩
/-- .. and is told from now on -/
theorem own_told (v : Iv K c G H) {p : Addr} {o : OD} {ho : HO} (hT : T p) (hi : c p = some o) (hp : H p = some ho) : Grow T c G H (c.del p) (upd G p ho) H ∧ Iv K (c.del p) (upd G p ho) H := by
  have gp := (v.ow p o hi).1
  refine ⟨⟨ext_upd gp, fun b u _ _ hb => hb, fun b h => ?_, fun b hb => .inl ?_, fun b ht _ => ⟨Ow.del_ne fun z => ht (z ▸ hT), rfl⟩, fun b hb => hb⟩, fun b u e => ?_, fun b u e => ?_, fun b ps e => ?_, v.tb, TbC.zm v.z (ext_upd gp) fun _ _ _ e => e⟩
  · by_cases e : b = p
    · subst e; exact .inr (.inr hT)
    · rw [upd_ne e] at h; exact .inl h
  · by_cases e : b = p
    · subst e; rw [hi]; simp
    · rwa [Ow.del_ne e] at hb
  · by_cases e' : b = p
    · subst e'; rw [upd_same] at e; cases e; exact hp
    · rw [upd_ne e'] at e; exact v.i b u e
  · by_cases z : b = p
    · subst z; rw [Ow.del_same] at e; cases e
    · rw [Ow.del_ne z] at e
      obtain ⟨q1, q2⟩ := v.ow b u e
      exact ⟨by rw [upd_ne z]; exact q1, q2.mono (ext_upd gp) fun _ => rfl⟩
  · by_cases z : b = p
    · subst z
      rw [upd_same] at e
      injection e with e
      exact ((v.ow b o hi).2.ne hp).1 ps e
    · rw [upd_ne z] at e; exact v.nt b ps e
end
end DF

set_option linter.all false
set_option maxRecDepth 100000
set_option maxHeartbeats 4000000
namespace DF
open PySem L2
variable [TbC]

/-! ### defs as functions -/
inductive Sl where
  | no | val (d : D) | own (k : Nat) (o : OD) | exc
abbrev EnvF := List Sl
inductive Vr where
  | val (d : D) | slot (i : Nat) | own (o : OD)
inductive Rt (α : Type) where
  | ok (v : α) (Γ : EnvF) | ex (c f : Str) (d : D) (Γ : EnvF)
abbrev FM (α : Type) := EnvF → Option (Rt α)
def FM.pure {α : Type} (v : α) : FM α := fun Γ => some (.ok v Γ)
def FM.bind {α β : Type} (x : FM α) (k : α → FM β) : FM β := fun Γ => match x Γ with
  | some (.ok v Γ') => k v Γ'
  | some (.ex c f d Γ') => some (.ex c f d Γ')
  | none => none
inductive Fl where
  | nx | rt (v : Vr) | bk | ct
abbrev FE := FM Vr
abbrev FA := FM (List Vr)
abbrev FT := FM Bool
abbrev FO := FM (Option Int)
abbrev FS := FM Fl

/-! ### the state -/
inductive EnvR (K : PySem.W.Frag) (G : Hp) (P : List Addr) : L2.St → EnvF → List (Addr × OD) → Prop
  | nil : EnvR K G P [] [] []
  | no {o : Option V} {σ : L2.St} {Γ : EnvF} {L : List (Addr × OD)} : EnvR K G P σ Γ L → EnvR K G P (o :: σ) (.no :: Γ) L
  | exc {σ : L2.St} {Γ : EnvF} {L : List (Addr × OD)} : EnvR K G P σ Γ L → EnvR K G P (some (.ref TbC.xa) :: σ) (.exc :: Γ) L
  | val {v : V} {d : D} {σ : L2.St} {Γ : EnvF} {L : List (Addr × OD)} : At K G v d → EnvR K G P σ Γ L → EnvR K G P (some v :: σ) (.val d :: Γ) L
  | own {p : Addr} {k : Nat} {o : OD} {σ : L2.St} {Γ : EnvF} {L : List (Addr × OD)} : (k = 0 ∧ p ∉ P ∨ ∃ j, k = j + 1 ∧ P[j]? = some p) → EnvR K G P σ Γ L → EnvR K G P (some (.ref p) :: σ) (.own k o :: Γ) ((p, o) :: L)
abbrev TL (L : List (Addr × OD)) : Addr → Prop := fun b => b ∈ L.map (·.1)
structure Sta (K : PySem.W.Frag) (P : List Addr) (c : Ow) (G H : Hp) (σ : L2.St) (Γ : EnvF) (L : List (Addr × OD)) : Prop where
  r : EnvR K G P σ Γ L
  nd : (L.map (·.1)).Nodup
  ow : ∀ e ∈ L, c e.1 = some e.2
  iv : Iv K c G H
  pa : ∀ p ∈ P, H p ≠ none
section
variable {K : PySem.W.Frag} {G G' H H' H0 H1 : Hp} {P : List Addr} {σ σ' : L2.St} {Γ Γ' : EnvF} {L L' : List (Addr × OD)} {c c' : Ow} {W : WX}
theorem EnvR.mono (e : Ext G G') : ∀ {σ : L2.St} {Γ : EnvF} {L : List (Addr × OD)}, EnvR K G P σ Γ L → EnvR K G' P σ Γ L
  | _, _, _, .nil => .nil
  | _, _, _, .no l => .no (EnvR.mono e l)
  | _, _, _, .exc l => .exc (EnvR.mono e l)
  | _, _, _, .val a l => .val (a.mono e) (EnvR.mono e l)
  | _, _, _, .own a l => .own a (EnvR.mono e l)
theorem EnvR.get : ∀ {σ : L2.St} {Γ : EnvF} {L : List (Addr × OD)}, EnvR K G P σ Γ L → ∀ {i : Nat} {d : D}, Γ[i]? = some (.val d) → ∃ v, σ[i]? = some (some v) ∧ At K G v d
  | _, _, _, .nil, i, d, e => by simp at e
  | _, _, _, .no l, 0, d, e => by simp at e
  | _, _, _, .exc l, 0, d, e => by simp at e
  | _, _, _, .no l, i + 1, d, e => by simpa using EnvR.get l (i := i) (d := d) (by simpa using e)
  | _, _, _, .exc l, i + 1, d, e => by simpa using EnvR.get l (i := i) (d := d) (by simpa using e)
  | _, _, _, .val a l, 0, d, e => by simp at e; subst e; exact ⟨_, by simp, a⟩
  | _, _, _, .val a l, i + 1, d, e => by simpa using EnvR.get l (i := i) (d := d) (by simpa using e)
  | _, _, _, .own a l, 0, d, e => by simp at e
  | _, _, _, .own a l, i + 1, d, e => by simpa using EnvR.get l (i := i) (d := d) (by simpa using e)
theorem EnvR.getO : ∀ {σ : L2.St} {Γ : EnvF} {L : List (Addr × OD)}, EnvR K G P σ Γ L → ∀ {i k : Nat} {o : OD}, Γ[i]? = some (.own k o) → ∃ p, σ[i]? = some (some (.ref p)) ∧ (p, o) ∈ L ∧ (k = 0 ∧ p ∉ P ∨ ∃ j, k = j + 1 ∧ P[j]? = some p)
  | _, _, _, .nil, i, k, d, e => by simp at e
  | _, _, _, .no l, 0, k, d, e => by simp at e
  | _, _, _, .exc l, 0, k, d, e => by simp at e
  | _, _, _, .no l, i + 1, k, d, e => by simpa using EnvR.getO l (i := i) (k := k) (o := d) (by simpa using e)
  | _, _, _, .exc l, i + 1, k, d, e => by simpa using EnvR.getO l (i := i) (k := k) (o := d) (by simpa using e)
  | _, _, _, .val a l, 0, k, d, e => by simp at e
  | _, _, _, .val a l, i + 1, k, d, e => by simpa using EnvR.getO l (i := i) (k := k) (o := d) (by simpa using e)
  | _, _, _, .own a l, 0, k, d, e => by simp at e; obtain ⟨e1, e2⟩ := e; subst e1 e2; exact ⟨_, by simp, by simp, a⟩
  | _, _, _, .own a l, i + 1, k, d, e => by
    obtain ⟨p, h1, h2, h3⟩ := EnvR.getO l (i := i) (k := k) (o := d) (by simpa using e)
    exact ⟨p, by simpa using h1, List.mem_cons_of_mem _ h2, h3⟩
theorem EnvR.getX : ∀ {σ : L2.St} {Γ : EnvF} {L : List (Addr × OD)}, EnvR K G P σ Γ L → ∀ {i : Nat}, Γ[i]? = some .exc → σ[i]? = some (some (.ref TbC.xa))
  | _, _, _, .nil, i, e => by simp at e
  | _, _, _, .no l, 0, e => by simp at e
  | _, _, _, .no l, i + 1, e => by simpa using EnvR.getX l (i := i) (by simpa using e)
  | _, _, _, .exc l, 0, e => by simp
  | _, _, _, .exc l, i + 1, e => by simpa using EnvR.getX l (i := i) (by simpa using e)
  | _, _, _, .val a l, 0, e => by simp at e
  | _, _, _, .val a l, i + 1, e => by simpa using EnvR.getX l (i := i) (by simpa using e)
  | _, _, _, .own a l, 0, e => by simp at e
  | _, _, _, .own a l, i + 1, e => by simpa using EnvR.getX l (i := i) (by simpa using e)
theorem EnvR.length : ∀ {σ : L2.St} {Γ : EnvF} {L : List (Addr × OD)}, EnvR K G P σ Γ L → σ.length = Γ.length
  | _, _, _, .nil => rfl
  | _, _, _, .no l => congrArg (· + 1) (EnvR.length l)
  | _, _, _, .exc l => congrArg (· + 1) (EnvR.length l)
  | _, _, _, .val a l => congrArg (· + 1) (EnvR.length l)
  | _, _, _, .own a l => congrArg (· + 1) (EnvR.length l)
/-- a slot is put anew: a value -/
theorem EnvR.setVal : ∀ {σ : L2.St} {Γ : EnvF} {L : List (Addr × OD)}, EnvR K G P σ Γ L → ∀ (i : Nat) {v : V} {d : D}, At K G v d → ∃ L', EnvR K G P (σ.set i (some v)) (Γ.set i (.val d)) L' ∧ L'.Sublist L
  | _, _, _, .nil, i, v, d, a => ⟨_, .nil, List.Sublist.refl _⟩
  | _, _, _, .no l, 0, v, d, a => ⟨_, .val a l, List.Sublist.refl _⟩
  | _, _, _, .exc l, 0, v, d, a => ⟨_, .val a l, List.Sublist.refl _⟩
  | _, _, _, .val b l, 0, v, d, a => ⟨_, .val a l, List.Sublist.refl _⟩
  | _, _, _, .own b l, 0, v, d, a => ⟨_, .val a l, List.sublist_cons_self _ _⟩
  | _, _, _, .no l, i + 1, v, d, a => by obtain ⟨L', h1, h2⟩ := EnvR.setVal l i a; exact ⟨L', .no h1, h2⟩
  | _, _, _, .exc l, i + 1, v, d, a => by obtain ⟨L', h1, h2⟩ := EnvR.setVal l i a; exact ⟨L', .exc h1, h2⟩
  | _, _, _, .val b l, i + 1, v, d, a => by obtain ⟨L', h1, h2⟩ := EnvR.setVal l i a; exact ⟨L', .val b h1, h2⟩
  | _, _, _, .own b l, i + 1, v, d, a => by obtain ⟨L', h1, h2⟩ := EnvR.setVal l i a; exact ⟨_, .own b h1, h2.cons₂ _⟩
theorem EnvR.setNo : ∀ {σ : L2.St} {Γ : EnvF} {L : List (Addr × OD)}, EnvR K G P σ Γ L → ∀ (i : Nat) (o : Option V), ∃ L', EnvR K G P (σ.set i o) (Γ.set i .no) L' ∧ L'.Sublist L
  | _, _, _, .nil, i, o => ⟨_, .nil, List.Sublist.refl _⟩
  | _, _, _, .no l, 0, o => ⟨_, .no l, List.Sublist.refl _⟩
  | _, _, _, .exc l, 0, o => ⟨_, .no l, List.Sublist.refl _⟩
  | _, _, _, .val b l, 0, o => ⟨_, .no l, List.Sublist.refl _⟩
  | _, _, _, .own b l, 0, o => ⟨_, .no l, List.sublist_cons_self _ _⟩
  | _, _, _, .no l, i + 1, o => by obtain ⟨L', h1, h2⟩ := EnvR.setNo l i o; exact ⟨L', .no h1, h2⟩
  | _, _, _, .exc l, i + 1, o => by obtain ⟨L', h1, h2⟩ := EnvR.setNo l i o; exact ⟨L', .exc h1, h2⟩
  | _, _, _, .val b l, i + 1, o => by obtain ⟨L', h1, h2⟩ := EnvR.setNo l i o; exact ⟨L', .val b h1, h2⟩
  | _, _, _, .own b l, i + 1, o => by obtain ⟨L', h1, h2⟩ := EnvR.setNo l i o; exact ⟨_, .own b h1, h2.cons₂ _⟩
theorem EnvR.setX : ∀ {σ : L2.St} {Γ : EnvF} {L : List (Addr × OD)}, EnvR K G P σ Γ L → ∀ (i : Nat), ∃ L', EnvR K G P (σ.set i (some (.ref TbC.xa))) (Γ.set i .exc) L' ∧ L'.Sublist L
  | _, _, _, .nil, i => ⟨_, .nil, List.Sublist.refl _⟩
  | _, _, _, .no l, 0 => ⟨_, .exc l, List.Sublist.refl _⟩
  | _, _, _, .exc l, 0 => ⟨_, .exc l, List.Sublist.refl _⟩
  | _, _, _, .val b l, 0 => ⟨_, .exc l, List.Sublist.refl _⟩
  | _, _, _, .own b l, 0 => ⟨_, .exc l, List.sublist_cons_self _ _⟩
  | _, _, _, .no l, i + 1 => by obtain ⟨L', h1, h2⟩ := EnvR.setX l i; exact ⟨L', .no h1, h2⟩
  | _, _, _, .exc l, i + 1 => by obtain ⟨L', h1, h2⟩ := EnvR.setX l i; exact ⟨L', .exc h1, h2⟩
  | _, _, _, .val b l, i + 1 => by obtain ⟨L', h1, h2⟩ := EnvR.setX l i; exact ⟨L', .val b h1, h2⟩
  | _, _, _, .own b l, i + 1 => by obtain ⟨L', h1, h2⟩ := EnvR.setX l i; exact ⟨_, .own b h1, h2.cons₂ _⟩
/-- .. a thing of one's own -/
theorem EnvR.setOwn {p : Addr} {o : OD} (np : p ∉ P) : ∀ {σ : L2.St} {Γ : EnvF} {L : List (Addr × OD)}, EnvR K G P σ Γ L → (L.map (·.1)).Nodup → p ∉ L.map (·.1) → ∀ (i : Nat), ∃ L', EnvR K G P (σ.set i (some (.ref p))) (Γ.set i (.own 0 o)) L' ∧ (L'.map (·.1)).Nodup ∧ ∀ e ∈ L', e = (p, o) ∨ e ∈ L
  | _, _, _, .nil, nd, h, i => ⟨_, .nil, nd, fun e he => .inr he⟩
  | _, _, _, .no l, nd, h, 0 => ⟨_, .own (.inl ⟨rfl, np⟩) l, by rw [List.map_cons, List.nodup_cons]; exact ⟨h, nd⟩, fun e he => (List.mem_cons.mp he)⟩
  | _, _, _, .exc l, nd, h, 0 => ⟨_, .own (.inl ⟨rfl, np⟩) l, by rw [List.map_cons, List.nodup_cons]; exact ⟨h, nd⟩, fun e he => (List.mem_cons.mp he)⟩
  | _, _, _, .val b l, nd, h, 0 => ⟨_, .own (.inl ⟨rfl, np⟩) l, by rw [List.map_cons, List.nodup_cons]; exact ⟨h, nd⟩, fun e he => (List.mem_cons.mp he)⟩
  | _, _, _, .own b l, nd, h, 0 => by
    rw [List.map_cons, List.nodup_cons] at nd
    refine ⟨_, .own (.inl ⟨rfl, np⟩) l, by rw [List.map_cons, List.nodup_cons]; exact ⟨fun z => h (List.mem_cons_of_mem _ z), nd.2⟩, fun e he => (List.mem_cons.mp he).imp id fun z => List.mem_cons_of_mem _ z⟩
  | _, _, _, .no l, nd, h, i + 1 => by obtain ⟨L', h1, h2⟩ := EnvR.setOwn np l nd h i; exact ⟨L', .no h1, h2⟩
  | _, _, _, .exc l, nd, h, i + 1 => by obtain ⟨L', h1, h2⟩ := EnvR.setOwn np l nd h i; exact ⟨L', .exc h1, h2⟩
  | _, _, _, .val b l, nd, h, i + 1 => by obtain ⟨L', h1, h2⟩ := EnvR.setOwn np l nd h i; exact ⟨L', .val b h1, h2⟩
  | _, _, _, @EnvR.own _ _ _ _ p0 k0 o0 _ _ L0 b l, nd, h, i + 1 => by
    rw [List.map_cons, List.nodup_cons] at nd
    obtain ⟨L', h1, h2, h3⟩ := EnvR.setOwn np l nd.2 (fun z => h (List.mem_cons_of_mem _ z)) i
    refine ⟨_, .own b h1, ?_, fun e he => ?_⟩
    · rw [List.map_cons, List.nodup_cons]
      refine ⟨fun z => ?_, h2⟩
      obtain ⟨e, he, e1⟩ := List.mem_map.mp z
      rcases h3 e he with q | q
      · rw [q] at e1; exact h (by rw [List.map_cons, ← e1]; exact List.mem_cons_self)
      · exact nd.1 (e1 ▸ List.mem_map.mpr ⟨e, q, rfl⟩)
    · rcases List.mem_cons.mp he with q | q
      · exact .inr (q ▸ List.mem_cons_self)
      · exact (h3 e q).imp id fun z => List.mem_cons_of_mem _ z
/-- .. its content changes -/
theorem EnvR.updOwn {o o' : OD} {k : Nat} : ∀ {σ : L2.St} {Γ : EnvF} {L : List (Addr × OD)}, EnvR K G P σ Γ L → (L.map (·.1)).Nodup → ∀ {i : Nat}, Γ[i]? = some (.own k o) → ∃ p L', σ[i]? = some (some (.ref p)) ∧ (p, o) ∈ L ∧ EnvR K G P σ (Γ.set i (.own k o')) L' ∧ L'.map (·.1) = L.map (·.1) ∧ ∀ e ∈ L', e = (p, o') ∨ e ∈ L ∧ e.1 ≠ p
  | _, _, _, .nil, nd, i, e => by simp at e
  | _, _, _, .no l, nd, 0, e => by simp at e
  | _, _, _, .exc l, nd, 0, e => by simp at e
  | _, _, _, .val b l, nd, 0, e => by simp at e
  | _, _, _, .own b l, nd, 0, e => by
    simp at e; obtain ⟨e1, e2⟩ := e; subst e1 e2
    rw [List.map_cons, List.nodup_cons] at nd
    refine ⟨_, _, by simp, by simp, .own b l, rfl, fun e he => (List.mem_cons.mp he).imp id fun z => ⟨List.mem_cons_of_mem _ z, fun q => nd.1 ?_⟩⟩
    rw [← q]; exact List.mem_map.mpr ⟨e, z, rfl⟩
  | _, _, _, .no l, nd, i + 1, e => by
    obtain ⟨p, L', h1, h2, h3, h4, h5⟩ := EnvR.updOwn l nd (i := i) (by simpa using e)
    exact ⟨p, L', by simpa using h1, h2, .no h3, h4, h5⟩
  | _, _, _, .exc l, nd, i + 1, e => by
    obtain ⟨p, L', h1, h2, h3, h4, h5⟩ := EnvR.updOwn l nd (i := i) (by simpa using e)
    exact ⟨p, L', by simpa using h1, h2, .exc h3, h4, h5⟩
  | _, _, _, .val b l, nd, i + 1, e => by
    obtain ⟨p, L', h1, h2, h3, h4, h5⟩ := EnvR.updOwn l nd (i := i) (by simpa using e)
    exact ⟨p, L', by simpa using h1, h2, .val b h3, h4, h5⟩
  | _, _, _, @EnvR.own _ _ _ _ p0 k0 o0 _ _ L0 b l, nd, i + 1, e => by
    rw [List.map_cons, List.nodup_cons] at nd
    obtain ⟨p, L', h1, h2, h3, h4, h5⟩ := EnvR.updOwn l nd.2 (i := i) (by simpa using e)
    refine ⟨p, _, by simpa using h1, List.mem_cons_of_mem _ h2, .own b h3, by rw [List.map_cons, List.map_cons, h4], fun e he => ?_⟩
    rcases List.mem_cons.mp he with q | q
    · refine .inr ⟨q ▸ List.mem_cons_self, fun z => nd.1 ?_⟩
      rw [q] at z
      have z : p0 = p := z
      exact z ▸ List.mem_map.mpr ⟨_, h2, rfl⟩
    · exact (h5 e q).imp id fun z => ⟨List.mem_cons_of_mem _ z.1, z.2⟩
/-- .. or is seen as a value -/
theorem EnvR.see {o : OD} {k : Nat} {d : D} : ∀ {σ : L2.St} {Γ : EnvF} {L : List (Addr × OD)}, EnvR K G P σ Γ L → (L.map (·.1)).Nodup → ∀ {i : Nat} {p : Addr}, Γ[i]? = some (.own k o) → σ[i]? = some (some (.ref p)) → At K G (.ref p) d → ∃ L', EnvR K G P σ (Γ.set i (.val d)) L' ∧ L'.Sublist L ∧ p ∉ L'.map (·.1)
  | _, _, _, .nil, nd, i, p, e, _, _ => by simp at e
  | _, _, _, .no l, nd, 0, p, e, _, _ => by simp at e
  | _, _, _, .exc l, nd, 0, p, e, _, _ => by simp at e
  | _, _, _, .val b l, nd, 0, p, e, _, _ => by simp at e
  | _, _, _, .own b l, nd, 0, p, e, e', t => by
    simp at e e'; subst e'
    rw [List.map_cons, List.nodup_cons] at nd
    exact ⟨_, .val t l, List.sublist_cons_self _ _, nd.1⟩
  | _, _, _, .no l, nd, i + 1, p, e, e', t => by
    obtain ⟨L', h1, h2, h3⟩ := EnvR.see l nd (i := i) (p := p) (by simpa using e) (by simpa using e') t
    exact ⟨L', .no h1, h2, h3⟩
  | _, _, _, .exc l, nd, i + 1, p, e, e', t => by
    obtain ⟨L', h1, h2, h3⟩ := EnvR.see l nd (i := i) (p := p) (by simpa using e) (by simpa using e') t
    exact ⟨L', .exc h1, h2, h3⟩
  | _, _, _, .val b l, nd, i + 1, p, e, e', t => by
    obtain ⟨L', h1, h2, h3⟩ := EnvR.see l nd (i := i) (p := p) (by simpa using e) (by simpa using e') t
    exact ⟨L', .val b h1, h2, h3⟩
  | _, _, _, @EnvR.own _ _ _ _ p0 k0 o0 _ _ L0 b l, nd, i + 1, p, e, e', t => by
    rw [List.map_cons, List.nodup_cons] at nd
    obtain ⟨L', h1, h2, h3⟩ := EnvR.see l nd.2 (i := i) (p := p) (by simpa using e) (by simpa using e') t
    refine ⟨_, .own b h1, h2.cons₂ _, ?_⟩
    rw [List.map_cons]
    intro z
    rcases List.mem_cons.mp z with z | z
    · obtain ⟨p', h4, h5, _⟩ := EnvR.getO l (i := i) (by simpa using e)
      have : p' = p := by
        rw [List.getElem?_cons_succ, h4] at e'
        injection e' with e'; injection e' with e'; injection e'
      subst this
      exact nd.1 (z ▸ List.mem_map.mpr ⟨_, h5, rfl⟩)
    · exact h3 z

/-- .. or is let go -/
theorem EnvR.hide {o : OD} {k : Nat} : ∀ {σ : L2.St} {Γ : EnvF} {L : List (Addr × OD)}, EnvR K G P σ Γ L → (L.map (·.1)).Nodup → ∀ {i : Nat} {p : Addr}, Γ[i]? = some (.own k o) → σ[i]? = some (some (.ref p)) → ∃ L', EnvR K G P σ (Γ.set i .no) L' ∧ L'.Sublist L ∧ p ∉ L'.map (·.1)
  | _, _, _, .nil, nd, i, p, e, _ => by simp at e
  | _, _, _, .no l, nd, 0, p, e, _ => by simp at e
  | _, _, _, .exc l, nd, 0, p, e, _ => by simp at e
  | _, _, _, .val b l, nd, 0, p, e, _ => by simp at e
  | _, _, _, .own b l, nd, 0, p, e, e' => by
    simp at e e'; subst e'
    rw [List.map_cons, List.nodup_cons] at nd
    exact ⟨_, .no l, List.sublist_cons_self _ _, nd.1⟩
  | _, _, _, .no l, nd, i + 1, p, e, e' => by
    obtain ⟨L', h1, h2, h3⟩ := EnvR.hide l nd (i := i) (p := p) (by simpa using e) (by simpa using e')
    exact ⟨L', .no h1, h2, h3⟩
  | _, _, _, .exc l, nd, i + 1, p, e, e' => by
    obtain ⟨L', h1, h2, h3⟩ := EnvR.hide l nd (i := i) (p := p) (by simpa using e) (by simpa using e')
    exact ⟨L', .exc h1, h2, h3⟩
  | _, _, _, .val b l, nd, i + 1, p, e, e' => by
    obtain ⟨L', h1, h2, h3⟩ := EnvR.hide l nd (i := i) (p := p) (by simpa using e) (by simpa using e')
    exact ⟨L', .val b h1, h2, h3⟩
  | _, _, _, @EnvR.own _ _ _ _ p0 k0 o0 _ _ L0 b l, nd, i + 1, p, e, e' => by
    rw [List.map_cons, List.nodup_cons] at nd
    obtain ⟨L', h1, h2, h3⟩ := EnvR.hide l nd.2 (i := i) (p := p) (by simpa using e) (by simpa using e')
    refine ⟨_, .own b h1, h2.cons₂ _, ?_⟩
    rw [List.map_cons]
    intro z
    rcases List.mem_cons.mp z with z | z
    · obtain ⟨p', h4, h5, _⟩ := EnvR.getO l (i := i) (by simpa using e)
      have : p' = p := by
        rw [List.getElem?_cons_succ, h4] at e'
        injection e' with e'; injection e' with e'; injection e'
      subst this
      exact nd.1 (z ▸ List.mem_map.mpr ⟨_, h5, rfl⟩)
    · exact h3 z

/-! ### what is told of results -/
structure Rel (α β : Type) where
  r : PySem.W.Frag → L2.St → List (Addr × OD) → Ow → Hp → Hp → β → α → Prop
  mono : ∀ {K : PySem.W.Frag} {σ : L2.St} {L L' : List (Addr × OD)} {c c' : Ow} {G G' H0 H1 H2 : Hp} {b : β} {v : α}, Grow (TL L) c G H1 c' G' H2 → L'.map (·.1) = L.map (·.1) → r K σ L c G H0 b v → r K σ L' c' G' H0 b v
  back : ∀ {K : PySem.W.Frag} {σ : L2.St} {L : List (Addr × OD)} {c : Ow} {G H0 H1 : Hp} {b : β} {v : α}, (∀ a, H0 a ≠ none → H1 a ≠ none) → r K σ L c G H1 b v → r K σ L c G H0 b v
def VrAt (K : PySem.W.Frag) (σ : L2.St) (L : List (Addr × OD)) (c : Ow) (G H0 : Hp) (u : V) : Vr → Prop
  | .val d => At K G u d
  | .slot i => σ[i]? = some (some u)
  | .own o => ∃ p, u = .ref p ∧ c p = some o ∧ p ∉ L.map (·.1) ∧ H0 p = none
theorem VrAt.mono {H2 : Hp} {u : V} {v : Vr} (g : Grow (TL L) c G H1 c' G' H2) (e : L'.map (·.1) = L.map (·.1)) (h : VrAt K σ L c G H0 u v) : VrAt K σ L' c' G' H0 u v := by
  cases v with
  | val d => exact At.mono g.g h
  | slot i => exact h
  | own o =>
    obtain ⟨p, h1, h2, h3, h4⟩ := h
    exact ⟨p, h1, by rw [(g.f p h3 (by rw [h2]; simp)).1, h2], by rw [e]; exact h3, h4⟩
theorem VrAt.back {u : V} {v : Vr} (n : ∀ a, H0 a ≠ none → H1 a ≠ none) (h : VrAt K σ L c G H1 u v) : VrAt K σ L c G H0 u v := by
  cases v with
  | val d => exact h
  | slot i => exact h
  | own o =>
    obtain ⟨p, h1, h2, h3, h4⟩ := h
    exact ⟨p, h1, h2, h3, Classical.byContradiction fun z => n p z h4⟩
def vrR : Rel Vr V := ⟨VrAt, fun g e h => h.mono g e, fun n h => h.back n⟩
inductive VrAll (K : PySem.W.Frag) (σ : L2.St) (L : List (Addr × OD)) (c : Ow) (G H0 : Hp) : List V → List Vr → Prop
  | nil : VrAll K σ L c G H0 [] []
  | cons {u : V} {v : Vr} {us : List V} {vs : List Vr} : VrAt K σ L c G H0 u v → VrAll K σ L c G H0 us vs → VrAll K σ L c G H0 (u :: us) (v :: vs)
theorem VrAll.mono {H2 : Hp} (g : Grow (TL L) c G H1 c' G' H2) (e : L'.map (·.1) = L.map (·.1)) : ∀ {us : List V} {vs : List Vr}, VrAll K σ L c G H0 us vs → VrAll K σ L' c' G' H0 us vs
  | _, _, .nil => .nil
  | _, _, .cons a l => .cons (a.mono g e) (VrAll.mono g e l)
theorem VrAll.back (n : ∀ a, H0 a ≠ none → H1 a ≠ none) : ∀ {us : List V} {vs : List Vr}, VrAll K σ L c G H1 us vs → VrAll K σ L c G H0 us vs
  | _, _, .nil => .nil
  | _, _, .cons a l => .cons (a.back n) (VrAll.back n l)
def arR : Rel (List Vr) (List V) := ⟨VrAll, fun g e h => h.mono g e, fun n h => h.back n⟩
def eqR (α : Type) : Rel α α := ⟨fun _ _ _ _ _ _ b v => b = v, fun _ _ h => h, fun _ h => h⟩

/-! ### a reading and its function -/
/-- what is to be shown for an exception -/
def PostX (K : PySem.W.Frag) (P : List Addr) (W : WX) (c : Ow) (G H : Hp) (L : List (Addr × OD)) (cn f : Str) (d : D) (Γ' : EnvF) : Prop := ∀ C dd fv σ' c' G' H' L', Grow (TL L) c G H c' G' H' → Sta K P c' G' H' σ' Γ' L' → (∀ e ∈ L', TL L e.1 ∨ H e.1 = none) → CT K cn C → H' dd = some (.xd [(f, fv)]) → At K G' fv d → W (.ref C) (some dd) σ' H'
def PostE {α β : Type} (R : Rel α β) (K : PySem.W.Frag) (P : List Addr) (W : WX) (σ : L2.St) (c : Ow) (G H : Hp) (L : List (Addr × OD)) (Q : β → Hp → Prop) : Rt α → Prop
   | .ok v Γ' => ∀ b c' G' H' L', Grow (TL L) c G H c' G' H' → Sta K P c' G' H' σ Γ' L' → L'.map (·.1) = L.map (·.1) → R.r K σ L' c' G' H b v → Q b H'
   | .ex cn f d Γ' => PostX K P W c G H L cn f d Γ'
def Run {α β : Type} (R : Rel α β) (K : PySem.W.Frag) (P : List Addr) (W : WX) (σ : L2.St) (c : Ow) (G H : Hp) (L : List (Addr × OD)) (t : (β → Hp → Prop) → Prop) (o : Option (Rt α)) : Prop := ∀ r, o = some r → ∀ Q : β → Hp → Prop, PostE R K P W σ c G H L Q r → t Q
theorem FM.bind_some {α β : Type} {x : FM α} {k : α → FM β} {Γ : EnvF} {r : Rt β} (e : FM.bind x k Γ = some r) : (∃ v Γ1, x Γ = some (.ok v Γ1) ∧ k v Γ1 = some r) ∨ ∃ c f d Γ1, x Γ = some (.ex c f d Γ1) ∧ r = .ex c f d Γ1 := by
  unfold FM.bind at e
  cases ex : x Γ with
  | none => rw [ex] at e; cases e
  | some r0 =>
    rw [ex] at e
    cases r0 with
    | ok v Γ1 => exact .inl ⟨v, Γ1, rfl, e⟩
    | ex c f d Γ1 => cases e; exact .inr ⟨c, f, d, Γ1, rfl, rfl⟩
theorem Sta.tl {e : L'.map (·.1) = L.map (·.1)} : ∀ b, TL L' b → TL L b := fun b h => by unfold TL at h ⊢; rwa [e] at h
theorem PostX.trans {c1 : Ow} {G1 : Hp} {L1 : List (Addr × OD)} {cn f : Str} {d : D} (v : Iv K c G H) (g : Grow (TL L) c G H c1 G1 H1) (e : ∀ x ∈ L1, TL L x.1 ∨ H x.1 = none) (h : PostX K P W c G H L cn f d Γ') : PostX K P W c1 G1 H1 L1 cn f d Γ' := by
  have e' : ∀ b, TL L1 b → TL L b ∨ H b = none := fun b hb => by
    obtain ⟨x, hx, ex⟩ := List.mem_map.mp hb
    exact ex ▸ e x hx
  intro C dd fv σ' c' G' H' L' g' s' n' ct hd t
  refine h C dd fv σ' c' G' H' L' (g.trans' v g' (fun _ z => z) e') s' (fun x hx => ?_) ct hd t
  rcases n' x hx with z | z
  · exact e' _ z
  · refine .inr ?_
    cases q : H x.1 with
    | none => rfl
    | some o => exact absurd z (g.n _ (by rw [q]; simp))
theorem tl_of (e : L'.map (·.1) = L.map (·.1)) : ∀ x ∈ L', TL L x.1 ∨ H x.1 = none := fun x hx => .inl (by unfold TL; rw [← e]; exact List.mem_map.mpr ⟨x, hx, rfl⟩)
end
end DF
namespace DF
open PySem L2
variable [TbC]
section
variable {K : PySem.W.Frag} {G G' H H' H0 H1 : Hp} {P : List Addr} {σ σ' : L2.St} {Γ Γ' : EnvF} {L L' : List (Addr × OD)} {c c' : Ow} {W : WX}
theorem Run.bind {α β α' β' : Type} {R : Rel α β} {R' : Rel α' β'} {t : (β → Hp → Prop) → Prop} {t2 : β → Hp → (β' → Hp → Prop) → Prop} {x : FM α} {k : α → FM α'} (iv : Iv K c G H)
    (h : Run R K P W σ c G H L t (x Γ))
    (hk : ∀ v Γ1 b c1 G1 H1 L1, Grow (TL L) c G H c1 G1 H1 → Sta K P c1 G1 H1 σ Γ1 L1 → L1.map (·.1) = L.map (·.1) → R.r K σ L1 c1 G1 H b v → Run R' K P W σ c1 G1 H1 L1 (t2 b H1) (k v Γ1)) :
    Run R' K P W σ c G H L (fun Q => t fun b H1 => t2 b H1 Q) (FM.bind x k Γ) := by
  intro r e Q post
  unfold FM.bind at e
  cases ex : x Γ with
  | none => rw [ex] at e; cases e
  | some r0 =>
    rw [ex] at e
    refine h r0 ex _ ?_
    cases r0 with
    | ok v Γ1 =>
      intro b c1 G1 H1 L1 g1 s1 e1 r1
      refine hk v Γ1 b c1 G1 H1 L1 g1 s1 e1 r1 r e Q ?_
      cases r with
      | ok v' Γ' =>
        intro b' c' G' H' L' g' s' e' r'
        exact post b' c' G' H' L' (g1.trans' iv g' (fun _ z => z) fun b z => .inl (by unfold TL at z ⊢; rwa [e1] at z)) s' (e'.trans e1) (R'.back (fun a z => g1.n a z) r')
      | ex cn f d Γ' => exact PostX.trans iv g1 (tl_of e1) post
    | ex cn f d Γ1 =>
      cases e
      exact post
def SimX {α β : Type} (R : Rel α β) (K : PySem.W.Frag) (W : WX) (t : L2.St → Hp → (β → Hp → Prop) → Prop) (f : FM α) : Prop := ∀ P σ c G H Γ L, Sta K P c G H σ Γ L → Run R K P W σ c G H L (t σ H) (f Γ)
abbrev SimE := SimX (α := Vr) (β := V) vrR
abbrev SimA := SimX (α := List Vr) (β := List V) arR
abbrev SimT := SimX (α := Bool) (β := Bool) (eqR Bool)
abbrev SimO := SimX (α := Option Int) (β := Option Int) (eqR (Option Int))
/-- a result at once -/
theorem Run.now {α β : Type} {R : Rel α β} {v : α} {b : β} (s : Sta K P c G H σ Γ L) (h : R.r K σ L c G H b v) : Run R K P W σ c G H L (fun Q => Q b H) (some (.ok v Γ)) := by
  intro r e Q post
  cases e
  exact post b c G H L .refl s rfl h
theorem Sta.pg (s : Sta K P c G H σ Γ L) (g : PG G H G' H') : Sta K P c G' H' σ Γ L := ⟨s.r.mono g.g, s.nd, s.ow, g.iv s.iv, fun p hp => g.m p (s.pa p hp)⟩
/-- .. by pure growth -/
theorem Run.pure {d : D} {t : (V → Hp → Prop) → Prop} (s : Sta K P c G H σ Γ L) (h : ∀ Q : V → Hp → Prop, (∀ w G' H', PG G H G' H' → At K G' w d → Q w H') → t Q) : Run vrR K P W σ c G H L t (some (.ok (.val d) Γ)) := by
  intro r e Q post
  cases e
  exact h Q fun w G' H' g t => post w c G' H' L (g.grow s.iv) (s.pg g) rfl t

/-! statements -/
structure PostS (K : PySem.W.Frag) (P : List Addr) (W : WX) (c : Ow) (G H : Hp) (L : List (Addr × OD)) (r : Rt Fl) (Dn : Ends) : Prop where
  nx : ∀ Γ', r = .ok .nx Γ' → ∀ σ' c' G' H' L', Grow (TL L) c G H c' G' H' → Sta K P c' G' H' σ' Γ' L' → (∀ e ∈ L', TL L e.1 ∨ H e.1 = none) → Dn.nx σ' H'
  bk : ∀ Γ', r = .ok .bk Γ' → ∀ σ' c' G' H' L', Grow (TL L) c G H c' G' H' → Sta K P c' G' H' σ' Γ' L' → (∀ e ∈ L', TL L e.1 ∨ H e.1 = none) → Dn.bk σ' H'
  ct : ∀ Γ', r = .ok .ct Γ' → ∀ σ' c' G' H' L', Grow (TL L) c G H c' G' H' → Sta K P c' G' H' σ' Γ' L' → (∀ e ∈ L', TL L e.1 ∨ H e.1 = none) → Dn.ct σ' H'
  rt : ∀ v Γ', r = .ok (.rt v) Γ' → ∀ u σ' c' G' H' L', Grow (TL L) c G H c' G' H' → Sta K P c' G' H' σ' Γ' L' → (∀ e ∈ L', TL L e.1 ∨ H e.1 = none) → VrAt K σ' L' c' G' H u v → Dn.rt u H'
  ex : ∀ cn f d Γ', r = .ex cn f d Γ' → PostX K P W c G H L cn f d Γ'
def RunS (K : PySem.W.Frag) (P : List Addr) (W : WX) (c : Ow) (G H : Hp) (L : List (Addr × OD)) (t : Ends → Prop) (o : Option (Rt Fl)) : Prop := ∀ r, o = some r → ∀ Dn, PostS K P W c G H L r Dn → t Dn
def SimS (K : PySem.W.Frag) (W : WX) (t : TS) (f : FS) : Prop := ∀ P σ c G H Γ L, Sta K P c G H σ Γ L → RunS K P W c G H L (fun Dn => t Dn σ H) (f Γ)
theorem PostS.trans {c1 : Ow} {G1 : Hp} {L1 : List (Addr × OD)} {r : Rt Fl} {Dn : Ends} (v : Iv K c G H) (g : Grow (TL L) c G H c1 G1 H1) (e : ∀ x ∈ L1, TL L x.1 ∨ H x.1 = none) (h : PostS K P W c G H L r Dn) : PostS K P W c1 G1 H1 L1 r Dn := by
  have e' : ∀ b, TL L1 b → TL L b ∨ H b = none := fun b hb => by
    obtain ⟨x, hx, ex⟩ := List.mem_map.mp hb
    exact ex ▸ e x hx
  have n' : ∀ {L' : List (Addr × OD)}, (∀ x ∈ L', TL L1 x.1 ∨ H1 x.1 = none) → ∀ x ∈ L', TL L x.1 ∨ H x.1 = none := fun n x hx => by
    rcases n x hx with z | z
    · exact e' _ z
    · refine .inr ?_
      cases q : H x.1 with
      | none => rfl
      | some o => exact absurd z (g.n _ (by rw [q]; simp))
  exact ⟨fun Γ' er σ' c' G' H' L' g' s' n => h.nx Γ' er σ' c' G' H' L' (g.trans' v g' (fun _ z => z) e') s' (n' n),
   fun Γ' er σ' c' G' H' L' g' s' n => h.bk Γ' er σ' c' G' H' L' (g.trans' v g' (fun _ z => z) e') s' (n' n),
   fun Γ' er σ' c' G' H' L' g' s' n => h.ct Γ' er σ' c' G' H' L' (g.trans' v g' (fun _ z => z) e') s' (n' n),
   fun w Γ' er u σ' c' G' H' L' g' s' n t => h.rt w Γ' er u σ' c' G' H' L' (g.trans' v g' (fun _ z => z) e') s' (n' n) (t.back g.n),
   fun cn f d Γ' er => PostX.trans v g e (h.ex cn f d Γ' er)⟩
/-- a statement that evaluates first -/
theorem RunS.bind {α β : Type} {R : Rel α β} {t : (β → Hp → Prop) → Prop} {t2 : β → Hp → Ends → Prop} {x : FM α} {k : α → FS} (iv : Iv K c G H)
    (h : Run R K P W σ c G H L t (x Γ))
    (hk : ∀ v Γ1 b c1 G1 H1 L1, Grow (TL L) c G H c1 G1 H1 → Sta K P c1 G1 H1 σ Γ1 L1 → L1.map (·.1) = L.map (·.1) → R.r K σ L1 c1 G1 H b v → RunS K P W c1 G1 H1 L1 (t2 b H1) (k v Γ1)) :
    RunS K P W c G H L (fun Dn => t fun b H1 => t2 b H1 Dn) (FM.bind x k Γ) := by
  intro r e Dn post
  unfold FM.bind at e
  cases ex : x Γ with
  | none => rw [ex] at e; cases e
  | some r0 =>
    rw [ex] at e
    refine h r0 ex _ ?_
    cases r0 with
    | ok v Γ1 =>
      intro b c1 G1 H1 L1 g1 s1 e1 r1
      exact hk v Γ1 b c1 G1 H1 L1 g1 s1 e1 r1 r e Dn (post.trans iv g1 (tl_of e1))
    | ex cn f d Γ1 =>
      cases e
      exact post.ex cn f d Γ1 rfl
def fNx : FS := FM.pure .nx
def fSeq (a b : FS) : FS := FM.bind a fun | .nx => b | r => FM.pure r
theorem sim_next : SimS K W tNext fNx := by
  intro P σ c G H Γ L s r e Dn post
  cases e
  exact post.nx Γ rfl σ c G H L .refl s fun x hx => .inl (List.mem_map.mpr ⟨x, hx, rfl⟩)
theorem sim_seq {ta tb : TS} {fa fb : FS} (ha : SimS K W ta fa) (hb : SimS K W tb fb) : SimS K W (tSeq ta tb) (fSeq fa fb) := by
  intro P σ c G H Γ L s r e Dn post
  unfold fSeq FM.bind at e
  cases ex : fa Γ with
  | none => rw [ex] at e; cases e
  | some r0 =>
    rw [ex] at e
    refine ha P σ c G H Γ L s r0 ex _ ?_
    cases r0 with
    | ok v Γ1 =>
      cases v with
      | nx =>
        refine ⟨fun Γ' er σ' c' G' H' L' g' s' n' => ?_, fun _ er => (by cases er), fun _ er => (by cases er), fun _ _ er => (by cases er), fun _ _ _ _ er => (by cases er)⟩
        cases er
        exact hb P σ' c' G' H' _ L' s' r e Dn (post.trans s.iv g' n')
      | rt v => cases e; exact ⟨fun _ er => (by cases er), fun _ er => (by cases er), fun _ er => (by cases er), post.rt, fun _ _ _ _ er => (by cases er)⟩
      | bk => cases e; exact ⟨fun _ er => (by cases er), post.bk, fun _ er => (by cases er), fun _ _ er => (by cases er), fun _ _ _ _ er => (by cases er)⟩
      | ct => cases e; exact ⟨fun _ er => (by cases er), fun _ er => (by cases er), post.ct, fun _ _ er => (by cases er), fun _ _ _ _ er => (by cases er)⟩
    | ex cn f d Γ1 => cases e; exact ⟨fun _ er => (by cases er), fun _ er => (by cases er), fun _ er => (by cases er), fun _ _ er => (by cases er), post.ex⟩
end
end DF

set_option linter.all false
set_option maxRecDepth 100000
set_option maxHeartbeats 4000000
namespace DF
open PySem L2
variable [TbC]
section
variable {K : PySem.W.Frag} {G G' H H' H0 H1 : Hp} {P : List Addr} {σ σ' : L2.St} {Γ Γ' : EnvF} {L L' : List (Addr × OD)} {c c' : Ow} {W : WX}
variable {ta tb te tc' : TE} {t tr : TA} {fa fb fc : FE} {fs fr : FA} {tt tu : TT} {ft fu : FT}
/-! values -/
def dR : Rel D V := ⟨fun K _ _ _ G _ u d => At K G u d, fun g _ h => h.mono g.g, fun _ h => h⟩
def dsR : Rel (List D) (List V) := ⟨fun K _ _ _ G _ u d => AtL K G u d, fun g _ h => h.mono g.g, fun _ h => h⟩
abbrev SimD := SimX (α := D) (β := V) dR
abbrev SimDs := SimX (α := List D) (β := List V) dsR
theorem PG.ofGrow (g' : Grow (TL []) (fun _ => none) G H c' G' H') (iv' : Iv K c' G' H') : PG G H G' H' :=
  ⟨g'.g, fun b o ho e => g'.h b o rfl ho e, iv'.i, fun b hb => (g'.w b hb).elim .inl fun z => z.elim .inr fun z => by simp [TL] at z, g'.n, fun _ => iv'.nt, fun _ => iv'.tb⟩
def fFail {α : Type} : FM α := fun _ => none
def fOf {α : Type} : Option α → FM α
  | some v => FM.pure v
  | none => fFail
def fV (f : FE) : FM D := FM.bind f fun | .val d => FM.pure d | _ => fFail
def fR (f : FM D) : FE := FM.bind f fun d => FM.pure (.val d)
theorem run_fail {α β : Type} {R : Rel α β} {tx : (β → Hp → Prop) → Prop} : Run R K P W σ c G H L tx none := fun r e => by cases e
theorem sim_val (h : SimE K W te fa) : SimD K W te (fV fa) := fun P σ c G H Γ L s =>
  Run.bind (t2 := fun u H1 Q => Q u H1) s.iv (h P σ c G H Γ L s) fun v Γ1 b c1 G1 H1 L1 g1 s1 e1 r1 => by
    cases v with
    | val d => exact Run.now s1 r1
    | slot i => exact run_fail
    | own o => exact run_fail
/-- what a list of values is -/
def valsOf : List Vr → Option (List D)
  | [] => some []
  | .val d :: vs => (valsOf vs).map (d :: ·)
  | _ :: _ => none
theorem vals_at {us : List V} : ∀ {vs : List Vr} {ds : List D}, VrAll K σ L c G H0 us vs → valsOf vs = some ds → AtL K G us ds := by
  induction us with
  | nil => intro vs ds h e; cases h; cases e; exact .nil
  | cons u us ih =>
    intro vs ds h e
    cases h with
    | @cons _ v _ vs a l =>
      cases v with
      | val d =>
        unfold valsOf at e
        cases ev : valsOf vs with
        | none => rw [ev] at e; cases e
        | some es => rw [ev] at e; cases e; exact .cons a (ih l ev)
      | slot i => cases e
      | own o => cases e
def fVs (f : FA) : FM (List D) := FM.bind f fun vs => fOf (valsOf vs)
theorem sim_vals (h : SimA K W t fs) : SimDs K W t (fVs fs) := fun P σ c G H Γ L s =>
  Run.bind (t2 := fun u H1 Q => Q u H1) s.iv (h P σ c G H Γ L s) fun v Γ1 b c1 G1 H1 L1 g1 s1 e1 r1 => by
    cases e : valsOf v with
    | none => exact run_fail
    | some ds => exact Run.now s1 (vals_at r1 e)
/-! constants, names -/
def fC (d : D) : FE := FM.pure (.val d)
theorem sim_c {u : V} {d : D} (h : ∀ G, At K G u d) : SimE K W (tC u) (fC d) := fun P σ c G H Γ L s => Run.now s (h G)
theorem sim_int {i : Int} : SimE K W (tC (.int i)) (fC (.int i)) := sim_c fun _ => .int i
theorem sim_str {i : Str} : SimE K W (tC (.str i)) (fC (.str i)) := sim_c fun _ => .str i
theorem sim_bl {i : Bool} : SimE K W (tC (.bl i)) (fC (.bl i)) := sim_c fun _ => .bl i
theorem sim_non : SimE K W (tC .non) (fC .non) := sim_c fun _ => .non
theorem sim_ty {i : String} : SimE K W (tC (.ty i)) (fC (.ty i)) := sim_c fun _ => .ty i
theorem sim_cls {a : Addr} {x : Str} (h : CT K x a) : SimE K W (tC (.ref a)) (fC (.cls x)) := sim_c fun _ => .cls h
def fVar (i : Nat) : FE := fun Γ => match Γ[i]? with
  | some (.val d) => some (.ok (.val d) Γ)
  | some (.own _ _) => some (.ok (.slot i) Γ)
  | _ => none
theorem sim_var {i : Nat} : SimE K W (tVar i) (fVar i) := fun P σ c G H Γ L s r e Q post => by
  unfold fVar at e
  cases ei : Γ[i]? with
  | none => rw [ei] at e; cases e
  | some x =>
    rw [ei] at e
    cases x with
    | no => cases e
    | exc => cases e
    | val d =>
      cases e
      obtain ⟨v, h1, h2⟩ := s.r.get ei
      exact ⟨v, h1, post v c G H L .refl s rfl h2⟩
    | own k o =>
      cases e
      obtain ⟨p, h1, h2, h3⟩ := s.r.getO ei
      exact ⟨.ref p, h1, post _ c G H L .refl s rfl h1⟩
/-! operations on values -/
def SimR2 (K : PySem.W.Frag) (r : R2) (f : D → D → Option D) : Prop := ∀ x y z, f x y = some z → ∀ G H u v, Bs G H → At K G u x → At K G v y → ∀ Q : VK, (∀ w G' H', PG G H G' H' → At K G' w z → Q w H') → r u v H Q
def SimR1 (K : PySem.W.Frag) (r : V → Hp → VK → Prop) (f : D → Option D) : Prop := ∀ x z, f x = some z → ∀ G H u, Bs G H → At K G u x → ∀ Q : VK, (∀ w G' H', PG G H G' H' → At K G' w z → Q w H') → r u H Q
def SimC (K : PySem.W.Frag) (r : List V → Hp → VK → Prop) (f : List D → Option D) : Prop := ∀ xs z, f xs = some z → ∀ G H us, Bs G H → AtL K G us xs → ∀ Q : VK, (∀ w G' H', PG G H G' H' → At K G' w z → Q w H') → r us H Q
def fOp (f : D → D → Option D) (a b : FE) : FE := fR (FM.bind (fV a) fun x => FM.bind (fV b) fun y => fOf (f x y))
def fUn (f : D → Option D) (a : FE) : FE := fR (FM.bind (fV a) fun x => fOf (f x))
def fCB (f : List D → Option D) (a : FA) : FE := fR (FM.bind (fVs a) fun x => fOf (f x))
theorem fR_bind {α : Type} (x : FM α) (k : α → FM D) : fR (FM.bind x k) = FM.bind x fun v => fR (k v) := by
  funext Γ
  unfold fR FM.bind
  cases x Γ with
  | none => rfl
  | some r => cases r <;> rfl
theorem fR_of (o : Option D) (Γ : EnvF) : fR (fOf o) Γ = o.map fun d => .ok (.val d) Γ := by
  cases o <;> rfl
theorem run_of {o : Option D} {tx : VK → Prop} (s : Sta K P c G H σ Γ L) (h : ∀ z, o = some z → ∀ Q : VK, (∀ w G' H', PG G H G' H' → At K G' w z → Q w H') → tx Q) : Run vrR K P W σ c G H L tx (fR (fOf o) Γ) := by
  rw [fR_of]
  cases o with
  | none => exact run_fail
  | some z => exact Run.pure s (h z rfl)
theorem sim_op {r : R2} {f : D → D → Option D} (hr : SimR2 K r f) (ha : SimE K W ta fa) (hb : SimE K W tb fb) : SimE K W (tOp r ta tb) (fOp f fa fb) := fun P σ c G H Γ L s => by
  unfold fOp
  rw [fR_bind]
  refine Run.bind (t2 := fun x H1 Q => tb σ H1 fun y H2 => r x y H2 Q) s.iv (sim_val ha P σ c G H Γ L s) fun x Γ1 u c1 G1 H1 L1 g1 s1 e1 r1 => ?_
  rw [fR_bind]
  refine Run.bind (t2 := fun y H2 Q => r u y H2 Q) s1.iv (sim_val hb P σ c1 G1 H1 Γ1 L1 s1) fun y Γ2 v c2 G2 H2 L2' g2 s2 e2 r2 => ?_
  exact run_of s2 fun z ez Q q => hr x y z ez G2 H2 u v s2.iv.bs (r1.mono g2.g) r2 Q q
theorem sim_un {r : V → Hp → VK → Prop} {f : D → Option D} (hr : SimR1 K r f) (ha : SimE K W ta fa) : SimE K W (tUn r ta) (fUn f fa) := fun P σ c G H Γ L s => by
  unfold fUn
  rw [fR_bind]
  refine Run.bind (t2 := fun x H1 Q => r x H1 Q) s.iv (sim_val ha P σ c G H Γ L s) fun x Γ1 u c1 G1 H1 L1 g1 s1 e1 r1 => ?_
  exact run_of s1 fun z ez Q q => hr x z ez G1 H1 u s1.iv.bs r1 Q q
theorem sim_cb {r : List V → Hp → VK → Prop} {f : List D → Option D} (hr : SimC K r f) (ha : SimA K W t fs) : SimE K W (tCB r t) (fCB f fs) := fun P σ c G H Γ L s => by
  unfold fCB
  rw [fR_bind]
  refine Run.bind (t2 := fun x H1 Q => r x H1 Q) s.iv (sim_vals ha P σ c G H Γ L s) fun x Γ1 u c1 G1 H1 L1 g1 s1 e1 r1 => ?_
  exact run_of s1 fun z ez Q q => hr x z ez G1 H1 u s1.iv.bs r1 Q q
/-! lists of arguments -/
def fNil : FA := FM.pure []
def fCons (a : FE) (r : FA) : FA := FM.bind a fun x => FM.bind r fun xs => FM.pure (x :: xs)
theorem sim_nil : SimA K W tNil fNil := fun P σ c G H Γ L s => Run.now s .nil
theorem Run.bind2 {α β α2 β2 α' β' : Type} {R1 : Rel α β} {R2 : Rel α2 β2} {R' : Rel α' β'} {g : α → α2 → α'} {gb : β → β2 → β'} {tx : (β → Hp → Prop) → Prop} {t2 : Hp → (β2 → Hp → Prop) → Prop} {x : FM α} {k : FM α2} (iv : Iv K c G H)
    (h : Run R1 K P W σ c G H L tx (x Γ))
    (hk : ∀ Γ1 c1 G1 H1 L1, Sta K P c1 G1 H1 σ Γ1 L1 → Run R2 K P W σ c1 G1 H1 L1 (t2 H1) (k Γ1))
    (comb : ∀ L c G v w b b2, R1.r K σ L c G H b v → R2.r K σ L c G H b2 w → R'.r K σ L c G H (gb b b2) (g v w)) :
    Run R' K P W σ c G H L (fun Q => tx fun b H1 => t2 H1 fun b2 H2 => Q (gb b b2) H2) (FM.bind x (fun v => FM.bind k fun w => FM.pure (g v w)) Γ) := by
  intro r e Q post
  unfold FM.bind at e
  cases ex : x Γ with
  | none => rw [ex] at e; cases e
  | some r0 =>
    rw [ex] at e
    refine h r0 ex _ ?_
    cases r0 with
    | ok v Γ1 =>
      intro b c1 G1 H1 L1 g1 s1 e1 r1
      have e : (match k Γ1 with
        | some (.ok w Γ') => some (.ok (g v w) Γ')
        | some (.ex c f d Γ') => some (.ex c f d Γ')
        | none => none) = some r := e
      cases ek : k Γ1 with
      | none => rw [ek] at e; cases e
      | some r2 =>
        rw [ek] at e
        refine hk Γ1 c1 G1 H1 L1 s1 r2 ek _ ?_
        cases r2 with
        | ok w Γ2 =>
          cases e
          intro b2 c2 G2 H2 L2' g2 s2 e2 q2
          exact post (gb b b2) c2 G2 H2 L2' (g1.trans' iv g2 (fun _ z => z) fun b z => .inl (by unfold TL at z ⊢; rwa [e1] at z)) s2 (e2.trans e1) (comb L2' c2 G2 v w b b2 (R1.mono g2 e2 r1) (R2.back g1.n q2))
        | ex cn f d Γ2 =>
          cases e
          exact PostX.trans iv g1 (tl_of e1) post
    | ex cn f d Γ1 =>
      cases e
      exact post
theorem sim_cons (ha : SimE K W te fa) (hr : SimA K W tr fr) : SimA K W (tCons te tr) (fCons fa fr) := fun P σ c G H Γ L s =>
  Run.bind2 (t2 := fun H1 Q => tr σ H1 Q) (gb := fun x xs => x :: xs) (g := fun x xs => x :: xs) s.iv (ha P σ c G H Γ L s) (fun Γ1 c1 G1 H1 L1 s1 => hr P σ c1 G1 H1 Γ1 L1 s1) fun L c G v w b b2 h1 h2 => .cons h1 h2
/-! tuples, lists -/
def fTup (a : FA) : FE := fR (FM.bind (fVs a) fun ds => if ds.length ≤ 16777216 then FM.pure (.tup ds) else fFail)
theorem fR_if {p : Prop} [Decidable p] (x y : FM D) : fR (if p then x else y) = if p then fR x else fR y := by split <;> rfl
theorem fR_pure (d : D) : fR (FM.pure d) = FM.pure (.val d) := rfl
theorem fR_fail : fR fFail = fFail := rfl
theorem sim_tup (h : SimA K W t fs) : SimE K W (tTup t) (fTup fs) := fun P σ c G H Γ L s => by
  unfold fTup
  rw [fR_bind]
  refine Run.bind (R' := vrR) (t2 := fun xs H1 Q => xs.length ≤ sizeLine ∧ ∀ p, H1 p = none → Q (V.ref p) (upd H1 p (.tup xs))) s.iv (sim_vals h P σ c G H Γ L s) fun x Γ1 u c1 G1 H1 L1 g1 s1 e1 r1 => ?_
  by_cases hl : x.length ≤ 16777216
  · rw [if_pos hl]
    refine Run.pure s1 fun Q q => ⟨by rw [AtL.length r1, sizeLine_eq]; exact hl, fun p hp => ?_⟩
    have gn := PG.new (G := G1) (o := .tup u) s1.iv.i hp
    exact q (.ref p) _ _ gn (.tup (.inl (.inl upd_same)) (AtL.mono gn.g r1))
  · rw [if_neg hl]; exact run_fail
def fLst (a : FA) : FE := fR (FM.bind (fVs a) fun ds => if ds.length ≤ 16777216 then FM.pure (.lst ds) else fFail)
theorem sim_lst (h : SimA K W t fs) : SimE K W (tLst t) (fLst fs) := fun P σ c G H Γ L s => by
  unfold fLst
  rw [fR_bind]
  refine Run.bind (R' := vrR) (t2 := fun xs H1 Q => xs.length ≤ sizeLine ∧ ∀ p, H1 p = none → Q (V.ref p) (upd H1 p (.lst xs))) s.iv (sim_vals h P σ c G H Γ L s) fun x Γ1 u c1 G1 H1 L1 g1 s1 e1 r1 => ?_
  by_cases hl : x.length ≤ 16777216
  · rw [if_pos hl]
    refine Run.pure s1 fun Q q => ⟨by rw [AtL.length r1, sizeLine_eq]; exact hl, fun p hp => ?_⟩
    have gn := PG.new (G := G1) (o := .lst u) s1.iv.i hp
    exact q (.ref p) _ _ gn (.lst upd_same (AtL.mono gn.g r1))
  · rw [if_neg hl]; exact run_fail
/-- a list of one's own -/
def fLstO (a : FA) : FE := FM.bind (fVs a) fun ds => if ds.length ≤ 16777216 then FM.pure (.own (.lst ds)) else fFail
theorem Run.fresh {o : OD} {ho : HO} {tx : VK → Prop} {p : Addr} (s : Sta K P c G H σ Γ L) (hp : H p = none) (hh : HasO K G (upd H p ho) p o) {Q : VK}
    (post : ∀ b c' G' H' L', Grow (TL L) c G H c' G' H' → Sta K P c' G' H' σ Γ L' → L'.map (·.1) = L.map (·.1) → VrAt K σ L' c' G' H b (.own o) → Q b H') : Q (.ref p) (upd H p ho) := by
  obtain ⟨g, v⟩ := own_new (T := TL L) s.iv hp hh
  have np : ∀ e ∈ L, e.1 ≠ p := fun e he z => by
    have := (s.iv.ow e.1 e.2 (s.ow e he)).2.some
    rw [z] at this; exact this hp
  refine post _ _ _ _ L g ⟨s.r, s.nd, fun e he => by rw [Ow.put_ne (np e he)]; exact s.ow e he, v, fun q hq => g.n q (s.pa q hq)⟩ rfl ⟨p, rfl, Ow.put_same, fun z => ?_, hp⟩
  obtain ⟨e, he, ee⟩ := List.mem_map.mp z
  exact np e he ee
theorem sim_lstO (h : SimA K W t fs) : SimE K W (tLst t) (fLstO fs) := fun P σ c G H Γ L s => by
  unfold fLstO
  refine Run.bind (R' := vrR) (t2 := fun xs H1 Q => xs.length ≤ sizeLine ∧ ∀ p, H1 p = none → Q (V.ref p) (upd H1 p (.lst xs))) s.iv (sim_vals h P σ c G H Γ L s) fun x Γ1 u c1 G1 H1 L1 g1 s1 e1 r1 => ?_
  by_cases hl : x.length ≤ 16777216
  · rw [if_pos hl]
    intro r e Q post
    cases e
    exact ⟨by rw [AtL.length r1, sizeLine_eq]; exact hl, fun p hp => Run.fresh (o := .lst x) (ho := .lst u) (tx := fun _ => True) s1 hp ⟨u, upd_same, r1⟩ post⟩
  · rw [if_neg hl]; exact run_fail
/-! choices -/
def fIf (a : FT) (b c : FE) : FE := FM.bind a fun k => if k = true then b else c
theorem sim_if (ha : SimT K W tt ft) (hb : SimE K W ta fa) (hc : SimE K W tb fb) : SimE K W (tIf tt ta tb) (fIf ft fa fb) := fun P σ c G H Γ L s =>
  Run.bind (t2 := fun k H1 Q => if k = true then ta σ H1 Q else tb σ H1 Q) s.iv (ha P σ c G H Γ L s) fun k Γ1 b c1 G1 H1 L1 g1 s1 e1 r1 => by
    have e : b = k := r1
    subst e
    cases b with
    | true => exact hb P σ c1 G1 H1 Γ1 L1 s1
    | false => exact hc P σ c1 G1 H1 Γ1 L1 s1
def boolOf : D → Option Bool
  | .bl b => some b
  | _ => none
theorem at_bool {u : V} {d : D} {b : Bool} (h : At K G u d) (e : boolOf d = some b) : u = .bl b := by
  cases d with
  | bl k => cases e; cases h; rfl
  | _ => cases e
def fAndV (a b : FE) : FE := FM.bind (fV a) fun x => match boolOf x with | some true => b | some false => FM.pure (.val (.bl false)) | none => fFail
def fOrV (a b : FE) : FE := FM.bind (fV a) fun x => match boolOf x with | some true => FM.pure (.val (.bl true)) | some false => b | none => fFail
def fNotV (a : FE) : FE := FM.bind (fV a) fun x => match boolOf x with | some k => FM.pure (.val (.bl !k)) | none => fFail
theorem sim_andV (ha : SimE K W ta fa) (hb : SimE K W tb fb) : SimE K W (tAndV ta tb) (fAndV fa fb) := fun P σ c G H Γ L s =>
  Run.bind (t2 := fun x H1 Q => ∃ c, x = .bl c ∧ if c = true then tb σ H1 Q else Q (.bl false) H1) s.iv (sim_val ha P σ c G H Γ L s) fun x Γ1 u c1 G1 H1 L1 g1 s1 e1 r1 => by
    cases eb : boolOf x with
    | none => exact run_fail
    | some k =>
      have eu := at_bool r1 eb
      subst eu
      intro r e Q post
      cases k with
      | true => exact ⟨true, rfl, hb P σ c1 G1 H1 Γ1 L1 s1 r e Q post⟩
      | false => cases e; exact ⟨false, rfl, post _ c1 G1 H1 L1 .refl s1 rfl (.bl false)⟩
theorem sim_orV (ha : SimE K W ta fa) (hb : SimE K W tb fb) : SimE K W (tOrV ta tb) (fOrV fa fb) := fun P σ c G H Γ L s =>
  Run.bind (t2 := fun x H1 Q => ∃ c, x = .bl c ∧ if c = true then Q (.bl true) H1 else tb σ H1 Q) s.iv (sim_val ha P σ c G H Γ L s) fun x Γ1 u c1 G1 H1 L1 g1 s1 e1 r1 => by
    cases eb : boolOf x with
    | none => exact run_fail
    | some k =>
      have eu := at_bool r1 eb
      subst eu
      intro r e Q post
      cases k with
      | false => exact ⟨false, rfl, hb P σ c1 G1 H1 Γ1 L1 s1 r e Q post⟩
      | true => cases e; exact ⟨true, rfl, post _ c1 G1 H1 L1 .refl s1 rfl (.bl true)⟩
theorem sim_notV (ha : SimE K W ta fa) : SimE K W (tNotV ta) (fNotV fa) := fun P σ c G H Γ L s =>
  Run.bind (R' := vrR) (t2 := fun x H1 Q => ∃ c, x = V.bl c ∧ Q (V.bl (!c)) H1) s.iv (sim_val ha P σ c G H Γ L s) fun x Γ1 u c1 G1 H1 L1 g1 s1 e1 r1 => by
    cases eb : boolOf x with
    | none => exact run_fail
    | some k =>
      have eu := at_bool r1 eb
      subst eu
      intro r e Q post
      cases e
      exact ⟨k, rfl, post _ c1 G1 H1 L1 .refl s1 rfl (.bl _)⟩
def isNon : D → Bool
  | .non => true
  | _ => false
theorem at_non {u : V} {d : D} (h : At K G u d) : decide (u = .non) = isNon d := by
  cases h <;> rfl
def fIsN (a : FE) : FE := FM.bind (fV a) fun x => FM.pure (.val (.bl (isNon x)))
def fNotN (a : FE) : FE := FM.bind (fV a) fun x => FM.pure (.val (.bl !(isNon x)))
theorem sim_isN (ha : SimE K W ta fa) : SimE K W (tIsN ta) (fIsN fa) := fun P σ c G H Γ L s =>
  Run.bind (R' := vrR) (t2 := fun x H1 Q => Q (V.bl (decide (x = V.non))) H1) s.iv (sim_val ha P σ c G H Γ L s) fun x Γ1 u c1 G1 H1 L1 g1 s1 e1 r1 => by
    rw [at_non r1]; exact Run.now s1 (.bl _)
theorem sim_notN (ha : SimE K W ta fa) : SimE K W (tNotN ta) (fNotN fa) := fun P σ c G H Γ L s =>
  Run.bind (R' := vrR) (t2 := fun x H1 Q => Q (V.bl (!decide (x = V.non))) H1) s.iv (sim_val ha P σ c G H Γ L s) fun x Γ1 u c1 G1 H1 L1 g1 s1 e1 r1 => by
    rw [at_non r1]; exact Run.now s1 (.bl _)
/-! tests -/
def fTest (a : FE) : FT := FM.bind (fV a) fun x => fOf (boolOf x)
theorem sim_test (ha : SimE K W ta fa) : SimT K W (tTest ta) (fTest fa) := fun P σ c G H Γ L s =>
  Run.bind (t2 := fun x H1 Q => ∃ k, x = .bl k ∧ Q k H1) s.iv (sim_val ha P σ c G H Γ L s) fun x Γ1 u c1 G1 H1 L1 g1 s1 e1 r1 => by
    cases eb : boolOf x with
    | none => exact run_fail
    | some k =>
      have eu := at_bool r1 eb
      subst eu
      intro r e Q post
      cases e
      exact ⟨k, rfl, post k c1 G1 H1 L1 .refl s1 rfl rfl⟩
theorem sim_tB (ha : SimE K W ta fa) : SimT K W (tB ta) (fTest fa) := sim_test ha
def fNot (a : FT) : FT := FM.bind a fun k => FM.pure !k
def fAnd (a b : FT) : FT := FM.bind a fun k => if k = true then b else FM.pure false
def fOr (a b : FT) : FT := FM.bind a fun k => if k = true then FM.pure true else b
def fYes : FT := FM.pure true
theorem sim_not (ha : SimT K W tt ft) : SimT K W (tNot tt) (fNot ft) := fun P σ c G H Γ L s =>
  Run.bind (t2 := fun k H1 Q => Q (!k) H1) s.iv (ha P σ c G H Γ L s) fun k Γ1 b c1 G1 H1 L1 g1 s1 e1 r1 => by
    have e : b = k := r1
    subst e
    exact Run.now (R := eqR Bool) s1 rfl
theorem sim_and (ha : SimT K W tt ft) (hb : SimT K W tu fu) : SimT K W (tAnd tt tu) (fAnd ft fu) := fun P σ c G H Γ L s =>
  Run.bind (t2 := fun k H1 Q => if k = true then tu σ H1 Q else Q false H1) s.iv (ha P σ c G H Γ L s) fun k Γ1 b c1 G1 H1 L1 g1 s1 e1 r1 => by
    have e : b = k := r1
    subst e
    cases b with
    | true => exact hb P σ c1 G1 H1 Γ1 L1 s1
    | false => exact Run.now (R := eqR Bool) s1 rfl
theorem sim_or (ha : SimT K W tt ft) (hb : SimT K W tu fu) : SimT K W (tOr tt tu) (fOr ft fu) := fun P σ c G H Γ L s =>
  Run.bind (t2 := fun k H1 Q => if k = true then Q true H1 else tu σ H1 Q) s.iv (ha P σ c G H Γ L s) fun k Γ1 b c1 G1 H1 L1 g1 s1 e1 r1 => by
    have e : b = k := r1
    subst e
    cases b with
    | false => exact hb P σ c1 G1 H1 Γ1 L1 s1
    | true => exact Run.now (R := eqR Bool) s1 rfl
theorem sim_yes : SimT K W tYes fYes := fun P σ c G H Γ L s => Run.now (R := eqR Bool) s rfl
/-- a chain of two comparisons -/
def fChain (f g : D → D → Option D) (a b c : FE) : FE := FM.bind (fV a) fun x => FM.bind (fV b) fun y => match f x y with
  | some (.bl true) => fOp g (fC y) c
  | some (.bl false) => FM.pure (.val (.bl false))
  | _ => fFail
theorem sim_chain {r r' : R2} {f g : D → D → Option D} (hr : SimR2 K r f) (hr' : SimR2 K r' g) (ha : SimE K W ta fa) (hb : SimE K W tb fb) (hc : SimE K W tc' fc) : SimE K W (tChain r r' ta tb tc') (fChain f g fa fb fc) := fun P σ c G H Γ L s =>
  Run.bind (t2 := fun x H1 Q => tb σ H1 fun y H2 => r x y H2 fun z H3 => ∃ k, z = .bl k ∧ (if k = true then tc' σ H3 fun w' H4 => r' y w' H4 Q else Q (.bl false) H3)) s.iv (sim_val ha P σ c G H Γ L s) fun x Γ1 u c1 G1 H1 L1 g1 s1 e1 r1 => by
    refine Run.bind (t2 := fun y H2 Q => r u y H2 fun z H3 => ∃ k, z = .bl k ∧ (if k = true then tc' σ H3 fun w' H4 => r' y w' H4 Q else Q (.bl false) H3)) s1.iv (sim_val hb P σ c1 G1 H1 Γ1 L1 s1) fun y Γ2 v c2 G2 H2 L2' g2 s2 e2 r2 => ?_
    intro rr e Q post
    have r1' := At.mono g2.g r1
    cases ef : f x y with
    | none => rw [ef] at e; cases e
    | some z =>
      rw [ef] at e
      cases z with
      | bl k =>
        refine hr x y _ ef G2 H2 u v s2.iv.bs r1' r2 _ fun w G3 H3 g3 t3 => ?_
        cases t3
        refine ⟨k, rfl, ?_⟩
        cases k with
        | false =>
          cases e
          exact post _ c2 G3 H3 L2' (g3.grow s2.iv) (s2.pg g3) rfl (.bl false)
        | true =>
          have s3 := s2.pg g3
          have h4 : Run vrR K P W σ c2 G3 H3 L2' (fun Q => tc' σ H3 fun w' H4 => r' v w' H4 Q) (fOp g (fC y) fc Γ2) := by
            unfold fOp
            rw [fR_bind]
            refine Run.bind (R := dR) (t := fun Q => Q v H3) (t2 := fun x H3 Q => tc' σ H3 fun y H2 => r' x y H2 Q) s3.iv (Run.now s3 (At.mono g3.g r2)) fun x Γ3 u3 c3 G4 H4 L3 g4 s4 e4 r4 => ?_
            rw [fR_bind]
            refine Run.bind (t2 := fun y H2 Q => r' u3 y H2 Q) s4.iv (sim_val hc P σ c3 G4 H4 Γ3 L3 s4) fun y' Γ4 v4 c4 G5 H5 L4 g5 s5 e5 r5 => ?_
            exact run_of s5 fun z ez Q q => hr' x y' z ez G5 H5 u3 v4 s5.iv.bs (At.mono g5.g r4) r5 Q q
          refine h4 rr e Q ?_
          cases rr with
          | ok w Γ' =>
            intro b c' G' H' L' g' s' e' q'
            exact post b c' G' H' L' ((g3.grow s2.iv).trans s2.iv g') s' e' (VrAt.back (fun a z => (g3.grow (T := TL L2') s2.iv).n a z) q')
          | ex cn f d Γ' => exact PostX.trans s2.iv (g3.grow s2.iv) (fun x hx => .inl (List.mem_map.mpr ⟨x, hx, rfl⟩)) post
      | _ => cases e
end
end DF

set_option linter.all false
set_option maxRecDepth 100000
set_option maxHeartbeats 4000000
namespace DF
open PySem L2
variable [TbC]
/-! ### defs -/
inductive RF where
  | ok (v : Vr) (o : Option OD) | ex (c f : Str) (d : D) (o : Option OD)
abbrev FF := List Sl → Option RF
inductive ArgR (K : PySem.W.Frag) (G : Hp) : List V → List Sl → List (Addr × OD) → Prop
  | nil : ArgR K G [] [] []
  | val {u : V} {d : D} {us : List V} {as : List Sl} {L : List (Addr × OD)} : At K G u d → ArgR K G us as L → ArgR K G (u :: us) (.val d :: as) L
  | own {p : Addr} {o : OD} {us : List V} {as : List Sl} : ArgR K G us as [] → ArgR K G (.ref p :: us) (.own 1 o :: as) [(p, o)]
  | exc {us : List V} {as : List Sl} {L : List (Addr × OD)} : ArgR K G us as L → ArgR K G (.ref TbC.xa :: us) (.exc :: as) L
def RetAt (K : PySem.W.Frag) (L : List (Addr × OD)) (c' : Ow) (G' H0 : Hp) (u : V) : Vr → Prop
  | .val d => At K G' u d
  | .own o => ∃ p, u = .ref p ∧ c' p = some o ∧ ¬ TL L p ∧ H0 p = none
  | .slot _ => False
def PostF (K : PySem.W.Frag) (c : Ow) (G H : Hp) (L : List (Addr × OD)) (r : RF) (Q : VK) (E : XK) : Prop := match r with
  | .ok v o => ∀ u c' G' H', Grow (TL L) c G H c' G' H' → Iv K c' G' H' → (∀ p o0 o', L = [(p, o0)] → o = some o' → c' p = some o') → RetAt K L c' G' H u v → Q u H'
  | .ex cn f d o => ∀ C dd fv c' G' H', Grow (TL L) c G H c' G' H' → Iv K c' G' H' → (∀ p o0 o', L = [(p, o0)] → o = some o' → c' p = some o') → CT K cn C → H' dd = some (.xd [(f, fv)]) → At K G' fv d → E (.ref C) (some dd) H'
def spF (K : PySem.W.Frag) (F : FF) : Sp := fun vs H Q E => ∃ G c as L r, Iv K c G H ∧ ArgR K G vs as L ∧ (∀ e ∈ L, c e.1 = some e.2) ∧ F as = some r ∧ PostF K c G H L r Q E
/-- the content that what was lent has in the end -/
def lastO : EnvF → Option OD
  | [] => none
  | .own 1 o :: _ => some o
  | _ :: Γ => lastO Γ
def lent (as : List Sl) : Bool := as.any fun | .own _ _ => true | _ => false
def endO (as : List Sl) (Γ : EnvF) : Option (Option OD) := if lent as then (lastO Γ).map some else some none
def defF (k n : Nat) (fs : FS) : FF := fun as => if as.length = k then (match fs (as ++ List.replicate (n - as.length) .no) with
  | some (.ok (.rt (.val d)) Γ) => (endO as Γ).map fun o => .ok (.val d) o
  | some (.ok (.rt (.own x)) Γ) => (endO as Γ).map fun o => .ok (.own x) o
  | some (.ok .nx Γ) => (endO as Γ).map fun o => .ok (.val .non) o
  | some (.ex c f d Γ) => (endO as Γ).map fun o => .ex c f d o
  | _ => none) else none
section
variable {K : PySem.W.Frag} {G G' H H' H0 H1 : Hp} {P : List Addr} {σ σ' : L2.St} {Γ Γ' : EnvF} {L L' : List (Addr × OD)} {c c' : Ow} {W : WX}
variable {ta tb te : TE} {t tr : TA} {fa fb fc : FE} {fs fr : FA} {tt tu : TT} {ft fu : FT}
theorem ArgR.mono (e : Ext G G') : ∀ {us : List V} {as : List Sl} {L : List (Addr × OD)}, ArgR K G us as L → ArgR K G' us as L
  | _, _, _, .nil => .nil
  | _, _, _, .val a l => .val (a.mono e) (ArgR.mono e l)
  | _, _, _, .own l => .own (ArgR.mono e l)
  | _, _, _, .exc l => .exc (ArgR.mono e l)
theorem ArgR.length : ∀ {us : List V} {as : List Sl} {L : List (Addr × OD)}, ArgR K G us as L → us.length = as.length
  | _, _, _, .nil => rfl
  | _, _, _, .val a l => congrArg (· + 1) (ArgR.length l)
  | _, _, _, .own l => congrArg (· + 1) (ArgR.length l)
  | _, _, _, .exc l => congrArg (· + 1) (ArgR.length l)
theorem ArgR.one : ∀ {us : List V} {as : List Sl} {L : List (Addr × OD)}, ArgR K G us as L → L = [] ∧ lent as = false ∨ ∃ p o, L = [(p, o)] ∧ lent as = true
  | _, _, _, .nil => .inl ⟨rfl, rfl⟩
  | _, _, _, .val a l => (ArgR.one l).imp (fun ⟨h1, h2⟩ => ⟨h1, by unfold lent at h2 ⊢; simpa using h2⟩) fun ⟨p, o, h1, h2⟩ => ⟨p, o, h1, by unfold lent at h2 ⊢; simpa using h2⟩
  | _, _, _, .own l => .inr ⟨_, _, rfl, rfl⟩
  | _, _, _, .exc l => (ArgR.one l).imp (fun ⟨h1, h2⟩ => ⟨h1, by unfold lent at h2 ⊢; simpa using h2⟩) fun ⟨p, o, h1, h2⟩ => ⟨p, o, h1, by unfold lent at h2 ⊢; simpa using h2⟩
theorem envR_rep (n : Nat) : EnvR K G P (List.replicate n none) (List.replicate n .no) [] := by
  induction n with
  | zero => exact .nil
  | succ n ih => exact .no ih
theorem ArgR.env (n : Nat) : ∀ {us : List V} {as : List Sl} {L : List (Addr × OD)}, ArgR K G us as L → (∀ e ∈ L, P[0]? = some e.1) → EnvR K G P (us.map some ++ List.replicate n none) (as ++ List.replicate n .no) L
  | _, _, _, .nil, h => envR_rep n
  | _, _, _, .val a l, h => .val a (ArgR.env n l h)
  | _, _, _, .own l, h => .own (.inr ⟨0, rfl, h _ List.mem_cons_self⟩) (ArgR.env n l fun e he => (List.not_mem_nil he).elim)
  | _, _, _, .exc l, h => .exc (ArgR.env n l h)
theorem lastO_at : ∀ {Γ : EnvF} {o : OD}, lastO Γ = some o → ∃ i : Nat, Γ[i]? = some (Sl.own 1 o)
  | [], o, e => by cases e
  | .own 1 x :: Γ, o, e => by cases e; exact ⟨0, rfl⟩
  | .own 0 x :: Γ, o, e => by obtain ⟨i, h⟩ := lastO_at (Γ := Γ) e; exact ⟨i + 1, h⟩
  | .own (k + 2) x :: Γ, o, e => by obtain ⟨i, h⟩ := lastO_at (Γ := Γ) e; exact ⟨i + 1, h⟩
  | .no :: Γ, o, e => by obtain ⟨i, h⟩ := lastO_at (Γ := Γ) e; exact ⟨i + 1, h⟩
  | .exc :: Γ, o, e => by obtain ⟨i, h⟩ := lastO_at (Γ := Γ) e; exact ⟨i + 1, h⟩
  | .val d :: Γ, o, e => by obtain ⟨i, h⟩ := lastO_at (Γ := Γ) e; exact ⟨i + 1, h⟩
/-- what was lent has in the end what the function says -/
theorem endO_at {as : List Sl} {us : List V} {oo : Option OD} (ar : ArgR K G us as L) (s : Sta K (L.map (·.1)) c' G' H' σ' Γ' L') (e : endO as Γ' = some oo) : ∀ p o0 o', L = [(p, o0)] → oo = some o' → c' p = some o' := by
  intro p o0 o' eL eo
  subst eL eo
  rcases ar.one with ⟨h, _⟩ | ⟨p', o1, h, hl⟩
  · cases h
  · unfold endO at e
    rw [if_pos hl] at e
    cases el : lastO Γ' with
    | none => rw [el] at e; cases e
    | some o2 =>
      rw [el] at e
      cases e
      obtain ⟨i, hi⟩ := lastO_at el
      obtain ⟨q, h1, h2, h3⟩ := s.r.getO hi
      rcases h3 with ⟨z, _⟩ | ⟨j, z, h3⟩
      · cases z
      · cases z
        simp at h3
        subst h3
        exact s.ow _ h2
/-- a def's body -/
theorem body_F {k : Nat} {fS : FS} {ts : TS} {Ns : List Str} {vs : List V} {Q : VK} {E : XK} (h : spF K (defF k Ns.length fS) vs H Q E) (sim : SimS K (fun cls d _ H => E cls d H) ts fS) : ts { nx := fun _ H' => Q .non H', rt := Q } (start Ns vs) H := by
  obtain ⟨G, c, as, L, r, iv, ar, ow, er, post⟩ := h
  have hnd : (L.map (·.1)).Nodup := by
    rcases ar.one with ⟨h, _⟩ | ⟨p, o, h, _⟩ <;> subst h <;> simp
  have hP : ∀ e ∈ L, (L.map (·.1))[0]? = some e.1 := by
    rcases ar.one with ⟨h, _⟩ | ⟨p, o, h, _⟩ <;> subst h <;> simp
  have s0 : Sta K (L.map (·.1)) c G H (start Ns vs) (as ++ List.replicate (Ns.length - as.length) .no) L := by
    refine ⟨?_, hnd, ow, iv, fun p hp => ?_⟩
    · unfold L2.start
      rw [ar.length]
      exact ar.env _ hP
    · obtain ⟨e, he, ee⟩ := List.mem_map.mp hp
      rw [← ee]; exact (iv.ow _ _ (ow e he)).2.some
  unfold defF at er
  split at er
  · have hs := sim _ _ _ _ _ _ _ s0
    unfold RunS at hs
    cases ef : fS (as ++ List.replicate (Ns.length - as.length) .no) with
    | none => rw [ef] at er; cases er
    | some r0 =>
      rw [ef] at er
      refine hs r0 ef _ ?_
      cases r0 with
      | ok fl Γ' =>
        cases fl with
        | nx =>
          simp only [Option.map_eq_some_iff] at er
          obtain ⟨oo, eo, e2⟩ := er
          subst e2
          refine ⟨fun Γ2 e2 σ' c' G' H' L' g s n => ?_, fun _ e2 => (by cases e2), fun _ e2 => (by cases e2), fun _ _ e2 => (by cases e2), fun _ _ _ _ e2 => (by cases e2)⟩
          cases e2
          exact post .non c' G' H' g s.iv (endO_at ar s eo) .non
        | rt v =>
          cases v with
          | val d =>
            simp only [Option.map_eq_some_iff] at er
            obtain ⟨oo, eo, e2⟩ := er
            subst e2
            refine ⟨fun _ e2 => (by cases e2), fun _ e2 => (by cases e2), fun _ e2 => (by cases e2), fun v Γ2 e2 u σ' c' G' H' L' g s n t => ?_, fun _ _ _ _ e2 => (by cases e2)⟩
            cases e2
            exact post u c' G' H' g s.iv (endO_at ar s eo) t
          | own x =>
            simp only [Option.map_eq_some_iff] at er
            obtain ⟨oo, eo, e2⟩ := er
            subst e2
            refine ⟨fun _ e2 => (by cases e2), fun _ e2 => (by cases e2), fun _ e2 => (by cases e2), fun v Γ2 e2 u σ' c' G' H' L' g s n t => ?_, fun _ _ _ _ e2 => (by cases e2)⟩
            cases e2
            obtain ⟨p, h1, h2, h3, h4⟩ := t
            refine post u c' G' H' g s.iv (endO_at ar s eo) ⟨p, h1, h2, fun z => ?_, h4⟩
            obtain ⟨e, he, ee⟩ := List.mem_map.mp z
            have := (iv.ow _ _ (ow e he)).2.some
            rw [ee] at this
            exact this h4
          | slot i => cases er
        | bk => cases er
        | ct => cases er
      | ex cn f d Γ' =>
        simp only [Option.map_eq_some_iff] at er
        obtain ⟨oo, eo, e2⟩ := er
        subst e2
        refine ⟨fun _ e2 => (by cases e2), fun _ e2 => (by cases e2), fun _ e2 => (by cases e2), fun _ _ e2 => (by cases e2), fun cn f d Γ2 e2 => ?_⟩
        cases e2
        intro C dd fv σ' c' G' H' L' g s n ct hd t
        exact post C dd fv c' G' H' g s.iv (endO_at ar s eo) ct hd t
  · cases er
theorem len_F {k n : Nat} {fS : FS} {vs : List V} {Q : VK} {E : XK} (h : spF K (defF k n fS) vs H Q E) : vs.length = k := by
  obtain ⟨G, c, as, L, r, iv, ar, ow, er, post⟩ := h
  unfold defF at er
  split at er
  · rename_i hk; rw [ar.length]; exact hk
  · cases er
/-! ### calls -/
inductive Ob where
  | none | slot (i : Nat) | tmp
def argsOf : List Vr → EnvF → Option (List Sl × Ob)
  | [], _ => some ([], .none)
  | v :: vs, Γ => match argsOf vs Γ with
    | none => none
    | some (as, b) => match v, b with
      | .val d, b => some (.val d :: as, b)
      | .slot i, .none => match Γ[i]? with
        | some (.own _ o) => some (.own 1 o :: as, .slot i)
        | _ => none
      | .own o, .none => some (.own 1 o :: as, .tmp)
      | _, _ => none
def putBack (b : Ob) (o : Option OD) (Γ : EnvF) : Option EnvF := match b, o with
  | .none, _ => some Γ
  | .tmp, _ => some Γ
  | .slot i, some o => match Γ[i]? with
    | some (.own k _) => some (Γ.set i (.own k o))
    | _ => none
  | .slot _, none => none
def callF (F : FF) (vs : List Vr) : FE := fun Γ => match argsOf vs Γ with
  | none => none
  | some (as, b) => match F as with
    | some (.ok v o) => (putBack b o Γ).map fun Γ' => .ok v Γ'
    | some (.ex c f d o) => (putBack b o Γ).map fun Γ' => .ex c f d Γ'
    | none => none
def fCall (F : FF) (a : FA) : FE := FM.bind a fun vs => callF F vs
/-- what of the arguments is lent -/
theorem argsOf_at (s : Sta K P c G H σ Γ L) {H0 : Hp} : ∀ {us : List V} {vs : List Vr} {as : List Sl} {b : Ob}, VrAll K σ L c G H0 us vs → argsOf vs Γ = some (as, b) →
    ∃ M, ArgR K G us as M ∧ (∀ e ∈ M, c e.1 = some e.2) ∧ (b = .none → M = []) ∧ (b = .tmp → ∃ p o, M = [(p, o)] ∧ p ∉ L.map (·.1) ∧ H0 p = none) ∧ (∀ i, b = .slot i → ∃ p k o, M = [(p, o)] ∧ σ[i]? = some (some (.ref p)) ∧ Γ[i]? = some (.own k o))
  | _, _, _, _, .nil, e => by
    cases e
    exact ⟨[], .nil, fun e he => (List.not_mem_nil he).elim, fun _ => rfl, fun z => (by cases z), fun _ z => (by cases z)⟩
  | _, _, as, b, @VrAll.cons _ _ _ _ _ _ u v us vs a l, e => by
    unfold argsOf at e
    cases ea : argsOf vs Γ with
    | none => rw [ea] at e; cases e
    | some ab =>
      obtain ⟨as1, b1⟩ := ab
      rw [ea] at e
      obtain ⟨M, h1, h2, h3, h4, h5⟩ := argsOf_at s l ea
      cases v with
      | val d =>
        cases e
        exact ⟨M, .val a h1, h2, h3, h4, h5⟩
      | slot i =>
        cases b1 with
        | none =>
          have e : (match Γ[i]? with
            | some (.own _ o) => some (Sl.own 1 o :: as1, Ob.slot i)
            | _ => none) = some (as, b) := e
          cases ei : Γ[i]? with
          | none => rw [ei] at e; cases e
          | some x =>
            rw [ei] at e
            cases x with
            | own k o =>
              cases e
              obtain ⟨p, q1, q2, _⟩ := s.r.getO ei
              have eu : u = .ref p := by
                have z : σ[i]? = some (some u) := a
                rw [q1] at z; injection z with z; injection z with z; exact z.symm
              subst eu
              rw [h3 rfl] at h1
              exact ⟨[(p, o)], .own h1, fun e he => by rw [List.mem_singleton.mp he]; exact s.ow _ q2, fun z => (by cases z), fun z => (by cases z), fun j z => by cases z; exact ⟨p, k, o, rfl, q1, ei⟩⟩
            | no => cases e
            | exc => cases e
            | val d => cases e
        | slot j => cases e
        | tmp => cases e
      | own o =>
        cases b1 with
        | none =>
          cases e
          obtain ⟨p, eu, q1, q2, q3⟩ := a
          subst eu
          rw [h3 rfl] at h1
          exact ⟨[(p, o)], .own h1, fun e he => by rw [List.mem_singleton.mp he]; exact q1, fun z => (by cases z), fun _ => ⟨p, o, rfl, q2, q3⟩, fun j z => by cases z⟩
        | slot j => cases e
        | tmp => cases e
end
end DF

set_option linter.all false
set_option maxRecDepth 100000
set_option maxHeartbeats 4000000
namespace DF
open PySem L2
variable [TbC]
section
variable {K : PySem.W.Frag} {G G' H H' H0 H1 G1 : Hp} {P : List Addr} {σ σ' : L2.St} {Γ Γ' Γ1 : EnvF} {L L' L1 : List (Addr × OD)} {c c' c1 : Ow} {W : WX}
variable {ta tb te : TE} {t tr tk : TA} {fa fb fc : FE} {fs fr fk : FA} {tt tu : TT} {ft fu : FT} {E : XK}
theorem back_of (g : Grow (TL L) c G H c1 G1 H1) {b : Addr} (z : H1 b = none) : H b = none := by
  cases q : H b with
  | none => rfl
  | some o => exact absurd z (g.n _ (by rw [q]; simp))
theorem sta_back {M : List (Addr × OD)} {as : List Sl} {us : List V} {b : Ob} {oo : Option OD} {Γ2 : EnvF} (s1 : Sta K P c1 G1 H1 σ Γ1 L1) (g' : Grow (TL M) c1 G1 H1 c' G' H') (iv' : Iv K c' G' H') (ho : ∀ p o0 o', M = [(p, o0)] → oo = some o' → c' p = some o')
    (m3 : b = .none → M = []) (m4 : b = .tmp → ∃ p o, M = [(p, o)] ∧ p ∉ L1.map (·.1) ∧ H0 p = none) (m5 : ∀ i, b = .slot i → ∃ p k o, M = [(p, o)] ∧ σ[i]? = some (some (.ref p)) ∧ Γ1[i]? = some (.own k o)) (eb : putBack b oo Γ1 = some Γ2) :
    ∃ L2', Sta K P c' G' H' σ Γ2 L2' ∧ L2'.map (·.1) = L1.map (·.1) := by
  have pa' : ∀ p ∈ P, H' p ≠ none := fun p hp => g'.n p (s1.pa p hp)
  have keep : ∀ e ∈ L1, ¬ TL M e.1 → c' e.1 = some e.2 := fun e he z => by rw [(g'.f e.1 z (by rw [s1.ow e he]; simp)).1]; exact s1.ow e he
  cases b with
  | none =>
    cases eb
    refine ⟨L1, ⟨s1.r.mono g'.g, s1.nd, fun e he => keep e he ?_, iv', pa'⟩, rfl⟩
    rw [m3 rfl]; simp [TL]
  | tmp =>
    cases eb
    obtain ⟨p, o, eM, np, _⟩ := m4 rfl
    refine ⟨L1, ⟨s1.r.mono g'.g, s1.nd, fun e he => keep e he ?_, iv', pa'⟩, rfl⟩
    rw [eM]; intro z
    have z : e.1 = p := by simpa [TL] using z
    exact np (z ▸ List.mem_map.mpr ⟨e, he, rfl⟩)
  | slot i =>
    obtain ⟨p, k, o, eM, h1, h2⟩ := m5 i rfl
    cases oo with
    | none => cases eb
    | some o' =>
      unfold putBack at eb
      simp only [h2] at eb
      cases eb
      obtain ⟨p', L2', q1, q2, q3, q4, q5⟩ := (s1.r.mono g'.g).updOwn (o' := o') s1.nd h2
      have ep : p' = p := by rw [h1] at q1; injection q1 with q1; injection q1 with q1; injection q1 with q1; exact q1.symm
      subst ep
      refine ⟨L2', ⟨q3, by rw [q4]; exact s1.nd, fun e he => ?_, iv', pa'⟩, q4⟩
      rcases q5 e he with z | ⟨z, zn⟩
      · rw [z]; exact ho _ _ _ eM rfl
      · refine keep e z ?_
        rw [eM]; simpa [TL] using zn
theorem call_core {F : FF} {us : List V} {vs : List Vr} (iv : Iv K c G H) (g1 : Grow (TL L) c G H c1 G1 H1) (s1 : Sta K P c1 G1 H1 σ Γ1 L1) (e1 : L1.map (·.1) = L.map (·.1)) (ra : VrAll K σ L1 c1 G1 H us vs) (hE : ∀ cls d σ H, W cls d σ H → E cls d H)
    {r : Rt Vr} (er : callF F vs Γ1 = some r) {Q : VK}
    (post : PostE vrR K P W σ c G H L Q r) : spF K F us H1 Q E := by
  unfold callF at er
  cases ea : argsOf vs Γ1 with
  | none => rw [ea] at er; cases er
  | some ab =>
    obtain ⟨as, b⟩ := ab
    rw [ea] at er
    obtain ⟨M, m1, m2, m3, m4, m5⟩ := argsOf_at s1 ra ea
    have touch : ∀ x, TL M x → TL L x ∨ H x = none := fun x hx => by
      cases b with
      | none => rw [m3 rfl] at hx; cases hx
      | tmp =>
        obtain ⟨p, o, eM, _, q⟩ := m4 rfl
        rw [eM] at hx
        have z : x = p := by simpa [TL] using hx
        rw [z]; exact .inr q
      | slot i =>
        obtain ⟨p, k, o, eM, h1, h2⟩ := m5 i rfl
        rw [eM] at hx
        have z : x = p := by simpa [TL] using hx
        obtain ⟨p', q1, q2, _⟩ := s1.r.getO h2
        rw [h1] at q1; injection q1 with q1; injection q1 with q1; injection q1 with q1
        rw [z]
        refine .inl ?_
        show p ∈ L.map (·.1)
        rw [← e1, q1]; exact List.mem_map.mpr ⟨_, q2, rfl⟩
    have er : (match F as with
      | some (.ok v o) => (putBack b o Γ1).map fun Γ' => Rt.ok v Γ'
      | some (.ex c f d o) => (putBack b o Γ1).map fun Γ' => Rt.ex c f d Γ'
      | none => none) = some r := er
    cases eF : F as with
    | none => rw [eF] at er; cases er
    | some rf =>
      rw [eF] at er
      refine ⟨G1, c1, as, M, rf, s1.iv, m1, m2, eF, ?_⟩
      cases rf with
      | ok v oo =>
        simp only [Option.map_eq_some_iff] at er
        obtain ⟨Γ2, eb, e2⟩ := er
        subst e2
        intro u c' G' H' g' iv' ho hr
        obtain ⟨L2', s2, e2⟩ := sta_back (H0 := H) (as := as) (us := us) s1 g' iv' ho m3 m4 m5 eb
        refine post u c' G' H' L2' (g1.trans' iv g' (fun _ z => z) touch) s2 (e2.trans e1) ?_
        cases v with
        | val d => exact hr
        | slot i => exact hr.elim
        | own x =>
          obtain ⟨p, h1, h2, h3, h4⟩ := hr
          refine ⟨p, h1, h2, ?_, back_of g1 h4⟩
          rw [e2]
          intro z
          obtain ⟨e, he, ee⟩ := List.mem_map.mp z
          have := (s1.iv.ow _ _ (s1.ow e he)).2.some
          rw [ee] at this
          exact this h4
      | ex cn f d oo =>
        simp only [Option.map_eq_some_iff] at er
        obtain ⟨Γ2, eb, e2⟩ := er
        subst e2
        intro C dd fv c' G' H' g' iv' ho ct hd hv
        obtain ⟨L2', s2, e2⟩ := sta_back (H0 := H) (as := as) (us := us) s1 g' iv' ho m3 m4 m5 eb
        exact hE _ _ σ _ (post C dd fv σ c' G' H' L2' (g1.trans' iv g' (fun _ z => z) touch) s2 (fun x hx => tl_of (e2.trans e1) x hx) ct hd hv)
/-- f(e, ..) -/
theorem sim_call {F : FF} (hE : ∀ cls d σ H, W cls d σ H → E cls d H) (h : SimA K W t fs) : SimE K W (tCall (spF K F) [] E t) (fCall F fs) := fun P σ c G H Γ L s r e Q post => by
  unfold fCall FM.bind at e
  cases ex : fs Γ with
  | none => rw [ex] at e; cases e
  | some r0 =>
    rw [ex] at e
    refine h P σ c G H Γ L s r0 ex _ ?_
    cases r0 with
    | ok vs Γ1 =>
      intro us c1 G1 H1 L1 g1 s1 e1 r1
      show spF K F (us ++ []) H1 Q E
      rw [List.append_nil]
      exact call_core s.iv g1 s1 e1 r1 hE e post
    | ex cn f d Γ1 => cases e; exact post
/-- keywords put into their places -/
def permV (ix : List Nat) (xs : List V) : List V := ix.map fun i => xs.getD i .non
def permU (ix : List Nat) (xs : List Value) : List Value := ix.map fun i => xs.getD i .none
def permR (ix : List Nat) (xs : List Vr) : List Vr := ix.map fun i => xs.getD i (.val .non)
theorem vals_getD {vs : List V} {us : List Value} (r : Vals vs us) (i : Nat) : RelV (vs.getD i .non) (us.getD i .none) := by
  induction r generalizing i with
  | nil => simp; rfl
  | cons h _ ih => cases i with | zero => simpa using h | succ i => simpa using ih i
theorem perm_rel {ix : List Nat} {vs : List V} {us : List Value} (r : Vals vs us) : Vals (permV ix vs) (permU ix us) := by
  unfold permV permU
  induction ix with
  | nil => exact .nil
  | cons i ix ih => exact .cons (vals_getD r i) ih
theorem vr_getD {us : List V} : ∀ {vs : List Vr} (i : Nat), VrAll K σ L c G H0 us vs → VrAt K σ L c G H0 (us.getD i .non) (vs.getD i (.val .non)) := by
  induction us with
  | nil => intro vs i h; cases h; simp; exact At.non
  | cons v us ih => intro vs i h; cases h with | cons a l => cases i with | zero => simpa using a | succ i => simpa using ih i l
theorem perm_vr {us : List V} {vs : List Vr} {ix : List Nat} (h : VrAll K σ L c G H0 us vs) : VrAll K σ L c G H0 (permV ix us) (permR ix vs) := by
  unfold permV permR
  induction ix with
  | nil => exact .nil
  | cons i ix ih => exact .cons (vr_getD i h) ih
theorem VrAll.append {us ws : List V} : ∀ {vs xs : List Vr}, VrAll K σ L c G H0 us vs → VrAll K σ L c G H0 ws xs → VrAll K σ L c G H0 (us ++ ws) (vs ++ xs) := by
  induction us with
  | nil => intro vs xs h k; cases h; exact k
  | cons v us ih => intro vs xs h k; cases h with | cons a l => exact .cons a (ih l k)
theorem VrAll.length {us : List V} : ∀ {vs : List Vr}, VrAll K σ L c G H0 us vs → us.length = vs.length := by
  induction us with
  | nil => intro vs h; cases h; rfl
  | cons v us ih => intro vs h; cases h with | cons a l => rw [List.length_cons, List.length_cons, ih l]
theorem kbn {K : PySem.W.Frag} {x qual : Str} {st : Stmt} {f : Addr} {fd : FuncData} {ps ks : List Str} {n : Nat} (ix : List Nat) (F : Fun K x qual st f fd)
    (h : ∀ (kV doc pm : Value) (an : Option Addr) (cdv ct : Value) (us ws : List Value), us.length = n → ws.length = ks.length → bindArgs (PySem.W.fnOf x qual (defArgs st) (defBody st) (defScope st) .none kV doc pm an cdv ct) ⟨us, ks.zip ws⟩ = pure (ps.zip (permU ix (us ++ ws)))) :
    KBn K fd ps n ks (fun us ws => permU ix (us ++ ws)) (fun vs zs => permV ix (vs ++ zs)) := by
  obtain ⟨oc, od, kV, doc, pm, an, cdv, ct, osl, rfl, lk, hcd⟩ := F.ex
  exact ⟨fun s us ws _ h1 h2 => .of_eq (h kV doc pm an cdv ct us ws h1 h2), fun r rz => perm_rel (r.append rz)⟩
/-- f(e, .., k = v, ..) -/
def fCallN (F : FF) (j l : Nat) (ix : List Nat) (a b : FA) : FE := FM.bind (FM.bind a fun vs => FM.bind b fun xs => FM.pure (vs, xs)) fun p => if p.1.length = j ∧ p.2.length = l then callF F (permR ix (p.1 ++ p.2)) else fFail
def ar2R : Rel (List Vr × List Vr) (List V × List V) := ⟨fun K σ L c G H0 b v => VrAll K σ L c G H0 b.1 v.1 ∧ VrAll K σ L c G H0 b.2 v.2, fun g e h => ⟨h.1.mono g e, h.2.mono g e⟩, fun n h => ⟨h.1.back n, h.2.back n⟩⟩
theorem sim_callN {F : FF} {j l : Nat} {ix : List Nat} (hE : ∀ cls d σ H, W cls d σ H → E cls d H) (h : SimA K W t fs) (hk : SimA K W tk fk) : SimE K W (tCallN j l (spF K F) (fun us ws => permV ix (us ++ ws)) E t tk) (fCallN F j l ix fs fk) := fun P σ c G H Γ L s r e Q post => by
  unfold fCallN at e
  have h2 : Run ar2R K P W σ c G H L (fun Q => t σ H fun b H1 => tk σ H1 fun b2 H2 => Q (b, b2) H2) (FM.bind fs (fun vs => FM.bind fk fun xs => FM.pure (vs, xs)) Γ) :=
    Run.bind2 (R' := ar2R) (t2 := fun H1 Q => tk σ H1 Q) (gb := fun x xs => (x, xs)) (g := fun x xs => (x, xs)) s.iv (h P σ c G H Γ L s) (fun Γ1 c1 G1 H1 L1 s1 => hk P σ c1 G1 H1 Γ1 L1 s1) fun L c G v w b b2 h1 h2 => ⟨h1, h2⟩
  rcases FM.bind_some e with ⟨v, Γ1, e1, e2⟩ | ⟨cn, f, d, Γ1, e1, er⟩
  · refine h2 _ e1 (fun b H2 => b.1.length = j ∧ b.2.length = l ∧ spF K F (permV ix (b.1 ++ b.2)) H2 Q E) ?_
    intro b c1 G1 H1 L1 g1 s1 e1 r1
    have e2 : (if v.1.length = j ∧ v.2.length = l then callF F (permR ix (v.1 ++ v.2)) else fFail) Γ1 = some r := e2
    split at e2
    · rename_i hl
      exact ⟨by rw [r1.1.length]; exact hl.1, by rw [r1.2.length]; exact hl.2, call_core s.iv g1 s1 e1 (perm_vr (r1.1.append r1.2)) hE e2 post⟩
    · cases e2
  · subst er
    exact h2 _ e1 (fun b H2 => b.1.length = j ∧ b.2.length = l ∧ spF K F (permV ix (b.1 ++ b.2)) H2 Q E) post
end
end DF

set_option linter.all false
set_option maxRecDepth 100000
set_option maxHeartbeats 4000000
namespace DF
open PySem L2
variable [TbC]
section
variable {K : PySem.W.Frag} {G G' H H' H0 H1 G1 : Hp} {P : List Addr} {σ σ' : L2.St} {Γ Γ' Γ1 : EnvF} {L L' L1 : List (Addr × OD)} {c c' c1 : Ow} {W : WX}
variable {ta tb te : TE} {t tr tk : TA} {fa fb fc : FE} {fs fr fk : FA} {tt tu : TT} {ft fu : FT} {E : XK} {ts tw : TS} {fS fT : FS}
theorem tl_self : ∀ x ∈ L, TL L x.1 ∨ H x.1 = none := fun x hx => .inl (List.mem_map.mpr ⟨x, hx, rfl⟩)
theorem tl_sub (h : L'.Sublist L) : ∀ x ∈ L', TL L x.1 ∨ H x.1 = none := fun x hx => .inl (List.mem_map.mpr ⟨x, h.subset hx, rfl⟩)
theorem Sta.val (s : Sta K P c G H σ Γ L) (i : Nat) {v : V} {d : D} (a : At K G v d) : ∃ L', Sta K P c G H (σ.set i (some v)) (Γ.set i (.val d)) L' ∧ L'.Sublist L := by
  obtain ⟨L', h1, h2⟩ := s.r.setVal i a
  exact ⟨L', ⟨h1, s.nd.sublist (h2.map _), fun e he => s.ow e (h2.subset he), s.iv, s.pa⟩, h2⟩
/-! assignment -/
/-- a value comes into a slot -/
def putVr (i : Nat) (v : Vr) : FM Unit := fun Γ => match v with
  | .val d => some (.ok () (Γ.set i (.val d)))
  | .own o => some (.ok () (Γ.set i (.own 0 o)))
  | .slot _ => none
theorem Sta.put {u : V} {v : Vr} {i : Nat} (s : Sta K P c G H σ Γ L) (a : VrAt K σ L c G H0 u v) (hn : ∀ b, P.contains b = true → H0 b ≠ none) (e : putVr i v Γ = some (.ok () Γ')) : ∃ L', Sta K P c G H (σ.set i (some u)) Γ' L' ∧ ∀ x ∈ L', TL L x.1 ∨ H0 x.1 = none := by
  cases v with
  | val d =>
    cases e
    obtain ⟨L', h1, h2⟩ := s.val i a
    exact ⟨L', h1, tl_sub h2⟩
  | own o =>
    cases e
    obtain ⟨p, eu, h1, h2, h3⟩ := a
    subst eu
    have np : p ∉ P := fun z => hn p (by simpa using z) h3
    obtain ⟨L', q1, q2, q3⟩ := s.r.setOwn (o := o) np s.nd h2 i
    refine ⟨L', ⟨q1, q2, fun e he => ?_, s.iv, s.pa⟩, fun e he => ?_⟩
    · rcases q3 e he with z | z
      · rw [z]; exact h1
      · exact s.ow e z
    · rcases q3 e he with z | z
      · rw [z]; exact .inr h3
      · exact .inl (List.mem_map.mpr ⟨e, z, rfl⟩)
  | slot j => cases e
def fAsg (i : Nat) (f : FE) : FS := FM.bind f fun v => FM.bind (putVr i v) fun _ => fNx
theorem nx_of {Γ0 : EnvF} (Γ1 : EnvF) : fNx Γ1 = some (.ok .nx Γ1) := rfl
theorem put_cases {i : Nat} {v : Vr} {r : Rt Fl} (e : FM.bind (putVr i v) (fun _ => fNx) Γ = some r) : ∃ Γ', putVr i v Γ = some (.ok () Γ') ∧ r = .ok .nx Γ' := by
  unfold FM.bind at e
  cases v with
  | val d => cases e; exact ⟨_, rfl, rfl⟩
  | own o => cases e; exact ⟨_, rfl, rfl⟩
  | slot j => cases e
theorem sim_asg {i : Nat} (h : SimE K W te fa) : SimS K W (tAsg te (gName i)) (fAsg i fa) := fun P σ c G H Γ L s r e Dn post => by
  rcases FM.bind_some e with ⟨v, Γ1, e1, e2⟩ | ⟨cn, f, d, Γ1, e1, er⟩
  · refine h P σ c G H Γ L s _ e1 _ ?_
    intro b c1 G1 H1 L1 g1 s1 e1' r1
    obtain ⟨Γ2, ep, er⟩ := put_cases e2
    subst er
    obtain ⟨L2, s2, n2⟩ := s1.put (H0 := H) r1 (fun b hb => s.pa b (by simpa using hb)) ep
    exact post.nx Γ2 rfl _ c1 G1 H1 L2 g1 s2 fun x hx => (n2 x hx).elim (fun z => .inl (by unfold TL at z ⊢; rwa [e1'] at z)) .inr
  · subst er
    exact h P σ c G H Γ L s _ e1 _ (post.ex cn f d Γ1 rfl)
def fDrop (f : FE) : FS := FM.bind f fun _ => fNx
theorem sim_drop (h : SimE K W te fa) : SimS K W (tDrop te) (fDrop fa) := fun P σ c G H Γ L s r e Dn post => by
  rcases FM.bind_some e with ⟨v, Γ1, e1, e2⟩ | ⟨cn, f, d, Γ1, e1, er⟩
  · refine h P σ c G H Γ L s _ e1 _ ?_
    intro b c1 G1 H1 L1 g1 s1 e1' r1
    cases e2
    exact post.nx Γ1 rfl σ c1 G1 H1 L1 g1 s1 (tl_of e1')
  · subst er
    exact h P σ c G H Γ L s _ e1 _ (post.ex cn f d Γ1 rfl)
/-! a thing of one's own is told from now on -/
def odD : OD → Option D
  | .lst ds => some (.lst ds)
  | .dct ds => some (.dct ds)
  | .ins c gs => some (.ins c gs)
theorem hasO_at {p : Addr} {o : OD} {d : D} (h : HasO K G H p o) (e : odD o = some d) : ∃ ho, H p = some ho ∧ ∀ G', Ext G G' → G' p = some ho → At K G' (.ref p) d := by
  cases o with
  | lst ds => cases e; obtain ⟨vs, h1, h2⟩ := h; exact ⟨_, h1, fun G' e k => .lst k (h2.mono e)⟩
  | dct ds => cases e; obtain ⟨vs, h1, h2⟩ := h; exact ⟨_, h1, fun G' e k => .dct k (h2.mono e)⟩
  | ins c gs => cases e; obtain ⟨C, dx, fs, ct, h1, h2⟩ := h; exact ⟨_, h1, fun G' e k => .ins ct k (h2.mono e)⟩
theorem told_core {i k : Nat} {o : OD} {d : D} (s : Sta K P c G H σ Γ L) (ei : Γ[i]? = some (.own k o)) (ed : odD o = some d) : ∃ p c' G' L', σ[i]? = some (some (.ref p)) ∧ Grow (TL L) c G H c' G' H ∧ Sta K P c' G' H σ (Γ.set i (.val d)) L' ∧ L'.Sublist L ∧ At K G' (.ref p) d := by
  obtain ⟨p, h1, h2, h3⟩ := s.r.getO ei
  have hc := s.ow _ h2
  obtain ⟨ho, hp, hat⟩ := hasO_at (s.iv.ow _ _ hc).2 ed
  obtain ⟨g, v⟩ := own_told (T := TL L) s.iv (List.mem_map.mpr ⟨_, h2, rfl⟩) hc hp
  have at' := hat _ g.g upd_same
  obtain ⟨L', q1, q2, q3⟩ := (s.r.mono g.g).see s.nd ei h1 at'
  refine ⟨p, _, _, L', h1, g, ⟨q1, s.nd.sublist (q2.map _), fun e he => ?_, v, s.pa⟩, q2, at'⟩
  have ne : e.1 ≠ p := fun z => q3 (by rw [← z]; exact List.mem_map.mpr ⟨e, he, rfl⟩)
  show c.del p e.1 = some e.2
  rw [Ow.del_ne ne]
  exact s.ow e (q2.subset he)
def frz (i : Nat) (Γ : EnvF) : Option EnvF := match Γ[i]? with
  | some (.own 0 o) => (odD o).map fun d => Γ.set i (.val d)
  | _ => none
def fFrz (i : Nat) (f : FS) : FS := fun Γ => match frz i Γ with
  | some Γ' => f Γ'
  | none => f Γ
theorem sim_frz {i : Nat} (h : SimS K W ts fS) : SimS K W ts (fFrz i fS) := fun P σ c G H Γ L s r e Dn post => by
  unfold fFrz at e
  cases ef : frz i Γ with
  | none => rw [ef] at e; exact h P σ c G H Γ L s r e Dn post
  | some Γ' =>
    rw [ef] at e
    unfold frz at ef
    cases ei : Γ[i]? with
    | none => rw [ei] at ef; cases ef
    | some x =>
      rw [ei] at ef
      cases x with
      | own k o =>
        cases k with
        | zero =>
          simp only [Option.map_eq_some_iff] at ef
          obtain ⟨d, ed, e2⟩ := ef
          subst e2
          obtain ⟨p, c', G', L', h1, g, s', n, _⟩ := told_core s ei ed
          exact h P σ c' G' H _ L' s' r e Dn (post.trans s.iv g (tl_sub n))
        | succ k => cases ef
      | no => cases ef
      | exc => cases ef
      | val d => cases ef
/-! the end of a def -/
def fRet (f : FE) : FS := FM.bind f fun v Γ => match v with
  | .slot i => match frz i Γ, Γ[i]? with
    | some Γ', some (.own 0 o) => (odD o).map fun d => .ok (.rt (.val d)) Γ'
    | _, _ => none
  | v => some (.ok (.rt v) Γ)
theorem sim_ret (h : SimE K W te fa) : SimS K W (tRet te) (fRet fa) := fun P σ c G H Γ L s r e Dn post => by
  rcases FM.bind_some e with ⟨v, Γ1, e1, e2⟩ | ⟨cn, f, d, Γ1, e1, er⟩
  · refine h P σ c G H Γ L s _ e1 _ ?_
    intro b c1 G1 H1 L1 g1 s1 e1' r1
    cases v with
    | val d => cases e2; exact post.rt _ Γ1 rfl b σ c1 G1 H1 L1 g1 s1 (tl_of e1') r1
    | own o => cases e2; exact post.rt _ Γ1 rfl b σ c1 G1 H1 L1 g1 s1 (tl_of e1') r1
    | slot i =>
      have e2 : (match frz i Γ1, Γ1[i]? with
        | some Γ', some (.own 0 o) => (odD o).map fun d => Rt.ok (Fl.rt (.val d)) Γ'
        | _, _ => none) = some r := e2
      unfold frz at e2
      cases ei : Γ1[i]? with
      | none => rw [ei] at e2; cases e2
      | some x =>
        rw [ei] at e2
        cases x with
        | own k o =>
          cases k with
          | zero =>
            cases ed : odD o with
            | none => simp [ed] at e2
            | some d =>
              simp [ed] at e2
              subst e2
              obtain ⟨p, c', G', L', h1, g, s', n, at'⟩ := told_core s1 ei ed
              have eb : b = .ref p := by
                have z : σ[i]? = some (some b) := r1
                rw [h1] at z; injection z with z; injection z with z; exact z.symm
              subst eb
              refine post.rt (.val d) _ rfl (.ref p) σ c' G' H1 L' (g1.trans' s.iv g (fun _ z => z) fun b z => .inl (by unfold TL at z ⊢; rwa [e1'] at z)) s' (fun x hx => ?_) at'
              exact tl_of e1' x (n.subset hx)
          | succ k => simp at e2
        | no => simp at e2
        | exc => simp at e2
        | val d => simp at e2
  · subst er
    exact h P σ c G H Γ L s _ e1 _ (post.ex cn f d Γ1 rfl)
/-- .. handing over what is one's own -/
def fRetO (f : FE) : FS := FM.bind f fun v Γ => match v with
  | .slot _ => none
  | v => some (.ok (.rt v) Γ)
theorem sim_retO (h : SimE K W te fa) : SimS K W (tRet te) (fRetO fa) := fun P σ c G H Γ L s r e Dn post => by
  rcases FM.bind_some e with ⟨v, Γ1, e1, e2⟩ | ⟨cn, f, d, Γ1, e1, er⟩
  · refine h P σ c G H Γ L s _ e1 _ ?_
    intro b c1 G1 H1 L1 g1 s1 e1' r1
    cases v with
    | val d => cases e2; exact post.rt _ Γ1 rfl b σ c1 G1 H1 L1 g1 s1 (tl_of e1') r1
    | own o => cases e2; exact post.rt _ Γ1 rfl b σ c1 G1 H1 L1 g1 s1 (tl_of e1') r1
    | slot i =>
      cases e2
  · subst er
    exact h P σ c G H Γ L s _ e1 _ (post.ex cn f d Γ1 rfl)
def fRetN : FS := FM.pure (.rt (.val .non))
theorem sim_retN : SimS K W tRetN fRetN := fun P σ c G H Γ L s r e Dn post => by
  cases e
  exact post.rt _ Γ rfl .non σ c G H L .refl s tl_self .non
def fBrk : FS := FM.pure .bk
def fCont : FS := FM.pure .ct
theorem sim_brk : SimS K W tBreak fBrk := fun P σ c G H Γ L s r e Dn post => by
  cases e
  exact post.bk Γ rfl σ c G H L .refl s tl_self
theorem sim_cont : SimS K W tCont fCont := fun P σ c G H Γ L s r e Dn post => by
  cases e
  exact post.ct Γ rfl σ c G H L .refl s tl_self
def fIfS (a : FT) (b c : FS) : FS := FM.bind a fun k => if k = true then b else c
theorem sim_ifS (ha : SimT K W tt ft) (hb : SimS K W ts fS) (hc : SimS K W tw fT) : SimS K W (tIfS tt ts tw) (fIfS ft fS fT) := fun P σ c G H Γ L s => by
  refine RunS.bind (t2 := fun k H1 Dn => if k = true then ts Dn σ H1 else tw Dn σ H1) s.iv (ha P σ c G H Γ L s) fun k Γ1 b c1 G1 H1 L1 g1 s1 e1 r1 => ?_
  have e : b = k := r1
  subst e
  cases b with
  | true => exact hb P σ c1 G1 H1 Γ1 L1 s1
  | false => exact hc P σ c1 G1 H1 Γ1 L1 s1
def fNever : FS := fFail
theorem sim_never : SimS K W tNever fNever := fun P σ c G H Γ L s r e => by cases e
end
end DF

set_option linter.all false
set_option maxRecDepth 100000
set_option maxHeartbeats 4000000
namespace DF
open PySem PySem.Spec PyProof.Rows L2
variable [TbC]
/-! ### what is walked, by its value -/
def iAny (K : PySem.W.Frag) (tl : TE) : TI := fun σ H R => tl σ H fun x H1 => (∃ a, x = .ref a ∧ (∃ xs, SqL K H1 a xs) ∧ R (Itl K a) H1) ∨ (∃ a, x = .ref a ∧ (∃ xs, SqT K H1 a xs) ∧ R (Itt K a) H1) ∨ (∃ z, x = .str z ∧ R (Its z) H1)
theorem pi_any {X : Cx} {tg l : Expr} {tl : TE} (hl : PE X l tl) : PI X tg l (iAny X.K tl) := by
  refine ⟨fun pins s σ H R I h => ?_⟩
  refine thn (hl.run pins s σ H _ I h) fun v s1 ⟨x, H1, I1, r1, q1⟩ => ?_
  rcases q1 with ⟨a, e, ⟨xs, hq⟩, q⟩ | ⟨a, e, ⟨xs, hq⟩, q⟩ | ⟨z, ex, q⟩
  · subst e
    cases r1
    obtain ⟨its, rv, p, hz⟩ := I1.list hq
    refine wpAny_pyIter_list p.isList ?_
    refine ⟨s1.heap.objs.size, [s1.heap.objs.size], _, _, H1, rfl, I1.kept (t' := s1.toks) fun b o e => Heap.get?_push_of_some _ e, turn_list a _, ⟨_, Heap.get?_push_size _ rfl, rfl, rfl⟩, fun b hb => ?_, q⟩
    have e : b = s1.heap.objs.size := by simpa using hb
    subst e
    exact I1.fpOk (Nat.le_refl _) (I1.hok.fresh (Nat.le_refl _))
  · subst e
    cases r1
    obtain ⟨its, rv, p, hz⟩ := I1.tuple hq
    refine wpAny_pyIter_tuple (show s1.heap.IsTuple a its.toArray from p) ?_
    refine ⟨s1.heap.objs.size, [s1.heap.objs.size], _, _, H1, rfl, I1.kept (t' := s1.toks) fun b o e => Heap.get?_push_of_some _ e, turn_tuple a _, ⟨_, Heap.get?_push_size _ rfl, rfl, rfl⟩, fun b hb => ?_, q⟩
    have e : b = s1.heap.objs.size := by simpa using hb
    subst e
    exact I1.fpOk (Nat.le_refl _) (I1.hok.fresh (Nat.le_refl _))
  · subst ex
    obtain ⟨t, rfl⟩ := r1
    cases ha : z.cps.all (· < 128)
    · exact wpAny_pyIter_wide ha (pi_one (tk := s1.toks) I1 _ (turn_str _ z t "str_iterator" (.inr rfl)) ⟨_, Heap.get?_push_size _ rfl, rfl, rfl⟩ q)
    · exact wpAny_pyIter_ascii ha (pi_one (tk := s1.toks) I1 _ (turn_str _ z t "str_ascii_iterator" (.inl rfl)) ⟨_, Heap.get?_push_size _ rfl, rfl, rfl⟩ q)

section
variable {K : PySem.W.Frag} {G G' H H' H0 H1 G1 : Hp} {P : List Addr} {σ σ' : L2.St} {Γ Γ' Γ1 : EnvF} {L L' L1 : List (Addr × OD)} {c c' c1 : Ow} {W : WX}
variable {ta tb te : TE} {t tr tk : TA} {fa fb fc : FE} {fs fr fk : FA} {tt tu : TT} {ft fu : FT} {E : XK} {ts tw : TS} {fS fT : FS}
def IsW (K : PySem.W.Frag) (J : It) (ds : List D) (G1 : Hp) : Prop := ∃ (Gd : Hp → Prop) (Y : Nat → Hp → V → Hp → Prop), Walk J ds.length Gd Y ∧ (∀ H, Ext G1 H → Gd H) ∧
  ∀ i H x H' G, i < ds.length → Ext G1 G → Ext G H → Y i H x H' → ∃ G' d, PG G H G' H' ∧ ds[i]? = some d ∧ At K G' x d
theorem IsW.mono {J : It} {ds : List D} (h : IsW K J ds G) (e : Ext G G') : IsW K J ds G' := by
  obtain ⟨Gd, Y, w, h1, h2⟩ := h
  exact ⟨Gd, Y, w, fun H k => h1 H (e.trans k), fun i H x H' G2 hi k => h2 i H x H' G2 hi (e.trans k)⟩
def wkR : Rel (List D) It := ⟨fun K _ _ _ G _ J ds => IsW K J ds G, fun g _ h => h.mono g.g, fun _ h => h⟩
abbrev SimW := SimX (α := List D) (β := It) wkR
abbrev FW := FM (List D)
def chrD (c : Nat) : D := .str ⟨#[c]⟩
def itemsOf : D → Option (List D)
  | .lst ds => some ds
  | .tup ds => some ds
  | .str z => some (z.cps.toList.map chrD)
  | .scr ns => some (ns.map .int)
  | _ => none
theorem ext_lst {G H : Hp} (z : Ext G H) {p : Addr} {vs : List V} (h : G p = some (.lst vs)) : SqL K H p vs := .inl (.inl (z _ _ h))
theorem atl_ints : ∀ ns : List Int, AtL K G (ns.map V.int) (ns.map D.int)
  | [] => .nil
  | n :: ns => .cons (.int n) (atl_ints ns)
theorem sq_w {p : Addr} {vs : List V} {ds : List D} (hs : ∀ H, Ext G H → SqL K H p vs) (l : AtL K G vs ds) : IsW K (Itl K p) ds G := by
  refine ⟨_, _, (by rw [← l.length]; exact walk_list (xs := vs)), hs, fun i H' x H2 G' hi e1 e2 y => ?_⟩
  obtain ⟨ey, hx⟩ := y
  subst ey
  obtain ⟨dx, k1, k2⟩ := l.get' hx
  exact ⟨G', dx, PG.refl e2, k1, k2.mono e1⟩
/-- a value is walked -/
def wAny (f : FE) : FW := FM.bind (fV f) fun d => fOf (itemsOf d)
theorem sim_wAny (h : SimE K W ta fa) : SimW K W (iAny K ta) (wAny fa) := fun P σ c G H Γ L s => by
  unfold wAny
  refine Run.bind (t2 := fun x H1 R => (∃ a, x = V.ref a ∧ (∃ xs, SqL K H1 a xs) ∧ R (Itl K a) H1) ∨ (∃ a, x = .ref a ∧ (∃ xs, SqT K H1 a xs) ∧ R (Itt K a) H1) ∨ (∃ z, x = .str z ∧ R (Its z) H1)) s.iv (sim_val h P σ c G H Γ L s) fun d Γ1 u c1 G1 H1 L1 g1 s1 e1 r1 => ?_
  intro r e Q post
  have r1 : At K G1 u d := r1
  cases r1 with
  | @lst p vs ds hs l =>
    cases e
    exact .inl ⟨p, rfl, ⟨vs, ext_lst s1.iv.i hs⟩, post _ c1 G1 H1 L1 .refl s1 rfl (sq_w (fun H e => ext_lst e hs) l)⟩
  | @scr p ns hs =>
    cases e
    exact .inl ⟨p, rfl, ⟨_, (hs.ext s1.iv.i).seq⟩, post _ c1 G1 H1 L1 .refl s1 rfl (sq_w (fun H e => (hs.ext e).seq) (atl_ints ns))⟩
  | @tup p vs ds hs l =>
    cases e
    refine .inr (.inl ⟨p, rfl, ⟨vs, sqT_ext hs s1.iv.i⟩, post _ c1 G1 H1 L1 .refl s1 rfl ?_⟩)
    refine ⟨_, _, (by rw [← l.length]; exact walk_tup (xs := vs)), fun H e => sqT_ext hs e, fun i H' x H2 G' hi e1 e2 y => ?_⟩
    obtain ⟨ey, hx⟩ := y
    subst ey
    obtain ⟨dx, k1, k2⟩ := l.get' hx
    exact ⟨G', dx, PG.refl e2, k1, k2.mono e1⟩
  | str z =>
    cases e
    refine .inr (.inr ⟨z, rfl, post _ c1 G1 H1 L1 .refl s1 rfl ?_⟩)
    refine ⟨_, _, (by rw [List.length_map, Array.length_toList]; exact walk_str (z := z)), fun H' e => trivial, fun i H' x H2 G' hi e1 e2 y => ?_⟩
    obtain ⟨ey, c, hc, ex⟩ := y
    subst ey ex
    exact ⟨G', chrD c, PG.refl e2, by rw [List.getElem?_map, Array.getElem?_toList, hc]; rfl, .str _⟩
  | non => cases e
  | bl b => cases e
  | int b => cases e
  | ty b => cases e
  | cls b => cases e
  | ins b c d => cases e
  | dct b c => cases e
def rangeD (lo hi : Int) : List D := (List.range (hi - lo).toNat).map fun i => .int (lo + (i : Nat))
theorem range_w {lo hi : Int} : IsW K (Itr lo (hi - lo).toNat) (rangeD lo hi) G := by
  unfold rangeD
  refine ⟨_, _, (by rw [List.length_map, List.length_range]; exact walk_range), fun H e => trivial, fun i H' x H2 G' hi e1 e2 y => ?_⟩
  obtain ⟨ey, hx⟩ := y
  subst ey hx
  rw [List.length_map, List.length_range] at hi
  exact ⟨G', _, PG.refl e2, by rw [List.getElem?_map, List.getElem?_range hi]; rfl, .int _⟩
def wRng1 (f : FA) : FW := FM.bind (fVs f) fun | [.int j] => if -(2 ^ 62) ≤ j ∧ j < 2 ^ 62 then FM.pure (rangeD 0 j) else fFail | _ => fFail
def wRng2 (f : FA) : FW := FM.bind (fVs f) fun | [.int i, .int j] => if -(2 ^ 62) ≤ i ∧ i < 2 ^ 62 ∧ -(2 ^ 62) ≤ j ∧ j < 2 ^ 62 then FM.pure (rangeD i j) else fFail | _ => fFail
theorem atl1 {us : List V} {x : D} (h : AtL K G us [x]) : ∃ u, us = [u] ∧ At K G u x := by
  cases h with | cons a l => cases l; exact ⟨_, rfl, a⟩
theorem atl2 {us : List V} {x y : D} (h : AtL K G us [x, y]) : ∃ u v, us = [u, v] ∧ At K G u x ∧ At K G v y := by
  cases h with | cons a l => obtain ⟨v, e, b⟩ := atl1 l; subst e; exact ⟨_, v, rfl, a, b⟩
theorem atl3 {us : List V} {x y z : D} (h : AtL K G us [x, y, z]) : ∃ u v w, us = [u, v, w] ∧ At K G u x ∧ At K G v y ∧ At K G w z := by
  cases h with | cons a l => obtain ⟨v, w, e, b, c⟩ := atl2 l; subst e; exact ⟨_, v, w, rfl, a, b, c⟩
theorem sim_rng1 (h : SimA K W t fs) : SimW K W (iRng1 t) (wRng1 fs) := fun P σ c G H Γ L s => by
  unfold wRng1
  refine Run.bind (t2 := fun vs H1 R => ∃ j : Int, vs = [V.int j] ∧ -(2 ^ 62) ≤ j ∧ j < 2 ^ 62 ∧ R (Itr 0 j.toNat) H1) s.iv (sim_vals h P σ c G H Γ L s) fun ds Γ1 us c1 G1 H1 L1 g1 s1 e1 r1 => ?_
  intro r e Q post
  split at e
  · rename_i j
    split at e
    · rename_i hj
      cases e
      obtain ⟨u, e2, h1⟩ := atl1 r1
      subst e2; cases h1
      refine ⟨j, rfl, hj.1, hj.2, post _ c1 G1 H1 L1 .refl s1 rfl ?_⟩
      have := range_w (K := K) (G := G1) (lo := 0) (hi := j)
      rwa [Int.sub_zero] at this
    · cases e
  · cases e
theorem sim_rng2 (h : SimA K W t fs) : SimW K W (iRng2 t) (wRng2 fs) := fun P σ c G H Γ L s => by
  unfold wRng2
  refine Run.bind (t2 := fun vs H1 R => ∃ i j : Int, vs = [V.int i, V.int j] ∧ (-(2 ^ 62) ≤ i ∧ i < 2 ^ 62 ∧ -(2 ^ 62) ≤ j ∧ j < 2 ^ 62) ∧ R (Itr i (j - i).toNat) H1) s.iv (sim_vals h P σ c G H Γ L s) fun ds Γ1 us c1 G1 H1 L1 g1 s1 e1 r1 => ?_
  intro r e Q post
  split at e
  · rename_i i j
    split at e
    · rename_i hj
      cases e
      obtain ⟨u, v, e2, h1, h2⟩ := atl2 r1
      subst e2; cases h1; cases h2
      exact ⟨i, j, rfl, hj, post _ c1 G1 H1 L1 .refl s1 rfl range_w⟩
    · cases e
  · cases e
/-! targets -/
def SmS (vs : List Nat) (σ σ' : L2.St) : Prop := σ'.length = σ.length ∧ ∀ k, k ∉ vs → σ'[k]? = σ[k]?
theorem SmS.refl {vs : List Nat} {σ : L2.St} : SmS vs σ σ := ⟨rfl, fun _ _ => rfl⟩
theorem SmS.trans {vs ws : List Nat} {σ σ' σ'' : L2.St} (a : SmS vs σ σ') (b : SmS ws σ' σ'') : SmS (vs ++ ws) σ σ'' := ⟨b.1.trans a.1, fun k hk => (b.2 k fun z => hk (List.mem_append_right _ z)).trans (a.2 k fun z => hk (List.mem_append_left _ z))⟩
def SimG (K : PySem.W.Frag) (W : WX) (vs : List Nat) (g : TG) (f : D → FM Unit) : Prop := ∀ P σ c G H Γ L, Sta K P c G H σ Γ L → ∀ u d, At K G u d → ∀ r, f d Γ = some r → ∀ Q : L2.St → Hp → Prop,
  (∀ Γ', r = .ok () Γ' → ∀ σ' c' G' H' L', SmS vs σ σ' → Grow (TL L) c G H c' G' H' → Sta K P c' G' H' σ' Γ' L' → (∀ x ∈ L', TL L x.1 ∨ H x.1 = none) → Q σ' H') →
  (∀ cn f d Γ', r = .ex cn f d Γ' → PostX K P W c G H L cn f d Γ') → g u σ H Q
def SimGs (K : PySem.W.Frag) (W : WX) (vs : List Nat) (g : TGs) (f : List D → FM Unit) : Prop := ∀ P σ c G H Γ L, Sta K P c G H σ Γ L → ∀ us ds, AtL K G us ds → ∀ r, f ds Γ = some r → ∀ Q : L2.St → Hp → Prop,
  (∀ Γ', r = .ok () Γ' → ∀ σ' c' G' H' L', SmS vs σ σ' → Grow (TL L) c G H c' G' H' → Sta K P c' G' H' σ' Γ' L' → (∀ x ∈ L', TL L x.1 ∨ H x.1 = none) → Q σ' H') →
  (∀ cn f d Γ', r = .ex cn f d Γ' → PostX K P W c G H L cn f d Γ') → g us σ H Q
def pName (i : Nat) : D → FM Unit := fun d Γ => some (.ok () (Γ.set i (.val d)))
theorem sim_gname {i : Nat} : SimG K W [i] (gName i) (pName i) := fun P σ c G H Γ L s u d a r e Q q _ => by
  cases e
  obtain ⟨L', h1, h2⟩ := s.val i a
  exact q _ rfl _ c G H L' ⟨List.length_set, fun k hk => List.getElem?_set_ne fun z => hk (by rw [z]; exact List.mem_singleton_self _)⟩ .refl h1 (tl_sub h2)
def pNil : List D → FM Unit
  | [] => FM.pure ()
  | _ => fFail
def pCons (f : D → FM Unit) (g : List D → FM Unit) : List D → FM Unit
  | d :: ds => FM.bind (f d) fun _ => g ds
  | [] => fFail
theorem fresh_trans (g : Grow (TL L) c G H c1 G1 H1) (n1 : ∀ x ∈ L1, TL L x.1 ∨ H x.1 = none) (n2 : ∀ x ∈ L', TL L1 x.1 ∨ H1 x.1 = none) : ∀ x ∈ L', TL L x.1 ∨ H x.1 = none := fun x hx => by
  rcases n2 x hx with z | z
  · obtain ⟨y, hy, ey⟩ := List.mem_map.mp z
    have := n1 y hy
    rwa [ey] at this
  · exact .inr (back_of g z)
theorem tl_fresh (n1 : ∀ x ∈ L1, TL L x.1 ∨ H x.1 = none) : ∀ b, TL L1 b → TL L b ∨ H b = none := fun b hb => by
  obtain ⟨y, hy, ey⟩ := List.mem_map.mp hb
  exact ey ▸ n1 y hy
theorem sim_gnil : SimGs K W [] gNil pNil := fun P σ c G H Γ L s us ds a r e Q q _ => by
  cases a with
  | nil => cases e; exact ⟨rfl, q _ rfl σ c G H L .refl .refl s tl_self⟩
  | cons _ _ => cases e
theorem sim_gcons {vs ws : List Nat} {g : TG} {gr : TGs} {f : D → FM Unit} {h : List D → FM Unit} (hg : SimG K W vs g f) (hr : SimGs K W ws gr h) : SimGs K W (vs ++ ws) (gCons g gr) (pCons f h) := fun P σ c G H Γ L s us ds a r e Q q qx => by
  cases a with
  | nil => cases e
  | cons a l =>
    rcases FM.bind_some e with ⟨v, Γ1, e1, e2⟩ | ⟨cn, f, d, Γ1, e1, er⟩
    · refine ⟨_, _, rfl, hg P σ c G H Γ L s _ _ a _ e1 _ (fun Γ' er σ' c1 G1 H1 L1 m1 g1 s1 n1 => ?_) fun _ _ _ _ er => (by cases er)⟩
      cases er
      exact hr P σ' c1 G1 H1 _ L1 s1 _ _ (AtL.mono g1.g l) r e2 Q (fun Γ' er σ'' c2 G2 H2 L2' m2 g2 s2 n2 => q Γ' er σ'' c2 G2 H2 L2' (m1.trans m2) (g1.trans' s.iv g2 (fun _ z => z) (tl_fresh n1)) s2 (fresh_trans g1 n1 n2))
        fun cn f d Γ' er => PostX.trans s.iv g1 n1 (qx cn f d Γ' er)
    · subst er
      exact ⟨_, _, rfl, hg P σ c G H Γ L s _ _ a _ e1 _ (fun _ er => (by cases er)) qx⟩
def pTup (k : Nat) (f : List D → FM Unit) : D → FM Unit
  | .tup ds => if ds.length = k then f ds else fFail
  | _ => fFail
theorem sim_gtup {vs : List Nat} {k : Nat} {g : TGs} {f : List D → FM Unit} (hg : SimGs K W vs g f) : SimG K W vs (gTup K k g) (pTup k f) := fun P σ c G H Γ L s u d a r e Q q qx => by
  cases a with
  | @tup p vs ds hs l =>
    have e : (if ds.length = k then f ds else fFail) Γ = some r := e
    split at e
    · rename_i hk
      exact ⟨p, vs, rfl, sqT_ext hs s.iv.i, by rw [l.length]; exact hk, hg P σ c G H Γ L s vs ds l r e Q q qx⟩
    · cases e
  | _ => cases e
def pUnl (k : Nat) (f : List D → FM Unit) : D → FM Unit
  | .lst ds => if ds.length = k then f ds else fFail
  | _ => fFail
theorem sim_gunl {vs : List Nat} {k : Nat} {g : TGs} {f : List D → FM Unit} (hg : SimGs K W vs g f) : SimG K W vs (gUnl K k g) (pUnl k f) := fun P σ c G H Γ L s u d a r e Q q qx => by
  cases a with
  | @lst p vs ds hs l =>
    have e : (if ds.length = k then f ds else fFail) Γ = some r := e
    split at e
    · rename_i hk
      exact ⟨p, vs, rfl, ext_lst s.iv.i hs, by rw [l.length]; exact hk, hg P σ c G H Γ L s vs ds l r e Q q qx⟩
    · cases e
  | _ => cases e
def fAsgG (f : FE) (g : D → FM Unit) : FS := FM.bind (fV f) fun d => FM.bind (g d) fun _ => fNx
theorem unit_cases {x : FM Unit} {r : Rt Fl} (e : FM.bind x (fun _ => fNx) Γ = some r) : (∃ Γ', x Γ = some (.ok () Γ') ∧ r = .ok .nx Γ') ∨ ∃ c f d Γ', x Γ = some (.ex c f d Γ') ∧ r = .ex c f d Γ' := by
  rcases FM.bind_some e with ⟨v, Γ1, e1, e2⟩ | h
  · cases e2; exact .inl ⟨Γ1, e1, rfl⟩
  · exact .inr h
theorem sim_asgG {vs : List Nat} {g : TG} {f : D → FM Unit} (h : SimE K W te fa) (hg : SimG K W vs g f) : SimS K W (tAsg te g) (fAsgG fa f) := fun P σ c G H Γ L s r e Dn post => by
  rcases FM.bind_some e with ⟨d, Γ1, e1, e2⟩ | ⟨cn, f, d, Γ1, e1, er⟩
  · refine sim_val h P σ c G H Γ L s _ e1 _ ?_
    intro b c1 G1 H1 L1 g1 s1 e1' r1
    have post1 := post.trans s.iv g1 (tl_of e1')
    rcases unit_cases e2 with ⟨Γ2, eu, er⟩ | ⟨cn, f, d2, Γ2, eu, er⟩
    · subst er
      exact hg P σ c1 G1 H1 Γ1 L1 s1 b d r1 _ eu _ (fun Γ' er σ' c2 G2 H2 L2' m2 g2 s2 n2 => by cases er; exact post1.nx _ rfl σ' c2 G2 H2 L2' g2 s2 n2) fun _ _ _ _ er => (by cases er)
    · subst er
      exact hg P σ c1 G1 H1 Γ1 L1 s1 b d r1 _ eu _ (fun _ er => (by cases er)) fun cn' f' d' Γ' er => by cases er; exact post1.ex _ _ _ _ rfl
  · subst er
    exact sim_val h P σ c G H Γ L s _ e1 _ (post.ex cn f d Γ1 rfl)
/-- x, y = a, b -/
def fPar (i j : Nat) (f : FA) : FS := FM.bind (fVs f) fun ds Γ => match ds with
  | [x, y] => some (.ok .nx ((Γ.set i (.val x)).set j (.val y)))
  | _ => none
theorem sim_par {i j : Nat} (h : SimA K W t fs) : SimS K W (tPar i j t) (fPar i j fs) := fun P σ c G H Γ L s r e Dn post => by
  rcases FM.bind_some e with ⟨ds, Γ1, e1, e2⟩ | ⟨cn, f, d, Γ1, e1, er⟩
  · refine sim_vals h P σ c G H Γ L s _ e1 _ ?_
    intro b c1 G1 H1 L1 g1 s1 e1' r1
    split at e2
    · cases e2
      obtain ⟨u, v, eb, h1, h2⟩ := atl2 r1
      subst eb
      obtain ⟨La, sa, na⟩ := s1.val i h1
      obtain ⟨Lb, sb, nb⟩ := sa.val j h2
      exact ⟨u, v, rfl, post.nx _ rfl _ c1 G1 H1 Lb g1 sb fun x hx => tl_of e1' x (na.subset (nb.subset hx))⟩
    · cases e2
  · subst er
    exact sim_vals h P σ c G H Γ L s _ e1 _ (post.ex cn f d Γ1 rfl)
def fPar3 (i j l : Nat) (f : FA) : FS := FM.bind (fVs f) fun ds Γ => match ds with
  | [x, y, z] => some (.ok .nx (((Γ.set i (.val x)).set j (.val y)).set l (.val z)))
  | _ => none
theorem sim_par3 {i j l : Nat} (h : SimA K W t fs) : SimS K W (tPar3 i j l t) (fPar3 i j l fs) := fun P σ c G H Γ L s r e Dn post => by
  rcases FM.bind_some e with ⟨ds, Γ1, e1, e2⟩ | ⟨cn, f, d, Γ1, e1, er⟩
  · refine sim_vals h P σ c G H Γ L s _ e1 _ ?_
    intro b c1 G1 H1 L1 g1 s1 e1' r1
    split at e2
    · cases e2
      obtain ⟨u, v, w, eb, h1, h2, h3⟩ := atl3 r1
      subst eb
      obtain ⟨La, sa, na⟩ := s1.val i h1
      obtain ⟨Lb, sb, nb⟩ := sa.val j h2
      obtain ⟨Lc, sc, nc⟩ := sb.val l h3
      exact ⟨u, v, w, rfl, post.nx _ rfl _ c1 G1 H1 Lc g1 sc fun x hx => tl_of e1' x (na.subset (nb.subset (nc.subset hx)))⟩
    · cases e2
  · subst er
    exact sim_vals h P σ c G H Γ L s _ e1 _ (post.ex cn f d Γ1 rfl)
/-! for -/
def forL (g : D → FM Unit) (b : FS) : List D → FS
  | [] => fNx
  | d :: ds => FM.bind (g d) fun _ => FM.bind b fun
    | .nx => forL g b ds
    | .ct => forL g b ds
    | .bk => fNx
    | .rt v => FM.pure (.rt v)
def fFor (w : FW) (g : D → FM Unit) (b : FS) : FS := FM.bind w fun ds => forL g b ds
theorem sim_for {vs : List Nat} {wi : TI} {g : TG} {fw : FW} {f : D → FM Unit} (hw : SimW K W wi fw) (hg : SimG K W vs g f) (hb : SimS K W ts fS) : SimS K W (tFor wi g ts) (fFor fw f fS) := fun P σ c G H Γ L s r e Dn post => by
  rcases FM.bind_some e with ⟨ds, Γ1, e1, e2⟩ | ⟨cn, fld, d, Γ1, e1, er⟩
  · refine hw P σ c G H Γ L s _ e1 _ ?_
    intro J c1 G1 H1 L1 g1 s1 e1' r1
    obtain ⟨Gd, Y, w, hG, hY⟩ := r1
    have post1 := post.trans s.iv g1 (tl_of e1')
    refine for_it w (fun i σ' H' => ∃ Γ' c' G' L', Grow (TL L1) c1 G1 H1 c' G' H' ∧ Sta K P c' G' H' σ' Γ' L' ∧ (∀ x ∈ L', TL L1 x.1 ∨ H1 x.1 = none) ∧ forL f fS (ds.drop i) Γ' = some r) ⟨Γ1, c1, G1, L1, .refl, s1, tl_self, by simpa using e2⟩ (fun i σ' H' _ ⟨_, _, G', _, g', s', _, _⟩ => hG _ (g'.g.trans s'.iv.i)) ?_ ?_
    · rintro i x σ' H' H2 hi ⟨Γ', c', G', L', g', s', n', ef⟩ y
      obtain ⟨G2, d, pg, ed, td⟩ := hY i H' x H2 G' hi g'.g s'.iv.i y
      have s2 := s'.pg pg
      have g2 : Grow (TL L1) c1 G1 H1 c' G2 H2 := g'.trans s1.iv (pg.grow s'.iv)
      have edr : ds.drop i = d :: ds.drop (i + 1) := by
        obtain ⟨h1, h2⟩ := List.getElem?_eq_some_iff.mp ed
        rw [← h2]; exact List.drop_eq_getElem_cons h1
      rw [edr] at ef
      rcases FM.bind_some ef with ⟨_, Γ3, e3, e4⟩ | ⟨cn, fld, d3, Γ3, e3, er⟩
      · refine hg P σ' c' G2 H2 Γ' L' s2 x d td _ e3 _ (fun Γ4 er σ3 c3 G3 H3 L3 m3 g3 s3 n3 => ?_) fun _ _ _ _ er => (by cases er)
        cases er
        have g3' := g2.trans' s1.iv g3 (fun _ z => z) (tl_fresh n')
        have n3' := fresh_trans g2 n' n3
        rcases FM.bind_some e4 with ⟨fl, Γ4, e5, e6⟩ | ⟨cn, fld, d4, Γ4, e5, er⟩
        · refine hb P σ3 c3 G3 H3 Γ3 L3 s3 _ e5 _ ?_
          have next : ∀ Γ5, Rt.ok fl Γ4 = .ok .nx Γ5 ∨ Rt.ok fl Γ4 = .ok .ct Γ5 → ∀ σ4 c4 G4 H4 L4, Grow (TL L3) c3 G3 H3 c4 G4 H4 → Sta K P c4 G4 H4 σ4 Γ5 L4 → (∀ x ∈ L4, TL L3 x.1 ∨ H3 x.1 = none) →
              ∃ Γ' c' G' L', Grow (TL L1) c1 G1 H1 c' G' H4 ∧ Sta K P c' G' H4 σ4 Γ' L' ∧ (∀ x ∈ L', TL L1 x.1 ∨ H1 x.1 = none) ∧ forL f fS (ds.drop (i + 1)) Γ' = some r := by
            intro Γ5 er σ4 c4 G4 H4 L4 g4 s4 n4
            refine ⟨Γ5, c4, G4, L4, g3'.trans' s1.iv g4 (fun _ z => z) (tl_fresh n3'), s4, fresh_trans g3' n3' n4, ?_⟩
            rcases er with er | er <;> cases er <;> exact e6
          refine ⟨fun Γ5 er => next Γ5 (.inl er), fun Γ5 er σ4 c4 G4 H4 L4 g4 s4 n4 => ?_, fun Γ5 er => next Γ5 (.inr er), fun v Γ5 er u σ4 c4 G4 H4 L4 g4 s4 n4 t4 => ?_, fun _ _ _ _ er => (by cases er)⟩
          · cases er; cases e6
            exact post1.nx _ rfl σ4 c4 G4 H4 L4 (g3'.trans' s1.iv g4 (fun _ z => z) (tl_fresh n3')) s4 (fresh_trans g3' n3' n4)
          · cases er; cases e6
            exact post1.rt _ _ rfl u σ4 c4 G4 H4 L4 (g3'.trans' s1.iv g4 (fun _ z => z) (tl_fresh n3')) s4 (fresh_trans g3' n3' n4) (t4.back g3'.n)
        · subst er
          refine hb P σ3 c3 G3 H3 Γ3 L3 s3 _ e5 _ ⟨fun _ er => (by cases er), fun _ er => (by cases er), fun _ er => (by cases er), fun _ _ er => (by cases er), fun cn' f' d' Γ' er => ?_⟩
          cases er
          exact PostX.trans s1.iv g3' n3' (post1.ex _ _ _ _ rfl)
      · subst er
        exact hg P σ' c' G2 H2 Γ' L' s2 x d td _ e3 _ (fun _ er => (by cases er)) fun cn' f' d' Γ4 er => by
          cases er
          exact PostX.trans s1.iv g2 n' (post1.ex _ _ _ _ rfl)
    · rintro σ' H' ⟨Γ', c', G', L', g', s', n', ef⟩
      rw [List.drop_length] at ef
      cases ef
      exact post1.nx Γ' rfl σ' c' G' H' L' g' s' n'
  · subst er
    exact hw P σ c G H Γ L s _ e1 _ (post.ex cn fld d Γ1 rfl)
/-! while -/
def whileN (a : FT) (b : FS) : Nat → FS
  | 0 => fFail
  | n + 1 => FM.bind a fun k => if k = true then FM.bind b fun
    | .nx => whileN a b n
    | .ct => whileN a b n
    | .bk => fNx
    | .rt v => FM.pure (.rt v) else fNx
def fWhile (n : Nat) (a : FT) (b : FS) : FS := whileN a b n
theorem sim_while {n : Nat} (ha : SimT K W tt ft) (hb : SimS K W ts fS) : SimS K W (tWhile tt ts) (fWhile n ft fS) := fun P σ c G H Γ L s r e Dn post => by
  refine ⟨fun m σ' H' => ∃ Γ' c' G' L', Grow (TL L) c G H c' G' H' ∧ Sta K P c' G' H' σ' Γ' L' ∧ (∀ x ∈ L', TL L x.1 ∨ H x.1 = none) ∧ whileN ft fS m Γ' = some r, ⟨n, Γ, c, G, L, .refl, s, tl_self, e⟩, ?_⟩
  rintro m σ' H' ⟨Γ', c', G', L', g', s', n', em⟩
  cases m with
  | zero => cases em
  | succ m =>
    rcases FM.bind_some em with ⟨k, Γ1, e1, e2⟩ | ⟨cn, fld, d, Γ1, e1, er⟩
    · refine ha P σ' c' G' H' Γ' L' s' _ e1 _ ?_
      intro b c1 G1 H1 L1 g1 s1 e1' r1
      have eb : b = k := r1
      subst eb
      have g1' := g'.trans' s.iv g1 (fun _ z => z) (tl_fresh n')
      have n1' : ∀ x ∈ L1, TL L x.1 ∨ H x.1 = none := fresh_trans g' n' (tl_of e1')
      cases b with
      | false =>
        cases e2
        exact post.nx _ rfl σ' c1 G1 H1 L1 g1' s1 n1'
      | true =>
        refine ⟨fun σ2 H2 => ∃ Γ' c' G' L', Grow (TL L) c G H c' G' H2 ∧ Sta K P c' G' H2 σ2 Γ' L' ∧ (∀ x ∈ L', TL L x.1 ∨ H x.1 = none) ∧ whileN ft fS m Γ' = some r, fun σ2 H2 h => ⟨m, Nat.lt_succ_self m, h⟩, ?_⟩
        rcases FM.bind_some e2 with ⟨fl, Γ4, e5, e6⟩ | ⟨cn, fld, d4, Γ4, e5, er⟩
        · refine hb P σ' c1 G1 H1 Γ1 L1 s1 _ e5 _ ?_
          have next : ∀ Γ5, Rt.ok fl Γ4 = .ok .nx Γ5 ∨ Rt.ok fl Γ4 = .ok .ct Γ5 → ∀ σ4 c4 G4 H4 L4, Grow (TL L1) c1 G1 H1 c4 G4 H4 → Sta K P c4 G4 H4 σ4 Γ5 L4 → (∀ x ∈ L4, TL L1 x.1 ∨ H1 x.1 = none) →
              ∃ Γ' c' G' L', Grow (TL L) c G H c' G' H4 ∧ Sta K P c' G' H4 σ4 Γ' L' ∧ (∀ x ∈ L', TL L x.1 ∨ H x.1 = none) ∧ whileN ft fS m Γ' = some r := by
            intro Γ5 er σ4 c4 G4 H4 L4 g4 s4 n4
            refine ⟨Γ5, c4, G4, L4, g1'.trans' s.iv g4 (fun _ z => z) (tl_fresh n1'), s4, fresh_trans g1' n1' n4, ?_⟩
            rcases er with er | er <;> cases er <;> exact e6
          refine ⟨fun Γ5 er => next Γ5 (.inl er), fun Γ5 er σ4 c4 G4 H4 L4 g4 s4 n4 => ?_, fun Γ5 er => next Γ5 (.inr er), fun v Γ5 er u σ4 c4 G4 H4 L4 g4 s4 n4 t4 => ?_, fun _ _ _ _ er => (by cases er)⟩
          · cases er; cases e6
            exact post.nx _ rfl σ4 c4 G4 H4 L4 (g1'.trans' s.iv g4 (fun _ z => z) (tl_fresh n1')) s4 (fresh_trans g1' n1' n4)
          · cases er; cases e6
            exact post.rt _ _ rfl u σ4 c4 G4 H4 L4 (g1'.trans' s.iv g4 (fun _ z => z) (tl_fresh n1')) s4 (fresh_trans g1' n1' n4) (t4.back g1'.n)
        · subst er
          refine hb P σ' c1 G1 H1 Γ1 L1 s1 _ e5 _ ⟨fun _ er => (by cases er), fun _ er => (by cases er), fun _ er => (by cases er), fun _ _ er => (by cases er), fun cn' f' d' Γ' er => ?_⟩
          cases er
          exact PostX.trans s.iv g1' n1' (post.ex _ _ _ _ rfl)
    · subst er
      exact ha P σ' c' G' H' Γ' L' s' _ e1 _ (PostX.trans s.iv g' n' (post.ex cn fld d Γ1 rfl))
end
end DF

set_option linter.all false
set_option maxRecDepth 100000
set_option maxHeartbeats 4000000
namespace DF
open PySem PySem.Spec PyProof.Rows L2
variable [TbC]
section
variable {K : PySem.W.Frag} {G G' H H' H0 H1 G1 : Hp} {P : List Addr} {σ σ' : L2.St} {Γ Γ' Γ1 : EnvF} {L L' L1 : List (Addr × OD)} {c c' c1 : Ow} {W : WX}
variable {ta tb te : TE} {t tr tk : TA} {fa fb fc : FE} {fs fr fk : FA} {tt tu : TT} {ft fu : FT} {E : XK} {ts tw : TS} {fS fT : FS}
/-! ### comprehensions -/
def wipeF (Γ : EnvF) : List Nat → EnvF
  | [] => Γ
  | v :: vs => (wipeF Γ vs).set v .no
def backF (Γ0 Γ3 : EnvF) : List Nat → EnvF
  | [] => Γ3
  | v :: vs => (backF Γ0 Γ3 vs).set v (Γ0.getD v .no)
def backS (σ σ2 : L2.St) : List Nat → L2.St
  | [] => σ2
  | v :: vs => (backS σ σ2 vs).set v (σ.getD v none)
def isOwn : Sl → Bool
  | .own _ _ => true
  | _ => false
theorem backS_length (σ σ2 : L2.St) : ∀ vs, (backS σ σ2 vs).length = σ2.length
  | [] => rfl
  | v :: vs => by rw [backS, List.length_set, backS_length σ σ2 vs]
theorem backS_get (σ σ2 : L2.St) : ∀ (vs : List Nat) (k : Nat), (backS σ σ2 vs)[k]? = if k ∈ vs ∧ k < σ2.length then some (σ.getD k none) else σ2[k]?
  | [], k => by simp [backS]
  | v :: vs, k => by
    rw [backS, List.getElem?_set, backS_get σ σ2 vs k, backS_length]
    by_cases h : v = k
    · subst h
      by_cases hl : v < σ2.length
      · simp [hl]
      · have : σ2[v]? = none := by simp; omega
        simp [hl, this]
    · have h' : ¬ k = v := fun z => h z.symm
      simp [h, h']
theorem wipe_get (σ : L2.St) : ∀ (vs : List Nat) (k : Nat), (wipe σ vs)[k]? = if k ∈ vs ∧ k < σ.length then some none else σ[k]?
  | [], k => by simp [wipe]
  | v :: vs, k => by
    rw [wipe, List.getElem?_set, wipe_get σ vs k, wipe_length]
    by_cases h : v = k
    · subst h
      by_cases hl : v < σ.length
      · simp [hl]
      · have : σ[v]? = none := by simp; omega
        simp [hl, this]
    · have h' : ¬ k = v := fun z => h z.symm
      simp [h, h']
theorem same_wipe {vs : List Nat} (h : SmS vs (wipe σ vs) σ') : wipe σ' vs = wipe σ vs := by
  apply List.ext_getElem?
  intro k
  have hl : σ'.length = σ.length := by rw [h.1, wipe_length]
  by_cases hk : k ∈ vs
  · rw [wipe_get, wipe_get, hl]
    by_cases hk2 : k < σ.length
    · rw [if_pos ⟨hk, hk2⟩, if_pos ⟨hk, hk2⟩]
    · have e1 : σ'[k]? = none := by simp; omega
      have e2 : σ[k]? = none := by simp; omega
      rw [if_neg (fun z => hk2 z.2), if_neg (fun z => hk2 z.2), e1, e2]
  · rw [wipe_get, if_neg (fun z => hk z.1), h.2 k hk]
theorem same_back {vs : List Nat} (h : SmS vs (wipe σ vs) σ') : backS σ σ' vs = σ := by
  apply List.ext_getElem?
  intro k
  have hl : σ'.length = σ.length := by rw [h.1, wipe_length]
  rw [backS_get, hl]
  by_cases hk : k ∈ vs
  · by_cases hk2 : k < σ.length
    · rw [if_pos ⟨hk, hk2⟩]
      simp [List.getD, hk2]
    · rw [if_neg (fun z => hk2 z.2)]
      have e1 : σ'[k]? = none := by simp; omega
      have e2 : σ[k]? = none := by simp; omega
      rw [e1, e2]
  · rw [if_neg (fun z => hk z.1), h.2 k hk, wipe_get, if_neg (fun z => hk z.1)]
theorem EnvR.wiped (h : EnvR K G P σ Γ L) : ∀ vs, ∃ L', EnvR K G P (wipe σ vs) (wipeF Γ vs) L' ∧ L'.Sublist L
  | [] => ⟨L, h, List.Sublist.refl _⟩
  | v :: vs => by
    obtain ⟨L1, h1, h2⟩ := EnvR.wiped h vs
    obtain ⟨L2', h3, h4⟩ := h1.setNo v none
    exact ⟨L2', h3, h4.trans h2⟩
theorem EnvR.back {σ2 : L2.St} {Γ3 : EnvF} {L3 : List (Addr × OD)} (h : EnvR K G P σ2 Γ3 L3) (h0 : EnvR K G P σ Γ L) : ∀ vs : List Nat, (vs.all fun v => !isOwn (Γ.getD v .no)) = true → ∃ L', EnvR K G P (backS σ σ2 vs) (backF Γ Γ3 vs) L' ∧ L'.Sublist L3
  | [], _ => ⟨L3, h, List.Sublist.refl _⟩
  | v :: vs, e => by
    rw [List.all_cons, Bool.and_eq_true] at e
    obtain ⟨L1, h1, h2⟩ := EnvR.back h h0 vs e.2
    unfold backS backF
    cases ev : Γ[v]? with
    | none =>
      have : Γ.getD v .no = .no := by simp [List.getD, ev]
      rw [this]
      obtain ⟨L2', h3, h4⟩ := h1.setNo v (σ.getD v none)
      exact ⟨L2', h3, h4.trans h2⟩
    | some x =>
      have ex : Γ.getD v .no = x := by simp [List.getD, ev]
      rw [ex] at e ⊢
      cases x with
      | no =>
        obtain ⟨L2', h3, h4⟩ := h1.setNo v (σ.getD v none)
        exact ⟨L2', h3, h4.trans h2⟩
      | val d =>
        obtain ⟨u, q1, q2⟩ := h0.get ev
        have : σ.getD v none = some u := by simp [List.getD, q1]
        rw [this]
        obtain ⟨L2', h3, h4⟩ := h1.setVal v q2
        exact ⟨L2', h3, h4.trans h2⟩
      | own k o => simp [isOwn] at e
      | exc =>
        have : σ.getD v none = some (.ref TbC.xa) := by simp [List.getD, h0.getX ev]
        rw [this]
        obtain ⟨L2', h3, h4⟩ := h1.setX v
        exact ⟨L2', h3, h4.trans h2⟩
theorem EnvR.pat : ∀ {σ : L2.St} {Γ Γ' : EnvF} {L L' : List (Addr × OD)}, EnvR K G P σ Γ L → EnvR K G' P σ Γ' L' → Γ'.map isOwn = Γ.map isOwn → L'.map (·.1) = L.map (·.1)
  | _, _, _, _, _, .nil, .nil, _ => rfl
  | _, _, _, _, _, .no a, .no b, e => EnvR.pat a b (by simpa using e)
  | _, _, _, _, _, .no a, .val _ b, e => EnvR.pat a b (by simpa [isOwn] using e)
  | _, _, _, _, _, .no a, .own _ b, e => by simp [isOwn] at e
  | _, _, _, _, _, .val _ a, .no b, e => EnvR.pat a b (by simpa [isOwn] using e)
  | _, _, _, _, _, .val _ a, .val _ b, e => EnvR.pat a b (by simpa [isOwn] using e)
  | _, _, _, _, _, .val _ a, .own _ b, e => by simp [isOwn] at e
  | _, _, _, _, _, .no a, .exc b, e => EnvR.pat a b (by simpa [isOwn] using e)
  | _, _, _, _, _, .val _ a, .exc b, e => EnvR.pat a b (by simpa [isOwn] using e)
  | _, _, _, _, _, .exc a, .no b, e => EnvR.pat a b (by simpa [isOwn] using e)
  | _, _, _, _, _, .exc a, .val _ b, e => EnvR.pat a b (by simpa [isOwn] using e)
  | _, _, _, _, _, .exc a, .exc b, e => EnvR.pat a b (by simpa [isOwn] using e)
  | _, _, _, _, _, .exc a, .own _ b, e => by simp [isOwn] at e
  | _, _, _, _, _, .own _ a, .exc b, e => by simp [isOwn] at e
  | _, _, _, _, _, .own _ a, .no b, e => by simp [isOwn] at e
  | _, _, _, _, _, .own _ a, .val _ b, e => by simp [isOwn] at e
  | _, _, _, _, _, .own _ a, .own _ b, e => by
    have := EnvR.pat a b (by simpa [isOwn] using e)
    simp [this]
def lcTurn (g : D → FM Unit) (ft : FT) (fe : FE) (d : D) (acc : List D) : FM (List D) := FM.bind (g d) fun _ => FM.bind ft fun k => if k = true then FM.bind (fV fe) fun y => FM.pure (acc ++ [y]) else FM.pure acc
def lcL (g : D → FM Unit) (ft : FT) (fe : FE) (vs : List Nat) : List D → List D → FM (List D)
  | [], acc => FM.pure acc
  | d :: ds, acc => fun Γ => match lcTurn g ft fe d acc (wipeF Γ vs) with
    | some (.ok acc' Γ3) => if (vs.all fun v => !isOwn (Γ.getD v .no)) = true ∧ (backF Γ Γ3 vs).map isOwn = Γ.map isOwn then lcL g ft fe vs ds acc' (backF Γ Γ3 vs) else none
    | _ => none
theorem lcL_ok {g : D → FM Unit} {ft : FT} {fe : FE} {vs : List Nat} : ∀ {ds acc : List D} {Γ : EnvF} {r : Rt (List D)}, lcL g ft fe vs ds acc Γ = some r → ∃ v Γ', r = .ok v Γ'
  | [], acc, Γ, r, e => by cases e; exact ⟨_, _, rfl⟩
  | d :: ds, acc, Γ, r, e => by
    unfold lcL at e
    split at e
    · split at e
      · exact lcL_ok e
      · cases e
    · cases e
def fLc (w : FW) (g : D → FM Unit) (ft : FT) (fe : FE) (vs : List Nat) : FE := FM.bind w fun ds => if ds.length < 16777216 then FM.bind (lcL g ft fe vs ds []) fun acc => FM.pure (.val (.lst acc)) else fFail
def fLcO (w : FW) (g : D → FM Unit) (ft : FT) (fe : FE) (vs : List Nat) : FE := FM.bind w fun ds => if ds.length < 16777216 then FM.bind (lcL g ft fe vs ds []) fun acc => FM.pure (.own (.lst acc)) else fFail
theorem lc_core {wi : TI} {g : TG} {fw : FW} {f : D → FM Unit} {vs : List Nat} (hw : SimW K W wi fw) (hg : SimG K W vs g f) (ht : SimT K W tt ft) (he : SimE K W te fa) (s : Sta K P c G H σ Γ L) {r : Rt Vr} {rv : List D → Vr} (ov : (∀ acc, rv acc = .val (.lst acc)) ∨ ∀ acc, rv acc = .own (.lst acc))
    (e : FM.bind fw (fun ds => if ds.length < 16777216 then FM.bind (lcL f ft fa vs ds []) fun acc => FM.pure (rv acc) else fFail) Γ = some r) {Q : VK} (post : PostE vrR K P W σ c G H L Q r) : tLc wi g tt te vs σ H Q := by
  rcases FM.bind_some e with ⟨ds, Γ1, e1, e2⟩ | ⟨cn, fld, d, Γ1, e1, er⟩
  · refine hw P σ c G H Γ L s _ e1 _ ?_
    intro J c1 G1 H1 L1 g1 s1 e1' r1
    obtain ⟨Gd, Y, w, hG, hY⟩ := r1
    have e2 : (if ds.length < 16777216 then FM.bind (lcL f ft fa vs ds []) fun acc => FM.pure (rv acc) else fFail) Γ1 = some r := e2
    split at e2
    · rename_i hlen
      obtain ⟨accF, Γe, e3, er⟩ : ∃ accF Γe, lcL f ft fa vs ds [] Γ1 = some (.ok accF Γe) ∧ r = .ok (rv accF) Γe := by
        rcases FM.bind_some e2 with ⟨v, Γe, q1, q2⟩ | ⟨_, _, _, _, q1, _⟩
        · cases q2; exact ⟨v, Γe, q1, rfl⟩
        · obtain ⟨_, _, z⟩ := lcL_ok q1; cases z
      subst er
      intro Dd hD
      have hDs : H Dd = none := back_of g1 hD
      obtain ⟨gn, vn⟩ := own_new (T := TL L1) s1.iv (o := .lst []) (ho := .lst []) hD ⟨[], upd_same, .nil⟩
      have npD : Dd ∉ L1.map (·.1) := fun z => by
        obtain ⟨x, hx, ex⟩ := List.mem_map.mp z
        have := (s1.iv.ow _ _ (s1.ow x hx)).2.some
        rw [ex] at this; exact this hD
      have sn : Sta K P (c1.put Dd (.lst [])) G1 (upd H1 Dd (.lst [])) σ Γ1 L1 := ⟨s1.r, s1.nd, fun x hx => by
        have ne : x.1 ≠ Dd := fun z => npD (by rw [← z]; exact List.mem_map.mpr ⟨x, hx, rfl⟩)
        rw [Ow.put_ne ne]; exact s1.ow x hx, vn, fun p hp => gn.n p (s1.pa p hp)⟩
      refine lc_it w (fun i H' => ∃ acc Γ' c' G' L', Grow (TL L1) c1 G1 H1 c' G' H' ∧ Sta K P c' G' H' σ Γ' L' ∧ L'.map (·.1) = L1.map (·.1) ∧ c' Dd = some (.lst acc) ∧ acc.length ≤ i ∧ lcL f ft fa vs (ds.drop i) acc Γ' = some (.ok accF Γe))
        ⟨[], Γ1, _, G1, L1, gn, sn, rfl, Ow.put_same, Nat.le_refl _, by simpa using e3⟩ (fun i H' _ ⟨_, _, _, G', _, g', s', _⟩ => hG _ (g'.g.trans s'.iv.i)) ?_ ?_
      · rintro i x H' H2 hi ⟨acc, Γ', c', G', L', g', s', n', cD, hacc, ef⟩ y
        obtain ⟨G2, d, pg, ed, td⟩ := hY i H' x H2 G' hi g'.g s'.iv.i y
        have s2 := s'.pg pg
        have g2 : Grow (TL L1) c1 G1 H1 c' G2 H2 := g'.trans s1.iv (pg.grow s'.iv)
        have edr : ds.drop i = d :: ds.drop (i + 1) := by
          obtain ⟨h1, h2⟩ := List.getElem?_eq_some_iff.mp ed
          rw [← h2]; exact List.drop_eq_getElem_cons h1
        rw [edr] at ef
        unfold lcL at ef
        cases el : lcTurn f ft fa d acc (wipeF Γ' vs) with
        | none => rw [el] at ef; cases ef
        | some rr =>
          rw [el] at ef
          cases rr with
          | ex _ _ _ _ => cases ef
          | ok acc' Γ3 =>
            have ef : (if (vs.all fun v => !isOwn (Γ'.getD v .no)) = true ∧ (backF Γ' Γ3 vs).map isOwn = Γ'.map isOwn then lcL f ft fa vs (ds.drop (i + 1)) acc' (backF Γ' Γ3 vs) else none) = some (.ok accF Γe) := ef
            by_cases hc : (vs.all fun v => !isOwn (Γ'.getD v .no)) = true ∧ (backF Γ' Γ3 vs).map isOwn = Γ'.map isOwn
            · rw [if_pos hc] at ef
              -- the wiped state
              obtain ⟨Lw, w1, w2⟩ := s2.r.wiped vs
              have sw : Sta K P c' G2 H2 (wipe σ vs) (wipeF Γ' vs) Lw := ⟨w1, s2.nd.sublist (w2.map _), fun x hx => s2.ow x (w2.subset hx), s2.iv, s2.pa⟩
              have nDw : Dd ∉ Lw.map (·.1) := fun z => npD (by rw [← n']; exact (w2.map _).subset z)
              -- what holds at the end of the turn
              have fin : ∀ σ3 c3 G3 H3 L3, SmS vs (wipe σ vs) σ3 → Grow (TL Lw) c' G2 H2 c3 G3 H3 → Sta K P c3 G3 H3 σ3 Γ3 L3 → (∀ x ∈ L3, TL Lw x.1 ∨ H2 x.1 = none) → ∃ L4, Sta K P c3 G3 H3 σ (backF Γ' Γ3 vs) L4 ∧ L4.map (·.1) = L1.map (·.1) := by
                intro σ3 c3 G3 H3 L3 hsame g3 s3 n3
                obtain ⟨L4, b1, b2⟩ := EnvR.back (Γ := Γ') s3.r ((s2.r).mono g3.g) vs hc.1
                rw [same_back hsame] at b1
                have pat := EnvR.pat s2.r b1 hc.2
                exact ⟨L4, ⟨b1, s3.nd.sublist (b2.map _), fun x hx => s3.ow x (b2.subset hx), s3.iv, s3.pa⟩, pat.trans n'⟩
              have gw : ∀ {c3 G3 H3}, Grow (TL Lw) c' G2 H2 c3 G3 H3 → Grow (TL L1) c1 G1 H1 c3 G3 H3 := fun g3 => g2.trans' s1.iv g3 (fun _ z => z) fun b z => .inl (by
                show b ∈ L1.map (·.1)
                rw [← n']; exact (w2.map _).subset z)
              have keepD : ∀ {c3 G3 H3}, Grow (TL Lw) c' G2 H2 c3 G3 H3 → c3 Dd = some (.lst acc) := fun g3 => by rw [(g3.f Dd nDw (by rw [cD]; simp)).1]; exact cD
              unfold lcTurn at el
              rcases FM.bind_some el with ⟨_, Γa, ea, eb⟩ | ⟨_, _, _, _, _, er⟩
              · refine hg P (wipe σ vs) c' G2 H2 _ Lw sw x d td _ ea _ (fun Γ4 er σa ca Ga Ha La ma ga sa na => ?_) fun _ _ _ _ er => (by cases er)
                cases er
                refine ⟨same_wipe ma, ?_⟩
                rcases FM.bind_some eb with ⟨k, Γb, ec, ed'⟩ | ⟨_, _, _, _, _, er⟩
                · refine ht P σa ca Ga Ha Γa La sa _ ec _ ?_
                  intro b cb Gb Hb Lb gb sb eLb rb
                  have ebk : b = k := rb
                  subst ebk
                  have gb' := ga.trans' s2.iv gb (fun _ z => z) (tl_fresh na)
                  have nb' : ∀ x ∈ Lb, TL Lw x.1 ∨ H2 x.1 = none := fresh_trans ga na (tl_of eLb)
                  cases b with
                  | false =>
                    rw [if_neg (by decide)] at ed' ⊢
                    cases ed'
                    obtain ⟨L4, q1, q2⟩ := fin σa cb Gb Hb Lb ma gb' sb nb'
                    exact ⟨acc, _, cb, Gb, L4, gw gb', q1, q2, keepD gb', by omega, ef⟩
                  | true =>
                    rw [if_pos rfl] at ed' ⊢
                    rcases FM.bind_some ed' with ⟨yv, Γd, ee, eg⟩ | ⟨_, _, _, _, _, er⟩
                    · cases eg
                      refine sim_val he P σa cb Gb Hb Γb Lb sb _ ee _ ?_
                      intro u cd Gd' Hd Ld gd sd eLd rd
                      have gd' := gb'.trans' s2.iv gd (fun _ z => z) (tl_fresh nb')
                      have nd' : ∀ x ∈ Ld, TL Lw x.1 ∨ H2 x.1 = none := fresh_trans gb' nb' (tl_of eLd)
                      have cD' := keepD gd'
                      obtain ⟨us, hu, hus⟩ := (sd.iv.ow _ _ cD').2
                      refine ⟨us, hu, by rw [hus.length, sizeLine_eq]; omega, ?_⟩
                      obtain ⟨go, vo⟩ := own_set (T := fun b => b = Dd) sd.iv (o' := .lst (acc ++ [yv])) (ho := .lst (us ++ [u])) rfl cD' ⟨_, upd_same, hus.append (.cons rd .nil)⟩
                      obtain ⟨L4, q1, q2⟩ := fin σa cd Gd' Hd Ld ma gd' sd nd'
                      have np4 : Dd ∉ L4.map (·.1) := by rw [q2]; exact npD
                      refine ⟨acc ++ [yv], _, _, Gd', L4, (gw gd').trans' s1.iv go (fun _ z => z) (fun b z => .inr (by rw [z]; exact hD)), ⟨q1.r, q1.nd, fun x hx => ?_, vo, fun p hp => go.n p (q1.pa p hp)⟩, q2, Ow.put_same, by rw [List.length_append]; simp; omega, ef⟩
                      have ne : x.1 ≠ Dd := fun z => np4 (by rw [← z]; exact List.mem_map.mpr ⟨x, hx, rfl⟩)
                      rw [Ow.put_ne ne]; exact q1.ow x hx
                    · cases er
                · cases er
              · cases er
            · rw [if_neg hc] at ef; cases ef
      · rintro H' ⟨acc, Γ', c', G', L', g', s', n', cD, hacc, ef⟩
        rw [List.drop_length] at ef
        cases ef
        have npD' : Dd ∉ L'.map (·.1) := by rw [n']; exact npD
        have gall := g1.trans' s.iv g' (fun _ z => z) (fun b z => .inl (by unfold TL at z ⊢; rwa [e1'] at z))
        rcases ov with ov | ov
        · rw [ov] at post
          obtain ⟨us, hu, hus⟩ := (s'.iv.ow _ _ cD).2
          obtain ⟨gt, vt⟩ := own_told (T := fun b => b = Dd) s'.iv rfl cD hu
          refine post (.ref Dd) _ _ H' L' (gall.trans' s.iv gt (fun _ z => z) (fun b z => .inr (by rw [z]; exact hDs))) ⟨s'.r.mono gt.g, s'.nd, fun x hx => ?_, vt, s'.pa⟩ (n'.trans e1') (At.lst upd_same (hus.mono gt.g))
          have ne : x.1 ≠ Dd := fun z => npD' (by rw [← z]; exact List.mem_map.mpr ⟨x, hx, rfl⟩)
          rw [Ow.del_ne ne]; exact s'.ow x hx
        · rw [ov] at post
          exact post (.ref Dd) _ _ H' L' gall s' (n'.trans e1') ⟨Dd, rfl, cD, npD', hDs⟩
    · cases e2
  · subst er
    exact hw P σ c G H Γ L s _ e1 _ post
theorem sim_lc {wi : TI} {g : TG} {fw : FW} {f : D → FM Unit} {vs : List Nat} (hw : SimW K W wi fw) (hg : SimG K W vs g f) (ht : SimT K W tt ft) (he : SimE K W te fa) : SimE K W (tLc wi g tt te vs) (fLc fw f ft fa vs) := fun P σ c G H Γ L s r e Q post =>
  lc_core hw hg ht he s (.inl fun _ => rfl) e post
theorem sim_lcO {wi : TI} {g : TG} {fw : FW} {f : D → FM Unit} {vs : List Nat} (hw : SimW K W wi fw) (hg : SimG K W vs g f) (ht : SimT K W tt ft) (he : SimE K W te fa) : SimE K W (tLc wi g tt te vs) (fLcO fw f ft fa vs) := fun P σ c G H Γ L s r e Q post =>
  lc_core hw hg ht he s (.inr fun _ => rfl) e post
end
end DF

set_option linter.all false
set_option maxRecDepth 100000
set_option maxHeartbeats 4000000
namespace DF
open PySem PySem.Spec PyProof.Rows L2
variable [TbC]
section
variable {K : PySem.W.Frag} {G G' H H' H0 H1 G1 : Hp} {P : List Addr} {σ σ' : L2.St} {Γ Γ' Γ1 : EnvF} {L L' L1 : List (Addr × OD)} {c c' c1 : Ow} {W : WX}
variable {ta tb te to : TE} {t tr tk : TA} {fa fb fc fe fo : FE} {fs fr fk : FA} {tt tu : TT} {ft fu : FT} {E : XK} {ts tw : TS} {fS fT : FS}
/-! ### instances -/
def putD (f : Str) (d : D) : List (Str × D) → List (Str × D)
  | [] => [(f, d)]
  | (g, e) :: r => if g = f then (g, d) :: r else (g, e) :: putD f d r
theorem putD_at {f : Str} {v : V} {d : D} (t : At K G v d) : ∀ {fs : List (Str × V)} {gs : List (Str × D)}, AtF K G fs gs → AtF K G (putF f v fs) (putD f d gs)
  | _, _, .nil => .cons t .nil
  | _, _, @AtF.cons _ _ g0 v0 d0 vs ds a l => by
    unfold putF putD
    by_cases h : g0 = f
    · rw [if_pos h, if_pos h]; exact .cons t l
    · rw [if_neg h, if_neg h]; exact .cons a (putD_at t l)
/-- the fields of an instance of a class, a value or one's own -/
def fieldsOf (cn : Str) (v : Vr) (Γ : EnvF) : Option (List (Str × D)) := match v with
  | .val (.ins c gs) => if c = cn then some gs else none
  | .slot i => match Γ[i]? with
    | some (.own _ (.ins c gs)) => if c = cn then some gs else none
    | _ => none
  | _ => none
theorem fields_at {cn : Str} {C : Addr} {u : V} {v : Vr} {gs : List (Str × D)} (s : Sta K P c G H σ Γ L) (a : VrAt K σ L c G H0 u v) (ct : CT K cn C) (e : fieldsOf cn v Γ = some gs) : ∃ p dx fs, u = .ref p ∧ H p = some (.ins C dx fs) ∧ AtF K G fs gs := by
  cases v with
  | val d =>
    cases d with
    | ins c0 gs0 =>
      have e : (if c0 = cn then some gs0 else none) = some gs := e
      split at e
      · rename_i hc
        cases e
        have a : At K G u (.ins c0 gs) := a
        subst hc
        cases a with
        | @ins p C' dx _ fs _ ct' hp l =>
          have ec := ct'.one ct
          subst ec
          exact ⟨p, dx, fs, rfl, s.iv.i _ _ hp, l⟩
      · cases e
    | _ => cases e
  | slot i =>
    have e : (match Γ[i]? with
      | some (.own _ (.ins c gs)) => if c = cn then some gs else none
      | _ => none) = some gs := e
    cases ei : Γ[i]? with
    | none => rw [ei] at e; cases e
    | some x =>
      rw [ei] at e
      cases x with
      | own k o =>
        cases o with
        | ins c0 gs0 =>
          have e : (if c0 = cn then some gs0 else none) = some gs := e
          split at e
          · rename_i hc
            cases e
            obtain ⟨p, h1, h2, _⟩ := s.r.getO ei
            obtain ⟨C', dx, fs, ct', hp, l⟩ := (s.iv.ow _ _ (s.ow _ h2)).2
            subst hc
            have ec := ct'.one ct
            subst ec
            have eu : u = .ref p := by
              have z : σ[i]? = some (some u) := a
              rw [h1] at z; injection z with z; injection z with z; exact z.symm
            exact ⟨p, dx, fs, eu, hp, l⟩
          · cases e
        | _ => cases e
      | _ => cases e
  | own o => cases e
/-- o.f, an attribute -/
def fFld (cn f : Str) (a : FE) : FE := FM.bind a fun v Γ => match fieldsOf cn v Γ with
  | some gs => (gs.lookup f).map fun d => .ok (.val d) Γ
  | none => none
theorem sim_fld {cn f : Str} {C : Addr} (ct : CT K cn C) (cl : Cls K C) (na : NoAttr K C f) (h : SimE K W ta fa) : SimE K W (tFld K ta f) (fFld cn f fa) := fun P σ c G H Γ L s r e Q post => by
  rcases FM.bind_some e with ⟨v, Γ1, e1, e2⟩ | ⟨cn', fl, d, Γ1, e1, er⟩
  · refine h P σ c G H Γ L s _ e1 _ ?_
    intro u c1 G1 H1 L1 g1 s1 e1' r1
    cases ef : fieldsOf cn v Γ1 with
    | none => rw [ef] at e2; cases e2
    | some gs =>
      rw [ef] at e2
      simp only [Option.map_eq_some_iff] at e2
      obtain ⟨d, ed, er⟩ := e2
      subst er
      obtain ⟨p, dx, fs, eu, hp, l⟩ := fields_at s1 r1 ct ef
      obtain ⟨w, h1, h2⟩ := l.look ed
      exact ⟨p, C, dx, fs, w, eu, hp, cl, na, h1, post w c1 G1 H1 L1 g1 s1 e1' h2⟩
  · subst er
    exact h P σ c G H Γ L s _ e1 _ post
/-- a property -/
def fProp (cn : Str) (F : FF) (a : FE) : FE := FM.bind a fun v Γ => match fieldsOf cn v Γ with
  | some _ => callF F [v] Γ
  | none => none
theorem sim_prop {cn : Str} {C : Addr} {F : FF} (ct : CT K cn C) (hE : ∀ cls d σ H, W cls d σ H → E cls d H) (h : SimE K W ta fa) : SimE K W (tProp C (spF K F) [] E ta) (fProp cn F fa) := fun P σ c G H Γ L s r e Q post => by
  rcases FM.bind_some e with ⟨v, Γ1, e1, e2⟩ | ⟨cn', fl, d, Γ1, e1, er⟩
  · refine h P σ c G H Γ L s _ e1 _ ?_
    intro u c1 G1 H1 L1 g1 s1 e1' r1
    cases ef : fieldsOf cn v Γ1 with
    | none => rw [ef] at e2; cases e2
    | some gs =>
      rw [ef] at e2
      obtain ⟨p, dx, fs, eu, hp, l⟩ := fields_at s1 r1 ct ef
      refine ⟨p, dx, fs, eu, hp, ?_⟩
      rw [← eu]
      exact call_core s.iv g1 s1 e1' (.cons r1 .nil) hE e2 post
  · subst er
    exact h P σ c G H Γ L s _ e1 _ post
/-- a method -/
def fMeth (cn m : Str) (F : FF) (a : FE) (b : FA) : FE := FM.bind (FM.bind a fun v => FM.bind b fun vs => FM.pure (v, vs)) fun p Γ => match fieldsOf cn p.1 Γ with
  | some gs => if gs.lookup m = none then callF F (p.1 :: p.2) Γ else none
  | none => none
/-! self.f = e in an __init__ -/
def fSetF (cn f : Str) (i : Nat) (a : FE) : FS := FM.bind (fV a) fun d Γ => match Γ[i]? with
  | some (.own k (.ins c gs)) => if c = cn ∧ gs.length < 1000 then some (.ok .nx (Γ.set i (.own k (.ins c (putD f d gs))))) else none
  | _ => none
theorem set_own_core {i k : Nat} {o o' : OD} {p : Addr} {ho : HO} (s : Sta K P c G H σ Γ L) (ei : Γ[i]? = some (.own k o)) (hp : σ[i]? = some (some (.ref p))) (hh : HasO K G (upd H p ho) p o') :
    ∃ L', Grow (TL L) c G H (c.put p o') G (upd H p ho) ∧ Sta K P (c.put p o') G (upd H p ho) σ (Γ.set i (.own k o')) L' ∧ L'.map (·.1) = L.map (·.1) := by
  obtain ⟨p', L', q1, q2, q3, q4, q5⟩ := s.r.updOwn (o' := o') s.nd ei
  have ep : p' = p := by rw [hp] at q1; injection q1 with q1; injection q1 with q1; injection q1 with q1; exact q1.symm
  subst ep
  obtain ⟨g, v⟩ := own_set (T := TL L) s.iv (List.mem_map.mpr ⟨_, q2, rfl⟩) (s.ow _ q2) hh
  refine ⟨L', g, ⟨q3, by rw [q4]; exact s.nd, fun e he => ?_, v, fun p hp => g.n p (s.pa p hp)⟩, q4⟩
  rcases q5 e he with z | ⟨z, zn⟩
  · rw [z]; exact Ow.put_same
  · rw [Ow.put_ne zn]; exact s.ow e z
theorem sim_setF {cn f : Str} {C : Addr} {i : Nat} (ct : CT K cn C) (cl : Cls K C) (na : NoAttr K C f) (h : SimE K W te fa) : SimS K W (sFld K (tVar i) te f) (fSetF cn f i fa) := fun P σ c G H Γ L s r e Dn post => by
  rcases FM.bind_some e with ⟨d, Γ1, e1, e2⟩ | ⟨cn', fl, d, Γ1, e1, er⟩
  · refine sim_val h P σ c G H Γ L s _ e1 _ ?_
    intro u c1 G1 H1 L1 g1 s1 e1' r1
    have e2 : (match Γ1[i]? with
      | some (.own k (.ins c gs)) => if c = cn ∧ gs.length < 1000 then some (Rt.ok Fl.nx (Γ1.set i (.own k (.ins c (putD f d gs))))) else none
      | _ => none) = some r := e2
    cases ei : Γ1[i]? with
    | none => rw [ei] at e2; cases e2
    | some x =>
      rw [ei] at e2
      cases x with
      | own k o =>
        cases o with
        | ins c0 gs =>
          have e2 : (if c0 = cn ∧ gs.length < 1000 then some (Rt.ok Fl.nx (Γ1.set i (.own k (.ins c0 (putD f d gs))))) else none) = some r := e2
          split at e2
          · rename_i hc
            cases e2
            obtain ⟨hc1, hc2⟩ := hc
            subst hc1
            obtain ⟨p, h1, h2, _⟩ := s1.r.getO ei
            obtain ⟨C', dx, fs, ct', hp, l⟩ := (s1.iv.ow _ _ (s1.ow _ h2)).2
            have ec := ct'.one ct
            subst ec
            obtain ⟨L2', g2, s2, n2⟩ := set_own_core (ho := .ins C' dx (putF f u fs)) s1 ei h1 (o' := .ins c0 (putD f d gs)) ⟨C', dx, _, ct, upd_same, putD_at r1 l⟩
            refine ⟨_, h1, p, C', dx, fs, rfl, hp, cl, na, by rw [l.length]; exact hc2, ?_⟩
            exact post.nx _ rfl σ _ _ _ L2' (g1.trans' s.iv g2 (fun _ z => z) fun b z => .inl (by unfold TL at z ⊢; rwa [e1'] at z)) s2 (tl_of (n2.trans e1'))
          · cases e2
        | _ => cases e2
      | _ => cases e2
  · subst er
    exact sim_val h P σ c G H Γ L s _ e1 _ (post.ex cn' fl d Γ1 rfl)
/-- C(..) -/
def fMake (cn : Str) (F : FF) (a : FA) : FE := FM.bind (fVs a) fun ds => match F (.own 1 (.ins cn []) :: ds.map .val) with
  | some (.ok (.val .non) (some (.ins c gs))) => FM.pure (.val (.ins c gs))
  | some (.ex c f d _) => fun Γ => some (.ex c f d Γ)
  | _ => fFail
theorem arg_vals {us : List V} : ∀ {ds : List D}, AtL K G us ds → ArgR K G us (ds.map .val) [] := by
  induction us with
  | nil => intro ds h; cases h; exact .nil
  | cons u us ih => intro ds h; cases h with | cons a l => exact .val a (ih l)
theorem make_core {cn : Str} {C : Addr} {F : FF} (ct : CT K cn C) (hE : ∀ cls d σ H, W cls d σ H → E cls d H) {us : List V} {ds : List D} (s1 : Sta K P c1 G1 H1 σ Γ1 L1) (r1 : AtL K G1 us ds) {r : Rt Vr}
    (e : (match F (.own 1 (.ins cn []) :: ds.map .val) with
      | some (.ok (.val .non) (some (.ins c gs))) => FM.pure (.val (.ins c gs))
      | some (.ex c f d _) => fun Γ => some (.ex c f d Γ)
      | _ => fFail : FE) Γ1 = some r) {Q : VK} (post : PostE vrR K P W σ c1 G1 H1 L1 Q r) {x dx : Addr} (hx : H1 x = none) (hdx : H1 dx = none) (hne : dx ≠ x) :
    spF K F (.ref x :: us) (upd (upd H1 dx (.own x)) x (.ins C dx [])) (fun v H2 => v = .non ∧ Q (.ref x) H2) E := by
  have ga := PG.hid (o := .own x) s1.iv.i hdx
  have iva : Iv K c1 G1 (upd H1 dx (.own x)) := ga.iv s1.iv
  have hx' : upd H1 dx (.own x) x = none := by rw [upd_ne (Ne.symm hne)]; exact hx
  obtain ⟨gb, ivb⟩ := own_new (T := TL L1) iva (o := .ins cn []) (ho := .ins C dx []) hx' ⟨C, dx, [], ct, upd_same, .nil⟩
  have gab := (ga.grow (T := TL L1) s1.iv).trans s1.iv gb
  have npx : x ∉ L1.map (·.1) := fun z => by
    obtain ⟨y, hy, ey⟩ := List.mem_map.mp z
    have := (s1.iv.ow _ _ (s1.ow y hy)).2.some
    rw [ey] at this; exact this hx
  cases eF : F (.own 1 (.ins cn []) :: ds.map .val) with
  | none => rw [eF] at e; cases e
  | some rf =>
    rw [eF] at e
    refine ⟨G1, c1.put x (.ins cn []), _, [(x, .ins cn [])], rf, ivb, .own (arg_vals r1), fun e he => by rw [List.mem_singleton.mp he]; exact Ow.put_same, eF, ?_⟩
    have toL : ∀ {c' G' H'}, Grow (TL [(x, OD.ins cn [])]) (c1.put x (.ins cn [])) G1 (upd (upd H1 dx (.own x)) x (.ins C dx [])) c' G' H' → Grow (TL L1) c1 G1 H1 c' G' H' := fun g => gab.trans' s1.iv g (fun _ z => z) fun b z => .inr (by
      have z : b = x := by simpa [TL] using z
      rw [z]; exact hx)
    have keep : ∀ {c' G' H'}, Grow (TL [(x, OD.ins cn [])]) (c1.put x (.ins cn [])) G1 (upd (upd H1 dx (.own x)) x (.ins C dx [])) c' G' H' → ∀ y ∈ L1, c' y.1 = some y.2 := fun g y hy => by
      have ne : y.1 ≠ x := fun z => npx (by rw [← z]; exact List.mem_map.mpr ⟨y, hy, rfl⟩)
      have e1 : (c1.put x (OD.ins cn [])) y.1 = some y.2 := by rw [Ow.put_ne ne]; exact s1.ow y hy
      rw [(g.f y.1 (by simpa [TL] using ne) (by rw [e1]; simp)).1]; exact e1
    cases rf with
    | ok v oo =>
      cases v with
      | val d =>
        cases d with
        | non =>
          cases oo with
          | none => cases e
          | some o =>
            cases o with
            | ins c0 gs =>
              cases e
              intro u c' G' H' g' iv' ho hr
              cases hr
              refine ⟨rfl, ?_⟩
              have cx : c' x = some (.ins c0 gs) := ho x _ _ rfl rfl
              obtain ⟨C', dx', fs, ct', hp, l⟩ := (iv'.ow _ _ cx).2
              obtain ⟨gt, vt⟩ := own_told (T := fun b => b = x) iv' rfl cx hp
              have gall := toL g'
              refine post (.ref x) _ _ H' L1 (gall.trans' s1.iv gt (fun _ z => z) (fun b z => .inr (by rw [z]; exact hx))) ⟨s1.r.mono (g'.g.trans gt.g), s1.nd, fun y hy => ?_, vt, fun p hp => gall.n p (s1.pa p hp)⟩ rfl (At.ins ct' upd_same (l.mono gt.g))
              have ne : y.1 ≠ x := fun z => npx (by rw [← z]; exact List.mem_map.mpr ⟨y, hy, rfl⟩)
              rw [Ow.del_ne ne]; exact keep g' y hy
            | _ => cases e
        | _ => cases e
      | _ => cases e
    | ex cn' f d oo =>
      cases e
      intro C' dd fv c' G' H' g' iv' ho ct' hd hv
      have gall := toL g'
      exact hE _ _ σ _ (post C' dd fv σ c' G' H' L1 gall ⟨s1.r.mono g'.g, s1.nd, keep g', iv', fun p hp => gall.n p (s1.pa p hp)⟩ tl_self ct' hd hv)
theorem PostE.pull {α β : Type} {R : Rel α β} {Q : β → Hp → Prop} {r : Rt α} (iv : Iv K c G H) (g1 : Grow (TL L) c G H c1 G1 H1) (e1 : L1.map (·.1) = L.map (·.1)) (post : PostE R K P W σ c G H L Q r) : PostE R K P W σ c1 G1 H1 L1 Q r := by
  cases r with
  | ok v Γ' =>
    intro b' c' G' H' L' g' s' e' r'
    exact post b' c' G' H' L' (g1.trans' iv g' (fun _ z => z) fun b z => .inl (by unfold TL at z ⊢; rwa [e1] at z)) s' (e'.trans e1) (R.back (fun a z => g1.n a z) r')
  | ex cn f d Γ' => exact PostX.trans iv g1 (tl_of e1) post
theorem sim_make {cn : Str} {C : Addr} {F : FF} (ct : CT K cn C) (hE : ∀ cls d σ H, W cls d σ H → E cls d H) (h : SimA K W t fs) : SimE K W (tMake C (spF K F) [] E t) (fMake cn F fs) := fun P σ c G H Γ L s r e Q post => by
  rcases FM.bind_some e with ⟨ds, Γ1, e1, e2⟩ | ⟨cn', fl, d, Γ1, e1, er⟩
  · refine sim_vals h P σ c G H Γ L s _ e1 _ ?_
    intro us c1 G1 H1 L1 g1 s1 e1' r1 x dx hx hdx hne
    rw [List.append_nil]
    exact make_core ct hE s1 r1 e2 (post.pull s.iv g1 e1') hx hdx hne
  · subst er
    exact sim_vals h P σ c G H Γ L s _ e1 _ post
def fMakeN (cn : Str) (F : FF) (j l : Nat) (ix : List Nat) (a b : FA) : FE := FM.bind (FM.bind (fVs a) fun vs => FM.bind (fVs b) fun xs => FM.pure (vs, xs)) fun p => if p.1.length = j ∧ p.2.length = l then (match F (.own 1 (.ins cn []) :: (ix.map fun i => (p.1 ++ p.2).getD i .non).map .val) with
  | some (.ok (.val .non) (some (.ins c gs))) => FM.pure (.val (.ins c gs))
  | some (.ex c f d _) => fun Γ => some (.ex c f d Γ)
  | _ => fFail) else fFail
def d2R : Rel (List D × List D) (List V × List V) := ⟨fun K σ L c G H0 b v => AtL K G b.1 v.1 ∧ AtL K G b.2 v.2, fun g e h => ⟨h.1.mono g.g, h.2.mono g.g⟩, fun n h => h⟩
theorem atl_getD {us : List V} : ∀ {vs : List D} (i : Nat), AtL K G us vs → At K G (us.getD i .non) (vs.getD i .non) := by
  induction us with
  | nil => intro vs i h; cases h; simp; exact At.non
  | cons v us ih => intro vs i h; cases h with | cons a l => cases i with | zero => simpa using a | succ i => simpa using ih i l
theorem perm_atl {us : List V} {vs : List D} {ix : List Nat} (h : AtL K G us vs) : AtL K G (permV ix us) (ix.map fun i => vs.getD i .non) := by
  unfold permV
  induction ix with
  | nil => exact .nil
  | cons i ix ih => exact .cons (atl_getD i h) ih
theorem perm_self {x : V} {ix : List Nat} {us : List V} : permV (0 :: ix.map (· + 1)) (x :: us) = x :: permV ix us := by
  unfold permV
  rw [List.map_cons, List.map_map]
  show x :: _ = x :: _
  exact congrArg (x :: ·) (List.map_congr_left fun i _ => by simp)
theorem sim_makeN {cn : Str} {C : Addr} {F : FF} {j l : Nat} {ix : List Nat} (ct : CT K cn C) (hE : ∀ cls d σ H, W cls d σ H → E cls d H) (h : SimA K W t fs) (hk : SimA K W tk fk) : SimE K W (tMakeK C j l (spF K F) (fun us ws => permV (0 :: ix.map (· + 1)) (us ++ ws)) E t tk) (fMakeN cn F j l ix fs fk) := fun P σ c G H Γ L s r e Q post => by
  unfold fMakeN at e
  have h2 : Run d2R K P W σ c G H L (fun Q => t σ H fun b H1 => tk σ H1 fun b2 H2 => Q (b, b2) H2) (FM.bind (fVs fs) (fun vs => FM.bind (fVs fk) fun xs => FM.pure (vs, xs)) Γ) :=
    Run.bind2 (R' := d2R) (t2 := fun H1 Q => tk σ H1 Q) (gb := fun x xs => (x, xs)) (g := fun x xs => (x, xs)) s.iv (sim_vals h P σ c G H Γ L s) (fun Γ1 c1 G1 H1 L1 s1 => sim_vals hk P σ c1 G1 H1 Γ1 L1 s1) fun L c G v w b b2 h1 h2 => ⟨h1, h2⟩
  rcases FM.bind_some e with ⟨v, Γ1, e1, e2⟩ | ⟨cn', f, d, Γ1, e1, er⟩
  · refine h2 _ e1 (fun b H2 => b.1.length = j ∧ b.2.length = l ∧ ∀ x dx, H2 x = none → H2 dx = none → dx ≠ x → spF K F (permV (0 :: ix.map (· + 1)) (.ref x :: b.1 ++ b.2)) (upd (upd H2 dx (.own x)) x (.ins C dx [])) (fun v H3 => v = .non ∧ Q (.ref x) H3) E) ?_
    intro b c1 G1 H1 L1 g1 s1 e1' r1
    split at e2
    · rename_i hl
      refine ⟨by rw [r1.1.length]; exact hl.1, by rw [r1.2.length]; exact hl.2, fun x dx hx hdx hne => ?_⟩
      rw [List.cons_append, perm_self]
      exact make_core ct hE s1 (perm_atl (r1.1.append r1.2)) e2 (post.pull s.iv g1 e1') hx hdx hne
    · cases e2
  · subst er
    exact h2 _ e1 (fun b H2 => b.1.length = j ∧ b.2.length = l ∧ ∀ x dx, H2 x = none → H2 dx = none → dx ≠ x → spF K F (permV (0 :: ix.map (· + 1)) (.ref x :: b.1 ++ b.2)) (upd (upd H2 dx (.own x)) x (.ins C dx [])) (fun v H3 => v = .non ∧ Q (.ref x) H3) E) post
end
end DF

set_option linter.all false
set_option maxRecDepth 100000
set_option maxHeartbeats 4000000
namespace DF
open PySem PySem.Spec PyProof.Rows L2
variable [TbC]
theorem OpR.or {X : Cx} {f : Value → Value → Sem Value} {r r' : R2} (h : OpR X f r) (h' : OpR X f r') : OpR X f (fun x y H Q => r x y H Q ∨ r' x y H Q) := by
  intro pins s σ H x y v u Q I rx ry q
  rcases q with q | q
  · exact h pins s σ H x y v u Q I rx ry q
  · exact h' pins s σ H x y v u Q I rx ry q
theorem CallR.or {X : Cx} {f : Value} {r r' : List V → Hp → VK → Prop} (h : CallR X f r) (h' : CallR X f r') : CallR X f (fun xs H Q => r xs H Q ∨ r' xs H Q) := by
  intro pins s σ H xs us Q I rx q
  rcases q with q | q
  · exact h pins s σ H xs us Q I rx q
  · exact h' pins s σ H xs us Q I rx q
section
variable {K : PySem.W.Frag} {G G' H H' H0 H1 G1 : Hp} {P : List Addr} {σ σ' : L2.St} {Γ Γ' Γ1 : EnvF} {L L' L1 : List (Addr × OD)} {c c' c1 : Ow} {W : WX}
variable {ta tb te to : TE} {t tr tk : TA} {fa fb fc fe fo : FE} {fs fr fk : FA} {tt tu : TT} {ft fu : FT} {E : XK} {ts tw : TS} {fS fT : FS}
theorem SimR2.or {r r' : R2} {f g : D → D → Option D} (h : SimR2 K r f) (h' : SimR2 K r' g) : SimR2 K (fun x y H Q => r x y H Q ∨ r' x y H Q) (fun x y => match f x y with | some z => some z | none => g x y) := by
  intro x y z e G H u v i hu hv Q q
  have bs := i
  have i := bs.i
  dsimp only at e
  cases ef : f x y with
  | some z' => rw [ef] at e; cases e; exact .inl (h x y z ef G H u v bs hu hv Q q)
  | none => rw [ef] at e; exact .inr (h' x y z e G H u v bs hu hv Q q)
/-! ### + -/
def rAddU (K : PySem.W.Frag) : R2 := fun x y H Q => rI0 (fun i j => .int (i + j)) x y H Q ∨ (∃ i j, x = .str i ∧ y = .str j ∧ i.length + j.length ≤ sizeLine ∧ Q (.str (i ++ j)) H) ∨ rCat x y H Q ∨ rCatA K x y H Q
theorem op_addU {X : Cx} : OpR X (binaryOp .Add) (rAddU X.K) := OpR.or op_add (OpR.or op_add_str (OpR.or op_cat op_catA))
def addD : D → D → Option D
  | .int i, .int j => some (.int (i + j))
  | .str i, .str j => if i.length + j.length ≤ 16777216 then some (.str (i ++ j)) else none
  | .lst a, .lst b => if a.length + b.length ≤ 16777216 then some (.lst (a ++ b)) else none
  | .tup a, .tup b => if a.length + b.length ≤ 16777216 then some (.tup (a ++ b)) else none
  | _, _ => none
theorem sim_add : SimR2 K (rAddU K) addD := by
  intro x y z e G H u v i hu hv Q q
  have bs := i
  have i := bs.i
  cases hu with
  | int a =>
    cases hv with
    | int b => cases e; exact .inl ⟨a, b, rfl, rfl, q _ G H (PG.refl i) (.int _)⟩
    | _ => cases e
  | str a =>
    cases hv with
    | str b =>
      have e : (if a.length + b.length ≤ 16777216 then some (D.str (a ++ b)) else none) = some z := e
      split at e
      · rename_i h; cases e; exact .inr (.inl ⟨a, b, rfl, rfl, by rw [sizeLine_eq]; exact h, q _ G H (PG.refl i) (.str _)⟩)
      · cases e
    | _ => cases e
  | @lst p vs ds hp l =>
    cases hv with
    | @lst p' vs' ds' hp' l' =>
      have e : (if ds.length + ds'.length ≤ 16777216 then some (D.lst (ds ++ ds')) else none) = some z := e
      split at e
      · rename_i h
        cases e
        refine .inr (.inr (.inl ⟨p, p', vs, vs', rfl, rfl, i _ _ hp, i _ _ hp', by rw [l.length, l'.length, sizeLine_eq]; exact h, fun np hn => ?_⟩))
        have gn := PG.new (G := G) (o := .lst (vs ++ vs')) i hn
        exact q _ _ _ gn (.lst upd_same ((l.append l').mono gn.g))
      · cases e
    | _ => cases e
  | @tup p vs ds hp l =>
    cases hv with
    | @tup p' vs' ds' hp' l' =>
      have e : (if ds.length + ds'.length ≤ 16777216 then some (D.tup (ds ++ ds')) else none) = some z := e
      split at e
      · rename_i h
        cases e
        have la := l.append l'
        refine .inr (.inr (.inr ⟨p, p', vs, vs', rfl, rfl, sqT_ext hp i, sqT_ext hp' i, by rw [l.length, l'.length, sizeLine_eq]; exact h, fun en => ?_, fun _ en => ?_, fun _ _ np hn => ?_⟩))
        · subst en; exact q _ G H (PG.refl i) (.tup hp' la)
        · subst en; rw [List.append_nil] at la; exact q _ G H (PG.refl i) (.tup hp la)
        · have gn := PG.new (G := G) (o := .tup (vs ++ vs')) i hn
          exact q _ _ _ gn (.tup (.inl (.inl upd_same)) (la.mono gn.g))
      · cases e
    | _ => cases e
  | _ => cases e
/-! ### ints -/
def intD (f : Int → Int → D) : D → D → Option D
  | .int i, .int j => some (f i j)
  | _, _ => none
theorem sim_I0 {g : Int → Int → V} {f : Int → Int → D} (h : ∀ i j G, At K G (g i j) (f i j)) : SimR2 K (rI0 g) (intD f) := by
  intro x y z e G H u v i hu hv Q q
  have bs := i
  have i := bs.i
  cases hu with
  | int a => cases hv with
    | int b => cases e; exact ⟨a, b, rfl, rfl, q _ G H (PG.refl i) (h a b G)⟩
    | _ => cases e
  | _ => cases e
def subD : D → D → Option D := intD fun i j => .int (i - j)
theorem sim_sub : SimR2 K (rI0 fun i j => .int (i - j)) subD := sim_I0 fun _ _ _ => .int _
def intC (C : Int → Int → Bool) (f : Int → Int → D) : D → D → Option D
  | .int i, .int j => if C i j = true then some (f i j) else none
  | _, _ => none
theorem sim_IC {C : Int → Int → Prop} {B : Int → Int → Bool} {g : Int → Int → V} {f : Int → Int → D} (hc : ∀ i j, B i j = true → C i j) (h : ∀ i j G, At K G (g i j) (f i j)) : SimR2 K (rI C g) (intC B f) := by
  intro x y z e G H u v i hu hv Q q
  have bs := i
  have i := bs.i
  cases hu with
  | int a => cases hv with
    | int b =>
      have e : (if B a b = true then some (f a b) else none) = some z := e
      split at e
      · rename_i hb; cases e; exact ⟨a, b, rfl, rfl, hc a b hb, q _ G H (PG.refl i) (h a b G)⟩
      · cases e
    | _ => cases e
  | _ => cases e
def mulOk (i j : Int) : Bool := (decide (-(2 ^ 64) < i) && decide (i < 2 ^ 64)) || (decide (-(2 ^ 64) < j) && decide (j < 2 ^ 64)) || decide (i.natAbs.log2 + j.natAbs.log2 < 1000000)
def rMulU (K : PySem.W.Frag) : R2 := fun x y H Q => rI (fun i j => CMul i j ∨ CMulW i j) (fun i j => .int (i * j)) x y H Q ∨ rRep x y H Q ∨ rRepT K x y H Q
theorem op_mulI {X : Cx} : OpR X (binaryOp .Mult) (rI (fun i j => CMul i j ∨ CMulW i j) fun i j => .int (i * j)) := by
  intro pins s σ H x y v u Q I rx ry h
  obtain ⟨i, j, ex, ey, hc, q⟩ := h
  rcases hc with hc | hc
  · exact op_mul pins s σ H x y v u Q I rx ry ⟨i, j, ex, ey, hc, q⟩
  · exact op_mulW pins s σ H x y v u Q I rx ry ⟨i, j, ex, ey, hc, q⟩
theorem op_mulU {X : Cx} : OpR X (binaryOp .Mult) (rMulU X.K) := OpR.or op_mulI (OpR.or op_rep op_repT)
def mulD : D → D → Option D
  | .int i, .int j => if mulOk i j = true then some (.int (i * j)) else none
  | .lst a, .int k => if 0 ≤ k ∧ k ≤ 1000000 ∧ a.length * k.toNat ≤ 16777216 then some (.lst (List.replicate k.toNat a).flatten) else none
  | .tup a, .int k => if a ≠ [] ∧ 2 ≤ k ∧ k ≤ 1000 ∧ a.length ≤ 1000 then some (.tup (List.replicate k.toNat a).flatten) else none
  | _, _ => none
theorem atl_rep {vs : List V} {ds : List D} (l : AtL K G vs ds) (n : Nat) : AtL K G (List.replicate n vs).flatten (List.replicate n ds).flatten := by
  induction n with
  | zero => exact .nil
  | succ n ih => rw [List.replicate_succ, List.replicate_succ, List.flatten_cons, List.flatten_cons]; exact l.append ih
theorem sim_mul : SimR2 K (rMulU K) mulD := by
  intro x y z e G H u v i hu hv Q q
  have bs := i
  have i := bs.i
  cases hu with
  | int a =>
    cases hv with
    | int b =>
      have e : (if mulOk a b = true then some (D.int (a * b)) else none) = some z := e
      split at e
      · rename_i h
        cases e
        refine .inl ⟨a, b, rfl, rfl, ?_, q _ G H (PG.refl i) (.int _)⟩
        unfold mulOk at h
        simp only [Bool.or_eq_true, Bool.and_eq_true, decide_eq_true_eq] at h
        rcases h with (h | h) | h
        · exact .inl (.inl h)
        · exact .inl (.inr h)
        · exact .inr h
      · cases e
    | _ => cases e
  | @lst p vs ds hp l =>
    cases hv with
    | int k =>
      have e : (if 0 ≤ k ∧ k ≤ 1000000 ∧ ds.length * k.toNat ≤ 16777216 then some (D.lst (List.replicate k.toNat ds).flatten) else none) = some z := e
      split at e
      · rename_i h
        cases e
        refine .inr (.inl ⟨p, k, vs, rfl, rfl, i _ _ hp, by omega, by omega, by rw [l.length, sizeLine_eq]; exact h.2.2, fun np hn => ?_⟩)
        have gn := PG.new (G := G) (o := .lst (List.replicate k.toNat vs).flatten) i hn
        exact q _ _ _ gn (.lst upd_same ((atl_rep l _).mono gn.g))
      · cases e
    | _ => cases e
  | @tup p vs ds hp l =>
    cases hv with
    | int k =>
      have e : (if ds ≠ [] ∧ 2 ≤ k ∧ k ≤ 1000 ∧ ds.length ≤ 1000 then some (D.tup (List.replicate k.toNat ds).flatten) else none) = some z := e
      split at e
      · rename_i h
        cases e
        refine .inr (.inr ⟨p, k, vs, rfl, rfl, sqT_ext hp i, fun en => h.1 ?_, h.2.1, h.2.2.1, by rw [l.length]; exact h.2.2.2, fun np hn => ?_⟩)
        · subst en; cases l; rfl
        · have gn := PG.new (G := G) (o := .tup (List.replicate k.toNat vs).flatten) i hn
          exact q _ _ _ gn (.tup (.inl (.inl upd_same)) ((atl_rep l _).mono gn.g))
      · cases e
    | _ => cases e
  | _ => cases e
def modD : D → D → Option D := intC (fun _ j => decide (0 < j)) fun i j => .int (i % j)
theorem sim_mod : SimR2 K (rI (fun _ j => 0 < j) fun i j => .int (i % j)) modD := sim_IC (fun _ _ h => of_decide_eq_true h) fun _ _ _ => .int _
def fdivD : D → D → Option D := intC (fun _ j => decide (0 < j) && decide (j.natAbs.log2 < 9000)) fun i j => .int (i / j)
theorem sim_fdiv : SimR2 K (rI CDivW fun i j => .int (i / j)) fdivD := sim_IC (fun i j h => by simpa [CDivW] using h) fun _ _ _ => .int _
def powD : D → D → Option D := intC (fun i j => decide (0 ≤ j) && decide (j ≤ 1000000) && decide (i.natAbs < 2 ^ 64)) fun i j => .int (i ^ j.toNat)
theorem sim_pow : SimR2 K (rI CPow fun i j => .int (i ^ j.toNat)) powD := sim_IC (fun i j h => by
  simp only [Bool.and_eq_true, decide_eq_true_eq] at h
  exact ⟨h.1.1, h.1.2, h.2⟩) fun _ _ _ => .int _
def negD : D → Option D
  | .int i => some (.int (-i))
  | _ => none
theorem sim_neg : SimR1 K (rU fun i => .int (-i)) negD := by
  intro x z e G H u i hu Q q
  have bs := i
  have i := bs.i
  cases hu with
  | int a => cases e; exact ⟨a, rfl, q _ G H (PG.refl i) (.int _)⟩
  | _ => cases e
/-! ### order -/
def rLtU : R2 := fun x y H Q => rI0 (fun i j => .bl (decide (i < j))) x y H Q ∨ (∃ i j, x = .str i ∧ y = .str j ∧ Q (.bl (decide (i.cps.toList < j.cps.toList))) H)
theorem op_ltU {X : Cx} : OpR X (compareOp .Lt) rLtU := OpR.or op_lt op_lt_str
def ltD : D → D → Option D
  | .int i, .int j => some (.bl (decide (i < j)))
  | .str i, .str j => some (.bl (decide (i.cps.toList < j.cps.toList)))
  | _, _ => none
theorem sim_lt : SimR2 K rLtU ltD := by
  intro x y z e G H u v i hu hv Q q
  have bs := i
  have i := bs.i
  cases hu with
  | int a => cases hv with
    | int b => cases e; exact .inl ⟨a, b, rfl, rfl, q _ G H (PG.refl i) (.bl _)⟩
    | _ => cases e
  | str a => cases hv with
    | str b => cases e; exact .inr ⟨a, b, rfl, rfl, q _ G H (PG.refl i) (.bl _)⟩
    | _ => cases e
  | _ => cases e
def leD : D → D → Option D := intD fun i j => .bl (decide (i ≤ j))
def gtD : D → D → Option D := intD fun i j => .bl (decide (j < i))
def geD : D → D → Option D := intD fun i j => .bl (decide (j ≤ i))
theorem sim_le : SimR2 K (rI0 fun i j => .bl (decide (i ≤ j))) leD := sim_I0 fun _ _ _ => .bl _
theorem sim_gt : SimR2 K (rI0 fun i j => .bl (decide (j < i))) gtD := sim_I0 fun _ _ _ => .bl _
theorem sim_ge : SimR2 K (rI0 fun i j => .bl (decide (j ≤ i))) geD := sim_I0 fun _ _ _ => .bl _
/-! ### == on data of any depth -/
mutual
def py : D → PyData
  | .non => .none | .bl b => .bool b | .int i => .int i | .str s => .str s | .cls _ => .none | .ty _ => .none | .scr _ => .none
  | .tup ds => .tuple (pyL ds) | .lst ds => .list (pyL ds) | .ins _ _ => .none | .dct _ => .none
def pyL : List D → List PyData
  | [] => [] | d :: ds => py d :: pyL ds
end
mutual
def pur : D → Bool
  | .non | .bl _ | .int _ | .str _ => true
  | .cls _ | .ins _ _ | .ty _ | .scr _ | .dct _ => false
  | .tup ds | .lst ds => purL ds
def purL : List D → Bool
  | [] => true | d :: ds => pur d && purL ds
end
mutual
theorem At.dp {G H : Hp} (i : Ext G H) : ∀ (d : D) {v : V}, At K G v d → pur d = true → Dp K H v (py d)
  | .non, _, h, _ => by cases h; exact .non
  | .bl b, _, h, _ => by cases h; exact .bl b
  | .int b, _, h, _ => by cases h; exact .int b
  | .str b, _, h, _ => by cases h; exact .str b
  | .cls b, _, _, p => by simp [pur] at p
  | .ty b, _, _, p => by simp [pur] at p
  | .scr b, _, _, p => by simp [pur] at p
  | .ins _ _, _, _, p => by simp [pur] at p
  | .dct _, _, _, p => by simp [pur] at p
  | .tup ds, _, h, p => by
    cases h with
    | tup hs l => exact .tup (sqT_ext hs i) (AtL.dp i ds l (by simpa [pur] using p))
  | .lst ds, _, h, p => by
    cases h with
    | lst hs l => exact .lst (.inl (.inl (i _ _ hs))) (AtL.dp i ds l (by simpa [pur] using p))
theorem AtL.dp {G H : Hp} (i : Ext G H) : ∀ (ds : List D) {vs : List V}, AtL K G vs ds → purL ds = true → DpAll K H vs (pyL ds)
  | [], _, h, _ => by cases h; exact .nil
  | d :: ds, _, h, p => by
    cases h with
    | cons hd l =>
      have p' : pur d = true ∧ purL ds = true := by simpa [purL] using p
      exact .cons (At.dp i d hd p'.1) (AtL.dp i ds l p'.2)
end
def okEq (x : D) : Bool := pur x && SeqAt.shaped (py x)
def eqB (x y : D) : Option Bool := match x, y with
  | .str a, .str b => some (decide (a = b))
  | x, y => if okEq x = true ∧ okEq y = true then some (PyData.eqv (py x) (py y)) else none
def eqD (x y : D) : Option D := (eqB x y).map D.bl
def neD (x y : D) : Option D := (eqB x y).map fun b => D.bl !b
def rEqU (K : PySem.W.Frag) : R2 := fun x y H Q => rEq x y H Q ∨ rEqD K x y H Q
def rNeU (K : PySem.W.Frag) : R2 := fun x y H Q => rNe x y H Q ∨ rNeD K x y H Q
theorem op_eqU {X : Cx} (hu : X.A.units + 64 < cLine) : OpR X (compareOp .Eq) (rEqU X.K) := OpR.or op_eq (op_eqD hu)
theorem op_neU {X : Cx} (hu : X.A.units + 64 < cLine) : OpR X (compareOp .NotEq) (rNeU X.K) := OpR.or op_ne (op_neD hu)
theorem okEq_and {x : D} (h : okEq x = true) : pur x = true ∧ SeqAt.shaped (py x) = true := by unfold okEq at h; simpa using h
theorem eqB_cases {x y : D} {b : Bool} (e : eqB x y = some b) : (∃ s t, x = .str s ∧ y = .str t ∧ b = decide (s = t)) ∨ (okEq x = true ∧ okEq y = true ∧ b = PyData.eqv (py x) (py y)) := by
  unfold eqB at e
  split at e
  · cases e; exact .inl ⟨_, _, rfl, rfl, rfl⟩
  · split at e
    · rename_i h; cases e; exact .inr ⟨h.1, h.2, rfl⟩
    · cases e
theorem sim_eq : SimR2 K (rEqU K) eqD := by
  intro x y z e G H u v i hu hv Q q
  have bs := i
  have i := bs.i
  unfold eqD at e
  simp only [Option.map_eq_some_iff] at e
  obtain ⟨b, eb, ez⟩ := e
  subst ez
  rcases eqB_cases eb with ⟨s, t, e1, e2, e3⟩ | ⟨h1, h2, e3⟩
  · subst e1 e2 e3
    cases hu; cases hv
    refine .inl ⟨rfl, ?_⟩
    have : (decide (V.str s = V.str t)) = decide (s = t) := by
      by_cases h : s = t
      · subst h; simp
      · rw [decide_eq_false h, decide_eq_false (fun z => h (by injection z))]
    rw [this]
    exact q _ G H (PG.refl i) (.bl _)
  · obtain ⟨p1, s1⟩ := okEq_and h1
    obtain ⟨p2, s2⟩ := okEq_and h2
    subst e3
    exact .inr ⟨_, _, At.dp i x hu p1, At.dp i y hv p2, s1, s2, q _ G H (PG.refl i) (.bl _)⟩
theorem sim_ne : SimR2 K (rNeU K) neD := by
  intro x y z e G H u v i hu hv Q q
  have bs := i
  have i := bs.i
  unfold neD at e
  simp only [Option.map_eq_some_iff] at e
  obtain ⟨b, eb, ez⟩ := e
  subst ez
  rcases eqB_cases eb with ⟨s, t, e1, e2, e3⟩ | ⟨h1, h2, e3⟩
  · subst e1 e2 e3
    cases hu; cases hv
    refine .inl ⟨rfl, ?_⟩
    have : (decide (V.str s = V.str t)) = decide (s = t) := by
      by_cases h : s = t
      · subst h; simp
      · rw [decide_eq_false h, decide_eq_false (fun z => h (by injection z))]
    rw [this]
    exact q _ G H (PG.refl i) (.bl _)
  · obtain ⟨p1, s1⟩ := okEq_and h1
    obtain ⟨p2, s2⟩ := okEq_and h2
    subst e3
    exact .inr ⟨_, _, At.dp i x hu p1, At.dp i y hv p2, s1, s2, q _ G H (PG.refl i) (.bl _)⟩
/-! ### a[i] -/
theorem atI_of {vs : List V} {ds : List D} (h : AtL K G vs ds) {i : Int} {x : D} (e : atI ds i = some x) : ∃ v, atI vs i = some v ∧ At K G v x := by
  unfold atI at e ⊢
  rw [h.length]
  cases k : ixN ds.length i with
  | none => rw [k] at e; cases e
  | some j => rw [k] at e; exact h.get (j := j) e
def ixD : D → D → Option D
  | .lst ds, .int i => atI ds i
  | .tup ds, .int i => atI ds i
  | .scr ns, .int i => atI (ns.map D.int) i
  | .str z, .int i => if z.length ≤ 16777216 then (atI z.cps.toList i).map chrD else none
  | _, _ => none
theorem sim_ix : SimR2 K (rIx K) ixD := by
  intro x y z e G H u v i hu hv Q q
  have bs := i
  have i := bs.i
  cases hv with
  | int k =>
    cases hu with
    | @lst p vs ds hp l =>
      obtain ⟨w, h1, h2⟩ := atI_of l (show atI ds k = some z from e)
      exact .inl ⟨p, vs, k, w, rfl, rfl, ext_lst i hp, h1, q w G H (PG.refl i) h2⟩
    | @scr p ns hp =>
      obtain ⟨w, h1, h2⟩ := atI_of (atl_ints (K := K) (G := G) ns) (show atI (ns.map D.int) k = some z from e)
      exact .inl ⟨p, _, k, w, rfl, rfl, (hp.ext i).seq, h1, q w G H (PG.refl i) h2⟩
    | @tup p vs ds hp l =>
      obtain ⟨w, h1, h2⟩ := atI_of l (show atI ds k = some z from e)
      exact .inr (.inl ⟨p, vs, k, w, rfl, rfl, sqT_ext hp i, h1, q w G H (PG.refl i) h2⟩)
    | str s =>
      have e : (if s.length ≤ 16777216 then (atI s.cps.toList k).map chrD else none) = some z := e
      split at e
      · rename_i hl
        simp only [Option.map_eq_some_iff] at e
        obtain ⟨c, ec, ez⟩ := e
        subst ez
        exact .inr (.inr ⟨s, k, c, rfl, rfl, by rw [sizeLine_eq]; exact hl, ec, q _ G H (PG.refl i) (.str _)⟩)
      · cases e
    | _ => cases e
  | _ => cases hu <;> cases e
/-! ### slices -/
def cutD (ds : List D) (lo hi : Option Int) : List D := (ds.drop (HT.sIx ds.length 0 lo)).take (HT.sIx ds.length ds.length hi - HT.sIx ds.length 0 lo)
theorem cut_at {vs : List V} {ds : List D} (l : AtL K G vs ds) (lo hi : Option Int) : AtL K G (cutV vs lo hi) (cutD ds lo hi) := by
  unfold cutV cutD
  rw [l.length]
  exact (l.drop _).take _
def fNoPart : FO := FM.pure none
def fPart (a : FE) : FO := FM.bind (fV a) fun | .int i => FM.pure (some i) | _ => fFail
theorem sim_noPart : SimO K W tNoPart fNoPart := fun P σ c G H Γ L s => Run.now (R := eqR (Option Int)) s rfl
theorem sim_part (h : SimE K W te fa) : SimO K W (tPart te) (fPart fa) := fun P σ c G H Γ L s => by
  unfold fPart
  refine Run.bind (R' := eqR (Option Int)) (t2 := fun x H1 Q => ∃ i, x = V.int i ∧ Q (some i) H1) s.iv (sim_val h P σ c G H Γ L s) fun d Γ1 u c1 G1 H1 L1 g1 s1 e1 r1 => ?_
  have r1 : At K G1 u d := r1
  cases r1 with
  | int i =>
    intro r e Q post
    cases e
    exact ⟨i, rfl, post (some i) c1 G1 H1 L1 .refl s1 rfl rfl⟩
  | _ => exact run_fail
def rSlU (K : PySem.W.Frag) : V → Option Int → Option Int → Hp → VK → Prop := fun x lo hi H Q => rSlL K x lo hi H Q ∨ rSlA K x lo hi H Q ∨ rSlS x lo hi H Q
theorem SlR.or {X : Cx} {r r' : V → Option Int → Option Int → Hp → VK → Prop} (h : SlR X r) (h' : SlR X r') : SlR X (fun x lo hi H Q => r x lo hi H Q ∨ r' x lo hi H Q) := by
  intro pins s σ H x v vl vu lo hi sl Q I rx hs pl pu q
  rcases q with q | q
  · exact h pins s σ H x v vl vu lo hi sl Q I rx hs pl pu q
  · exact h' pins s σ H x v vl vu lo hi sl Q I rx hs pl pu q
theorem sl_U {X : Cx} : SlR X (rSlU X.K) := SlR.or sl_list (SlR.or sl_tupA sl_str)
def slD (x : D) (lo hi : Option Int) : Option D := match x with
  | .lst ds => some (.lst (cutD ds lo hi))
  | .scr ns => some (.lst (cutD (ns.map .int) lo hi))
  | .tup ds => some (.tup (cutD ds lo hi))
  | .str z => if z.length ≤ 16777216 then some (.str (cutS z lo hi)) else none
  | _ => none
def fSl (a : FE) (l h : FO) : FE := FM.bind (fV a) fun x => FM.bind l fun lo => FM.bind h fun hi => fR (fOf (slD x lo hi))
theorem cut_all {ds : List D} {lo hi : Option Int} (h : HT.sIx ds.length 0 lo = 0 ∧ HT.sIx ds.length ds.length hi = ds.length) : cutD ds lo hi = ds := by
  unfold cutD
  rw [h.1, h.2]; simp
theorem sim_sl {tl th : TO} {fl fh : FO} (h : SimE K W te fa) (hl : SimO K W tl fl) (hh : SimO K W th fh) : SimE K W (tSl (rSlU K) te tl th) (fSl fa fl fh) := fun P σ c G H Γ L s => by
  unfold fSl
  refine Run.bind (t2 := fun x H1 Q => tl σ H1 fun l H2 => th σ H2 fun u H3 => rSlU K x l u H3 Q) s.iv (sim_val h P σ c G H Γ L s) fun d Γ1 u c1 G1 H1 L1 g1 s1 e1 r1 => ?_
  refine Run.bind (t2 := fun l H2 Q => th σ H2 fun v H3 => rSlU K u l v H3 Q) s1.iv (hl P σ c1 G1 H1 Γ1 L1 s1) fun lo Γ2 lo' c2 G2 H2 L2' g2 s2 e2 r2 => ?_
  have r2 : lo' = lo := r2
  subst r2
  refine Run.bind (t2 := fun v H3 Q => rSlU K u lo' v H3 Q) s2.iv (hh P σ c2 G2 H2 Γ2 L2' s2) fun hi Γ3 hi' c3 G3 H3 L3 g3 s3 e3 r3 => ?_
  have r3 : hi' = hi := r3
  subst r3
  have r1 : At K G3 u d := At.mono g3.g (At.mono g2.g r1)
  refine run_of s3 fun z ez Q q => ?_
  cases r1 with
  | @lst p vs ds hp l =>
    cases ez
    refine .inl ⟨p, vs, rfl, ext_lst s3.iv.i hp, fun np hn => ?_⟩
    have gn := PG.new (G := G3) (o := .lst (cutV vs lo' hi')) s3.iv.i hn
    exact q _ _ _ gn (.lst upd_same ((cut_at l _ _).mono gn.g))
  | @scr p ns hp =>
    cases ez
    refine .inl ⟨p, _, rfl, (hp.ext s3.iv.i).seq, fun np hn => ?_⟩
    have gn := PG.new (G := G3) (o := .lst (cutV (ns.map V.int) lo' hi')) s3.iv.i hn
    exact q _ _ _ gn (.lst upd_same ((cut_at (atl_ints ns) _ _).mono gn.g))
  | @tup p vs ds hp l =>
    cases ez
    refine .inr (.inl ⟨p, vs, rfl, sqT_ext hp s3.iv.i, fun hall => ?_, fun _ np hn => ?_⟩)
    · rw [l.length] at hall
      refine q _ G3 H3 (PG.refl s3.iv.i) (.tup hp ?_)
      rw [cut_all hall]; exact l
    · have gn := PG.new (G := G3) (o := .tup (cutV vs lo' hi')) s3.iv.i hn
      exact q _ _ _ gn (.tup (.inl (.inl upd_same)) ((cut_at l _ _).mono gn.g))
  | str s =>
    have ez : (if s.length ≤ 16777216 then some (D.str (cutS s lo' hi')) else none) = some z := ez
    split at ez
    · rename_i hs
      cases ez
      exact .inr (.inr ⟨s, rfl, by rw [sizeLine_eq]; exact hs, q _ G3 H3 (PG.refl s3.iv.i) (.str _)⟩)
    · cases ez
  | _ => cases ez
end
end DF

set_option linter.all false
set_option maxRecDepth 100000
set_option maxHeartbeats 4000000
namespace DF
open PySem PySem.Spec PyProof.Rows L2
variable [TbC]
/-! ### an own == with any right side; != over it; str of an instance with an own __str__ -/
structure EqC (K : PySem.W.Frag) (C f : Addr) : Prop where
  eqF : PySem.W.findIn K (.ref C) "__eq__" = some (some (.ref f))
  isF : PySem.W.isFn K (.ref f) = true
  cls : ∃ (nm q : Str) (Ns : Addr) (bs : List Value) (hd : Bool) (sn : List Str) (sub : List Value) (ab : Bool) (col : Option Bool) (dd : Option Addr) (k0 k1 k2 k3 k5 : Option Value) (newId : String),
    K.lookup C = some (excClassObj nm q C Ns bs [.type "object"] hd sn sub ab col dd k0 k1 k2 k3 k5 newId) ∧ PySem.W.nsOkIn K Ns = true ∧ PySem.W.nsIn K Ns "__eq__" = some (some (.ref f)) ∧ PySem.W.nsIn K Ns "__ne__" = some none
theorem ns_get {K : PySem.W.Frag} {h : Heap} {B : Addr} {m : Str → Option Value} {x : Str} {v : Value} (X : K.In h) (hm : h.Ns B m) (e : PySem.W.nsIn K B x = some (some v)) : m x = some v := by
  obtain ⟨o, es, ep, ho, hd, _, look⟩ := hm
  unfold PySem.W.nsIn at e
  cases k : K.lookup B with
  | none => rw [k] at e; cases e
  | some ob =>
    have eq := X _ _ k
    rw [ho] at eq
    cases Option.some.inj eq
    obtain ⟨c, dd, dat, sl⟩ := o
    cases hd
    rw [k] at e
    simp only at e
    rw [← look]
    unfold nsFind findBy
    rw [← Array.find?_toList]
    cases z : List.find? (fun en => en.key.isStr x) es.toList with
    | none => rw [z] at e; simp only at e; split at e <;> cases e
    | some en =>
      rw [z] at e
      have := Option.some.inj (Option.some.inj e)
      simp only [Value.isStrOf] at *
      first | (rw [z]; exact congrArg some this) | (simp_all)
section
variable {prog : Program} {w : World} {A : Around} {E : Value → Shared → Prop} {h : Heap} {g : Array GenState} {d : Drawn} {t : Nat} {os : OsState} {C x f : Addr} {B : String} {bm : List Value} {b : Value}
theorem objNeU (X : h.OwnEqNoNe x C f B bm) (hu : A.units < cLine) {Q : Fin → Shared → Prop}
    (hcall : wpAny (model prog w) A (call (.ref f) [.ref x, b]) (fun v s' => ∃ b, v = .bool b ∧ Q (.done (.ret (.bool (!b)))) s') E ⟨h, g, d, t, os⟩) :
    wpAny (model prog w) A (Builtin.«object.__ne__» ⟨[.ref x, b], []⟩) Q E ⟨h, g, d, t, os⟩ := by
  unfold Builtin.«object.__ne__»
  repeat (first
    | with_reducible refine wpAny_cRoomFor hu ?_
    | (refine wpAny_bind (m := callSpecialIfBound? (.ref x) (Str.ofString "__eq__") [b])
        (wpAny_callSpecialIfBound?_own X.ownEq (wpAny_mono hcall (fun r s' hr => by
          obtain ⟨b, rfl, hq⟩ := hr
          repeat (first | exact hq | exact wpAny_pure hq | exact wpAny_truthy_bool hq | (refine wpAny_bind (m := truthy (.bool _)) (wpAny_truthy_bool ?_)) | wp_step)) fun _ _ e => e)))
    | wp_step)
theorem tryNeU (FB : CmpFacts B bm) (X : h.OwnEqNoNe x C f B bm) (hu : A.units + 1 < cLine) {Q : Option Value → Shared → Prop}
    (hcall : wpAny (model prog w) A.in1 (call (.ref f) [.ref x, b]) (fun v s' => ∃ b, v = .bool b ∧ Q (some (.bool (!b))) s') E ⟨h, g, d, t, os⟩) :
    wpAny (model prog w) A (tryCompare (.ref x) "__ne__" b) Q E ⟨h, g, d, t, os⟩ := by
  obtain ⟨o, of, nm, q, N, bs, hdct, sn, sub, ab, col, dd, k0, k1, k2, k3, k5, newId, mN, yv, hx, hc, hC, hn, _, _, _, _, _, hne⟩ := id X
  simp only [tryCompare]
  refine wpAny_bind (wpAny_callSpecialIfBound?_inst hx hc hC hn hne FB.mro FB.ne (wpAny_call (codeAny_call_builtin FB.ne.plain F.cmpEntry_ne
    (wpAny_check_slot_inst F.cmpKind_ne F.cmpSplit_ne (F.cmpArgs_ne _ _) FB.hasObject hx hc hC
      (objNeU (A := A.in1) X hu (wpAny_mono hcall (fun v s' hv => ?_) fun _ _ e => e))))))
  obtain ⟨b, rfl, hq⟩ := hv
  first | exact ⟨b, rfl, wpAny_pure hq⟩ | exact ⟨b, rfl, wpAny_pure (wpAny_pure hq)⟩ | exact ⟨b, rfl, hq⟩
theorem richNeU {K : PySem.W.Frag} {tb : Value} (KI : K.In h) (FB : CmpFacts B bm) (X : h.OwnEqNoNe x C f B bm) (hb : PySem.W.Looks (model prog w) h (typeOf b) tb) (hn : PySem.W.notFirst K C tb = true) (hu : A.units + 1 < cLine) {Q : Value → Shared → Prop}
    (hcall : wpAny (model prog w) A.in1 (call (.ref f) [.ref x, b]) (fun v s' => ∃ b, v = .bool b ∧ Q (.bool (!b)) s') E ⟨h, g, d, t, os⟩) :
    wpAny (model prog w) A (richCompare .NotEq (.ref x) b) Q E ⟨h, g, d, t, os⟩ := by
  have X' := X
  obtain ⟨o, of, nm, q, N, bs, hdct, sn, sub, ab, col, dd, k0, k1, k2, k3, k5, newId, mN, yv, hx, hc, _⟩ := X'
  have one : wpAny (model prog w) A (tryCompare (.ref x) "__ne__" b) (fun r s' => ∃ v, r = some v ∧ Q v s') E ⟨h, g, d, t, os⟩ := by
    refine tryNeU FB X hu (wpAny_mono hcall (fun v s' hv => ?_) fun _ _ e => e)
    obtain ⟨b, rfl, hq⟩ := hv
    exact ⟨b, rfl, _, rfl, hq⟩
  unfold richCompare
  simp only [oneThing_ref]
  refine wpAny_holding ?_
  refine wpAny_bind (wpAny_cRoomFor (Nat.lt_of_succ_lt hu) ?_)
  rw [cmpInfo_NotEq]
  dsimp only
  refine wpAny_bind (wpAny_typeOf_ref hx ?_)
  rw [hc]
  refine wpAny_bind (hb.here ?_)
  split
  · rename_i q
    have e : PySem.W.subIn K tb (.ref C) = some false := by
      rcases Bool.or_eq_true_iff.mp hn with e | e
      · rw [beq_iff_eq.mp e] at q; simp at q
      · exact beq_iff_eq.mp e
    refine wpAny_bind ((PySem.W.looks_subIn KI e).here ?_)
    simp only [Bool.false_eq_true, if_false]
    refine wpAny_bind (wpAny_mono one (fun r s' z => ?_) fun _ _ e => e)
    obtain ⟨v, rfl, hq⟩ := z
    exact wpAny_pure hq
  · refine wpAny_bind (wpAny_pure ?_)
    simp only [Bool.false_eq_true, if_false]
    refine wpAny_bind (wpAny_mono one (fun r s' z => ?_) fun _ _ e => e)
    obtain ⟨v, rfl, hq⟩ := z
    exact wpAny_pure hq
end
section
variable {X : Cx} {n : Nat} {C f : Addr} {fd : FuncData} {ps : List Str} {sp : Sp}
theorem own_run {pins : List (Addr × Obj)} {σ : L2.St} {H : Hp} {s : Shared} {A : Around} {vs : List V} {us : List Value} {Z : V → Hp → Prop} {R : Value → Shared → Prop} (F : FnOk X.prog X.w X.K X.mg X.base CX0 n f fd ps sp) (hb : Binds X.K fd ps []) (hrm : Room n A) (hfr : A.frames = X.A.frames)
    (I : Inv X pins σ H s) (r2 : Vals vs us) (h : sp vs H Z fun _ _ _ => False) (k : ∀ v u s' H', Inv X pins σ H' s' → RelV v u → Z v H' → R u s') : wpAny (model X.prog X.w) A (call (.ref f) us) R X.xe s := by
  have e0 : Env0 X.prog X.w X.K X.mg X.base A X.stack s H := by
    have e := I.env0
    exact ⟨by rw [hfr]; exact e.frames, e.mod, e.bs, e.bsz, e.funs, e.frf, e.hok, e.bare⟩
  have hl := F.len _ _ _ _ h
  have bb : BindsTo s fd ⟨us, []⟩ (ps.zip us) := by
    have := hb s us I.kIn (by rw [List.append_nil, ← r2.length]; exact hl)
    rwa [List.append_nil] at this
  refine wpAny_call (codeAny_mono (F.run A X.stack s H _ _ _ _ _ hrm e0 bb r2 h) fun r s' hq => ?_)
  match r, hq with
  | .error e, hq => exact hq.elim
  | .ok (.ret w), hq =>
    obtain ⟨z, H', I', rz, q⟩ := I.after hq
    exact k z w s' H' I' rz q
/-- what the type of a value is, of those that do not come ahead of the class at C -/
def TyR (K : PySem.W.Frag) (C : Addr) (H : Hp) (y : V) : Prop := ∃ tb, PySem.W.notFirst K C tb = true ∧ TyX K H y tb
def rOwn (K : PySem.W.Frag) (C : Addr) (sp : Sp) (neg : Bool) : R2 := fun x y H Q => ∃ a dx fs, x = .ref a ∧ H a = some (.ins C dx fs) ∧ TyR K C H y ∧ sp [x, y] H (fun v H' => ∃ c, v = .bl c ∧ Q (.bl (neg != c)) H') fun _ _ _ => False
theorem looks_tyR {pins : List (Addr × Obj)} {σ : L2.St} {H : Hp} {s : Shared} {y : V} {u : Value} (I : Inv X pins σ H s) (ry : RelV y u) (h : TyR X.K C H y) : ∃ tb, PySem.W.notFirst X.K C tb = true ∧ PySem.W.Looks (model X.prog X.w) s.heap (typeOf u) tb := by
  obtain ⟨tb, hn, ht⟩ := h
  refine ⟨tb, hn, ?_⟩
  obtain ⟨Pr, kx, hp, _⟩ := kit_of I ry ht
  exact kx.ty _ _ I.kIn hp
theorem op_eqI (T : EqC X.K C f) (F : FnOk X.prog X.w X.K X.mg X.base CX0 n f fd ps sp) (hb : Binds X.K fd ps []) (hr : Room n X.A) : OpR X (compareOp .Eq) (rOwn X.K C sp false) := by
  intro pins s σ H x y v u Q I rx ry h
  obtain ⟨a, dx, fs, rfl, ha, hy, hsp⟩ := h
  cases rx
  obtain ⟨mA, J, _⟩ := ins_get I.hok ha
  obtain ⟨od, J, _⟩ := J.look
  obtain ⟨m, hF⟩ := I.fr
  obtain ⟨tb, hn, hl⟩ := looks_tyR I ry hy
  show wpAny (model X.prog X.w) X.A (richCompare .Eq (.ref a) u) _ _ _
  refine PySem.W.cmp_K (op := .Eq) (tb := tb) hr.units0 hF I.ok.mod.kin J hl hn T.eqF T.isF ?_
  refine own_run F hb hr rfl I (.cons (show RelV (V.ref a) (Value.ref a) from rfl) (.cons ry .nil)) hsp fun w' u' s' H' I' rz ⟨c, ec, q⟩ => ?_
  subst ec
  cases rz
  show EP X pins σ Q (.bool c) s'
  refine ⟨.bl c, H', I', rfl, ?_⟩
  cases c <;> exact q
theorem op_neI (T : EqC X.K C f) (F : FnOk X.prog X.w X.K X.mg X.base CX0 n f fd ps sp) (hb : Binds X.K fd ps []) (hr : Room (n + 1) X.A) : OpR X (compareOp .NotEq) (rOwn X.K C sp true) := by
  intro pins s σ H x y v u Q I rx ry h
  obtain ⟨a, dx, fs, rfl, ha, hy, hsp⟩ := h
  cases rx
  obtain ⟨tb, hnf, hl⟩ := looks_tyR I ry hy
  obtain ⟨nm, q, Ns, bs, hd, sn, sub, ab, col, dd, k0, k1, k2, k3, k5, newId, hC, hok, he, hne⟩ := T.cls
  obtain ⟨hp, g, dr, tk, os⟩ := s
  have KI : X.K.In hp := I.kIn
  have tF := T.isF
  have hf : ∃ of : Obj, hp.get? f = some of ∧ of.cls = .type "function" := by
    have tG : (X.K.lookup f).map (·.cls) = some (.type "function") := by simpa [PySem.W.isFn, PySem.W.typeIn] using tF
    cases e : X.K.lookup f with
    | none => rw [e] at tG; cases tG
    | some o => rw [e] at tG; exact ⟨o, KI _ _ e, Option.some.inj tG⟩
  obtain ⟨of, hfo, hfc⟩ := hf
  obtain ⟨oa, ha1, ha2⟩ : ∃ o : Obj, hp.get? a = some o ∧ o.cls = .ref C := by
    obtain ⟨_, _, _, e, _⟩ := I.hok a _ ha
    exact ⟨_, e, rfl⟩
  have own : hp.OwnEqNoNe a C f "object" [.type "object"] :=
    ⟨oa, of, nm, q, Ns, bs, hd, sn, sub, ab, col, dd, k0, k1, k2, k3, k5, newId, hp.nsMap Ns, _, ha1, ha2, KI _ _ hC, .of_isNs (PySem.W.isNs_of_in KI hok), ns_get KI (.of_isNs (PySem.W.isNs_of_in KI hok)) he, hfo, hfc, PySem.F.mro_object, by rw [typeLookup_type]; rfl, PySem.W.nsMap_none_of_in KI hok hne⟩
  show wpAny (model X.prog X.w) X.A (richCompare .NotEq (.ref a) u) _ _ _
  refine richNeU KI PySem.F.cmp_object own hl hnf (by have := hr.un; omega) ?_
  refine own_run F hb (hr.in1) rfl I (.cons (show RelV (V.ref a) (Value.ref a) from rfl) (.cons ry .nil)) hsp fun w' u' s' H' I' rz ⟨c, ec, q⟩ => ?_
  subst ec
  cases rz
  refine ⟨c, rfl, .bl (!c), H', I', rfl, ?_⟩
  cases c <;> exact q
/-- str(x), x with an own __str__ -/
structure StrC (K : PySem.W.Frag) (C f : Addr) : Prop where
  stF : PySem.W.findIn K (.ref C) "__str__" = some (some (.ref f))
  isF : PySem.W.isFn K (.ref f) = true
def rStrI (C : Addr) (sp : Sp) : List V → Hp → VK → Prop := fun xs H Q => ∃ a dx fs, xs = [.ref a] ∧ H a = some (.ins C dx fs) ∧ sp [.ref a] H (fun v H' => ∃ z, v = .str z ∧ Q (.str z) H') fun _ _ _ => False
theorem call_strI (T : StrC X.K C f) (F : FnOk X.prog X.w X.K X.mg X.base CX0 n f fd ps sp) (hb : Binds X.K fd ps []) (hr : Room (n + 2) X.A) : CallR X (.type "str") (rStrI C sp) := by
  intro pins s σ H xs us Q I r h
  obtain ⟨a, dx, fs, rfl, ha, hsp⟩ := h
  obtain ⟨u, rfl, rx⟩ := vals1 r
  cases rx
  obtain ⟨mA, J, _⟩ := ins_get I.hok ha
  obtain ⟨od, J, _⟩ := J.look
  have hr1 : Room n X.A.in1.in1 := Room.in1 (Room.in1 hr)
  refine PySem.W.kso_call (by have := hr1.un; omega) I.kIn J T.stF T.isF ?_
  refine own_run F hb hr1 rfl I (.cons (show RelV (V.ref a) (Value.ref a) from rfl) .nil) hsp fun w' u' s' H' I' rz ⟨z, ec, q⟩ => ?_
  subst ec
  obtain ⟨t, rfl⟩ := rz
  exact ⟨.str z, H', I', ⟨t, rfl⟩, q⟩
end
end DF

set_option linter.all false
set_option maxRecDepth 100000
set_option maxHeartbeats 4000000
namespace DF
open PySem PySem.Spec PyProof.Rows L2
variable [TbC]
section
variable {K : PySem.W.Frag} {G G' H H' H0 H1 G1 : Hp} {P : List Addr} {σ σ' : L2.St} {Γ Γ' Γ1 : EnvF} {L L' L1 : List (Addr × OD)} {c c' c1 : Ow} {W : WX}
variable {ta tb te to ti : TE} {t tr tk : TA} {fa fb fc fe fo fi : FE} {fs fr fk : FA} {tt tu : TT} {ft fu : FT} {E : XK} {ts tw : TS} {fS fT : FS}
/-! ### a look at what is one's own, seen as values -/
def seeO : Sl → Sl
  | .own _ o => match odD o with | some d => .val d | none => .no
  | x => x
def flat : D → Bool
  | .non | .bl _ | .int _ | .str _ | .ty _ | .cls _ => true
  | _ => false
theorem flat_at {v : V} {d : D} (h : At K G v d) (f : flat d = true) (G' : Hp) : At K G' v d := by
  cases h with
  | non => exact .non
  | bl b => exact .bl b
  | int b => exact .int b
  | str b => exact .str b
  | ty b => exact .ty b
  | cls b => exact .cls b
  | _ => simp [flat] at f
theorem see_env {G1 : Hp} (eG : Ext G G1) : ∀ {σ : L2.St} {Γ : EnvF} {L : List (Addr × OD)}, EnvR K G P σ Γ L → (∀ e ∈ L, HasO K G H e.1 e.2) → (∀ e ∈ L, G1 e.1 = H e.1) → EnvR K G1 P σ (Γ.map seeO) []
  | _, _, _, .nil, _, _ => .nil
  | _, _, _, .no l, h1, h2 => .no (see_env eG l h1 h2)
  | _, _, _, .exc l, h1, h2 => .exc (see_env eG l h1 h2)
  | _, _, _, .val a l, h1, h2 => .val (a.mono eG) (see_env eG l h1 h2)
  | _, _, _, @EnvR.own _ _ _ _ p k o _ _ _ a l, h1, h2 => by
    have ih := see_env eG l (fun e he => h1 e (List.mem_cons_of_mem _ he)) (fun e he => h2 e (List.mem_cons_of_mem _ he))
    have ho := h1 _ List.mem_cons_self
    have hg := h2 _ List.mem_cons_self
    cases ed : odD o with
    | none =>
      have : seeO (.own k o) = .no := by simp [seeO, ed]
      rw [List.map_cons, this]
      exact .no ih
    | some d =>
      have : seeO (.own k o) = .val d := by simp [seeO, ed]
      rw [List.map_cons, this]
      obtain ⟨x, q1, q2⟩ := hasO_at ho ed
      exact .val (q2 _ eG (by rw [hg]; exact q1)) ih
theorem see_core (s : Sta K P c G H σ Γ L) : ∃ c1 G1, Sta K P c1 G1 H σ (Γ.map seeO) [] ∧ ∀ c' G' H', Grow (TL []) c1 G1 H c' G' H' → LamX.Tabs TbC.T H' → Grow (TL L) c G H c G H' ∧ Sta K P c G H' σ Γ L := by
  classical
  let G1 : Hp := fun b => if b ∈ L.map (·.1) then H b else G b
  let c1 : Ow := fun b => if b ∈ L.map (·.1) then none else c b
  have inL : ∀ b, b ∈ L.map (·.1) → ∃ o, c b = some o := fun b hb => by
    obtain ⟨e, he, ee⟩ := List.mem_map.mp hb
    exact ⟨e.2, ee ▸ s.ow e he⟩
  have gL : ∀ b, b ∈ L.map (·.1) → G b = none := fun b hb => by
    obtain ⟨o, ho⟩ := inL b hb
    exact (s.iv.ow b o ho).1
  have eG : Ext G G1 := fun b o e => by
    have : b ∉ L.map (·.1) := fun z => by rw [gL b z] at e; cases e
    show (if b ∈ L.map (·.1) then H b else G b) = some o
    rw [if_neg this]; exact e
  have iv1 : Iv K c1 G1 H := by
    refine ⟨fun b o e => ?_, fun p o e => ?_, fun b ps e => ?_, s.iv.tb, TbC.zm s.iv.z eG fun _ _ _ e => e⟩
    · have e : (if b ∈ L.map (·.1) then H b else G b) = some o := e
      split at e
      · exact e
      · exact s.iv.i b o e
    · have e : (if p ∈ L.map (·.1) then none else c p) = some o := e
      split at e
      · cases e
      · rename_i hp
        obtain ⟨q1, q2⟩ := s.iv.ow p o e
        refine ⟨?_, q2.mono eG fun _ => rfl⟩
        show (if p ∈ L.map (·.1) then H p else G p) = none
        rw [if_neg hp]; exact q1
    · have e : (if b ∈ L.map (·.1) then H b else G b) = some (HO.tbl ps) := e
      split at e
      · rename_i hb
        obtain ⟨o, ho⟩ := inL b hb
        exact ((s.iv.ow b o ho).2.ne e).1 ps rfl
      · exact s.iv.nt b ps e
  refine ⟨c1, G1, ⟨see_env (H := H) eG s.r (fun e he => (s.iv.ow _ _ (s.ow e he)).2) (fun e he => if_pos (List.mem_map.mpr ⟨e, he, rfl⟩)), List.nodup_nil, fun e he => (List.not_mem_nil he).elim, iv1, s.pa⟩, fun c' G' H' g tb' => ?_⟩
  have keep : ∀ b o, (c b = none ∨ b ∈ L.map (·.1)) → ((∀ ps, o ≠ HO.tbl ps) ∨ TbC.T = []) → H b = some o → H' b = some o := fun b o h ho e => g.h b o (by
    show (if b ∈ L.map (·.1) then none else c b) = none
    split
    · rfl
    · rename_i hb; exact h.elim id fun z => absurd z hb) ho e
  have keep2 : ∀ b, b ∉ L.map (·.1) → c b ≠ none → H' b = H b := fun b hb hc => (g.f b (by simp [TL]) (by
    show (if b ∈ L.map (·.1) then none else c b) ≠ none
    rw [if_neg hb]; exact hc)).2
  have own' : ∀ p o, c p = some o → H' p = H p := fun p o e => by
    by_cases hp : p ∈ L.map (·.1)
    · cases q : H p with
      | none => exact absurd q (s.iv.ow p o e).2.some
      | some u => exact keep p u (.inr hp) (.inl ((s.iv.ow p o e).2.ne q).1) q
    · exact keep2 p hp (by rw [e]; simp)
  have iv' : Iv K c G H' := by
    refine ⟨fun b o e => keep b o (.inl ?_) (.inl (s.iv.nt.ne e)) (s.iv.i b o e), fun p o e => ?_, s.iv.nt, tb', TbC.zm s.iv.z Ext.rfl' fun b o st e => keep b _ (.inl (by
      cases q : c b with
      | none => rfl
      | some u => exact absurd rfl ((s.iv.ow b u q).2.nxd st e))) (.inl st.nt) e⟩
    · cases q : c b with
      | none => rfl
      | some u => rw [(s.iv.ow b u q).1] at e; cases e
    · obtain ⟨q1, q2⟩ := s.iv.ow p o e
      exact ⟨q1, q2.mono Ext.rfl' fun _ => own' p o e⟩
  exact ⟨⟨Ext.rfl', fun b o hc ho e => keep b o (.inl hc) ho e, fun b h => .inl h, fun b h => .inl h, fun b hb hc => ⟨rfl, keep2 b hb hc⟩, g.n⟩, ⟨s.r, s.nd, s.ow, iv', fun p hp => g.n p (s.pa p hp)⟩⟩
def fPk (f : FE) : FE := fun Γ => match f (Γ.map seeO) with
  | some (.ok (.val d) _) => if flat d = true then some (.ok (.val d) Γ) else none
  | _ => none
theorem sim_pk (h : SimE K W te fa) : SimE K W te (fPk fa) := fun P σ c G H Γ L s r e Q post => by
  unfold fPk at e
  obtain ⟨c1, G1, s1, back⟩ := see_core s
  cases ef : fa (Γ.map seeO) with
  | none => rw [ef] at e; cases e
  | some rr =>
    rw [ef] at e
    cases rr with
    | ex _ _ _ _ => cases e
    | ok v Γ2 =>
      cases v with
      | val d =>
        have e : (if flat d = true then some (Rt.ok (Vr.val d) Γ) else none) = some r := e
        split at e
        · rename_i hf
          cases e
          refine h P σ c1 G1 H _ [] s1 _ ef Q ?_
          intro u c' G' H' L' g' s' e' r'
          obtain ⟨g2, s2⟩ := back c' G' H' g' s'.iv.tb
          exact post u c G H' L g2 s2 rfl (flat_at (show At K G' u d from r') hf G)
        · cases e
      | _ => cases e
def fPkT (f : FT) : FT := fun Γ => match f (Γ.map seeO) with
  | some (.ok b _) => some (.ok b Γ)
  | _ => none
theorem sim_pkT (h : SimT K W tt ft) : SimT K W tt (fPkT ft) := fun P σ c G H Γ L s r e Q post => by
  unfold fPkT at e
  obtain ⟨c1, G1, s1, back⟩ := see_core s
  cases ef : ft (Γ.map seeO) with
  | none => rw [ef] at e; cases e
  | some rr =>
    rw [ef] at e
    cases rr with
    | ex _ _ _ _ => cases e
    | ok v Γ2 =>
      cases e
      refine h P σ c1 G1 H _ [] s1 _ ef Q ?_
      intro u c' G' H' L' g' s' e' r'
      obtain ⟨g2, s2⟩ := back c' G' H' g' s'.iv.tb
      exact post u c G H' L g2 s2 rfl r'
/-! ### lists of one's own -/
def hasOwn {α : Type} (i : Nat) (f : FM α) : FM α := fun Γ => match Γ[i]? with
  | some (.own _ _) => f Γ
  | _ => none
theorem hasOwn_at {α : Type} {i : Nat} {f : FM α} {r : Rt α} (s : Sta K P c G H σ Γ L) (e : hasOwn i f Γ = some r) : f Γ = some r ∧ ∃ p, σ[i]? = some (some (V.ref p)) := by
  unfold hasOwn at e
  cases ei : Γ[i]? with
  | none => rw [ei] at e; cases e
  | some x =>
    rw [ei] at e
    cases x with
    | own k o => obtain ⟨p, q1, _⟩ := s.r.getO ei; exact ⟨e, p, q1⟩
    | _ => cases e
/-- the list in a slot -/
def lstAt (i : Nat) (Γ : EnvF) : Option (Nat × List D) := match Γ[i]? with
  | some (.own k (.lst ds)) => some (k, ds)
  | _ => none
theorem lstAt_at {i k : Nat} {ds : List D} {p : Addr} (s : Sta K P c G H σ Γ L) (hp : σ[i]? = some (some (V.ref p))) (e : lstAt i Γ = some (k, ds)) : Γ[i]? = some (.own k (.lst ds)) ∧ ∃ vs, H p = some (.lst vs) ∧ AtL K G vs ds := by
  unfold lstAt at e
  split at e
  · rename_i k' ds' ei
    cases e
    obtain ⟨p', q1, q2, _⟩ := s.r.getO ei
    have ep : p' = p := by rw [hp] at q1; injection q1 with q1; injection q1 with q1; injection q1 with q1; exact q1.symm
    subst ep
    exact ⟨ei, (s.iv.ow _ _ (s.ow _ q2)).2⟩
  · cases e
/-- x[i] -/
def fIxO (i : Nat) (b : FE) : FE := hasOwn i (FM.bind (fV b) fun y Γ => match lstAt i Γ, y with
  | some (_, ds), .int j => (atI ds j).map fun d => .ok (.val d) Γ
  | _, _ => none)
theorem sim_ixO {i : Nat} (hb : SimE K W tb fb) : SimE K W (tOp (rIx K) (tVar i) tb) (fIxO i fb) := fun P σ c G H Γ L s r e Q post => by
  obtain ⟨e, p, hp⟩ := hasOwn_at s e
  rcases FM.bind_some e with ⟨y, Γ1, e1, e2⟩ | ⟨cn', fl, d, Γ1, e1, er⟩
  · refine ⟨.ref p, hp, sim_val hb P σ c G H Γ L s _ e1 _ ?_⟩
    intro u c1 G1 H1 L1 g1 s1 e1' r1
    have r1 : At K G1 u y := r1
    cases el : lstAt i Γ1 with
    | none => rw [el] at e2; cases e2
    | some kd =>
      obtain ⟨k, ds⟩ := kd
      rw [el] at e2
      obtain ⟨ei, vs, hv, l⟩ := lstAt_at s1 hp el
      cases y with
      | int j =>
        cases r1
        simp only [Option.map_eq_some_iff] at e2
        obtain ⟨d, ed, er⟩ := e2
        subst er
        obtain ⟨w, h1, h2⟩ := atI_of l ed
        exact .inl ⟨p, vs, j, w, rfl, rfl, .inl (.inl hv), h1, post w c1 G1 H1 L1 g1 s1 e1' h2⟩
      | _ => cases e2
  · subst er
    exact ⟨.ref p, hp, sim_val hb P σ c G H Γ L s _ e1 _ post⟩
/-- x.append(e) -/
def fApp (i : Nat) (b : FE) : FE := hasOwn i (FM.bind (fV b) fun y Γ => match lstAt i Γ with
  | some (k, ds) => if ds.length < 16777216 then some (.ok (.val .non) (Γ.set i (.own k (.lst (ds ++ [y]))))) else none
  | none => none)
theorem tyV_lst {p : Addr} {vs : List V} (h : H p = some (.lst vs)) : tyV K "list" (.ref p) H := .inl ⟨rfl, vs, .inl (.inl h)⟩
theorem own_lst {i : Nat} {p : Addr} (s : Sta K P c G H σ Γ L) (hp : σ[i]? = some (some (V.ref p))) {k : Nat} {o : OD} (e : Γ[i]? = some (.own k o)) (hl : ∃ ds, o = .lst ds) : ∃ vs, H p = some (.lst vs) := by
  obtain ⟨ds, rfl⟩ := hl
  obtain ⟨p', q1, q2, _⟩ := s.r.getO e
  have ep : p' = p := by rw [hp] at q1; injection q1 with q1; injection q1 with q1; injection q1 with q1; exact q1.symm
  subst ep
  obtain ⟨vs, h, _⟩ := (s.iv.ow _ _ (s.ow _ q2)).2
  exact ⟨vs, h⟩
def hasLst {α : Type} (i : Nat) (f : FM α) : FM α := fun Γ => match lstAt i Γ with
  | some _ => f Γ
  | none => none
theorem hasLst_at {α : Type} {i : Nat} {f : FM α} {r : Rt α} (s : Sta K P c G H σ Γ L) (e : hasLst i f Γ = some r) : f Γ = some r ∧ ∃ p vs, σ[i]? = some (some (V.ref p)) ∧ H p = some (.lst vs) := by
  unfold hasLst at e
  cases el : lstAt i Γ with
  | none => rw [el] at e; cases e
  | some kd =>
    rw [el] at e
    obtain ⟨k, ds⟩ := kd
    have el' := el
    unfold lstAt at el
    split at el
    · rename_i k' ds' ei
      obtain ⟨p, q1, _⟩ := s.r.getO ei
      obtain ⟨_, vs, h1, _⟩ := lstAt_at s q1 el'
      exact ⟨e, p, vs, q1, h1⟩
    · cases el
def fAppend (i : Nat) (b : FE) : FE := hasLst i (FM.bind (fV b) fun y Γ => match lstAt i Γ with
  | some (k, ds) => if ds.length < 16777216 then some (.ok (.val .non) (Γ.set i (.own k (.lst (ds ++ [y]))))) else none
  | none => none)
theorem sim_append {i : Nat} (hb : SimE K W tb fb) : SimE K W (tBM K "list" rAppend (tVar i) (tCons tb tNil)) (fAppend i fb) := fun P σ c G H Γ L s r e Q post => by
  obtain ⟨e, p, vs0, hp, hv0⟩ := hasLst_at s e
  refine ⟨.ref p, hp, tyV_lst hv0, ?_⟩
  rcases FM.bind_some e with ⟨y, Γ1, e1, e2⟩ | ⟨cn', fl, d, Γ1, e1, er⟩
  · refine sim_val hb P σ c G H Γ L s _ e1 _ ?_
    intro u c1 G1 H1 L1 g1 s1 e1' r1
    cases el : lstAt i Γ1 with
    | none => rw [el] at e2; cases e2
    | some kd =>
      obtain ⟨k, ds⟩ := kd
      rw [el] at e2
      obtain ⟨ei, vs, hv, l⟩ := lstAt_at s1 hp el
      have e2 : (if ds.length < 16777216 then some (Rt.ok (Vr.val .non) (Γ1.set i (.own k (.lst (ds ++ [y]))))) else none) = some r := e2
      split at e2
      · rename_i hl
        cases e2
        obtain ⟨L2', g2, s2, n2⟩ := set_own_core (ho := .lst (vs ++ [u])) s1 ei hp (o' := .lst (ds ++ [y])) ⟨_, upd_same, l.append (.cons r1 .nil)⟩
        exact ⟨p, vs, u, rfl, rfl, hv, by rw [l.length, sizeLine_eq]; exact hl, post .non _ _ _ L2' (g1.trans' s.iv g2 (fun _ z => z) fun b z => .inl (by unfold TL at z ⊢; rwa [e1'] at z)) s2 (n2.trans e1') .non⟩
      · cases e2
  · subst er
    exact sim_val hb P σ c G H Γ L s _ e1 _ post
/-- x.pop() -/
def fPop (i : Nat) : FE := fun Γ => match lstAt i Γ with
  | some (k, ds) => (ds[ds.length - 1]?).map fun d => .ok (.val d) (Γ.set i (.own k (.lst ds.dropLast)))
  | none => none
theorem sim_pop {i : Nat} : SimE K W (tBM0 K "list" rPop (tVar i)) (fPop i) := fun P σ c G H Γ L s r e Q post => by
  unfold fPop at e
  cases el : lstAt i Γ with
  | none => rw [el] at e; cases e
  | some kd =>
    obtain ⟨k, ds⟩ := kd
    rw [el] at e
    simp only [Option.map_eq_some_iff] at e
    obtain ⟨d, ed, er⟩ := e
    subst er
    obtain ⟨_, p, vs0, hp, hv0⟩ := hasLst_at (f := FM.pure ()) (r := .ok () Γ) s (by unfold hasLst; rw [el]; rfl)
    obtain ⟨ei, vs, hv, l⟩ := lstAt_at s hp el
    obtain ⟨w, h1, h2⟩ := l.get ed
    obtain ⟨L2', g2, s2, n2⟩ := set_own_core (ho := .lst vs.dropLast) s ei hp (o' := .lst ds.dropLast) ⟨_, upd_same, l.dropLast⟩
    exact ⟨.ref p, hp, tyV_lst hv0, p, vs, w, rfl, rfl, hv, by rw [l.length]; exact h1, post w _ _ _ L2' g2 s2 n2 (show At K G w d from h2)⟩
/-- x[i] = .. -/
def pSub (i : Nat) (b : FE) : D → FM Unit := fun d => hasOwn i (FM.bind (fV b) fun y Γ => match lstAt i Γ, y with
  | some (k, ds), .int j => (ixN ds.length j).map fun n => .ok () (Γ.set i (.own k (.lst (ds.set n d))))
  | _, _ => none)
theorem sim_gsub {i : Nat} (hb : SimE K W tb fb) : SimG K W [] (gSub (tVar i) tb rSetL) (pSub i fb) := fun P σ c G H Γ L s u d a r e Q q qx => by
  obtain ⟨e, p, hp⟩ := hasOwn_at s e
  rcases FM.bind_some e with ⟨y, Γ1, e1, e2⟩ | ⟨cn', fl, d', Γ1, e1, er⟩
  · refine ⟨.ref p, hp, sim_val hb P σ c G H Γ L s _ e1 _ ?_⟩
    intro u1 c1 G1 H1 L1 g1 s1 e1' r1
    have r1 : At K G1 u1 y := r1
    cases el : lstAt i Γ1 with
    | none => rw [el] at e2; cases e2
    | some kd =>
      obtain ⟨k, ds⟩ := kd
      rw [el] at e2
      obtain ⟨ei, vs, hv, l⟩ := lstAt_at s1 hp el
      cases y with
      | int j =>
        cases r1
        simp only [Option.map_eq_some_iff] at e2
        obtain ⟨n, en, er⟩ := e2
        subst er
        obtain ⟨L2', g2, s2, n2⟩ := set_own_core (ho := .lst (vs.set n u)) s1 ei hp (o' := .lst (ds.set n d)) ⟨_, upd_same, l.set n (a.mono g1.g)⟩
        exact ⟨p, vs, j, n, rfl, rfl, hv, by rw [l.length]; exact en, q _ rfl σ _ _ _ L2' .refl (g1.trans' s.iv g2 (fun _ z => z) fun b z => .inl (by unfold TL at z ⊢; rwa [e1'] at z)) s2 (tl_of (n2.trans e1'))⟩
      | _ => cases e2
  · subst er
    exact ⟨.ref p, hp, sim_val hb P σ c G H Γ L s _ e1 _ (qx _ _ _ _ rfl)⟩
/-! x += e -/
def fAug (i : Nat) (f : D → D → Option D) (b : FE) : FS := fun Γ => match Γ[i]? with
  | some (.val x) => FM.bind (fV b) (fun y Γ1 => (f x y).map fun z => .ok .nx (Γ1.set i (.val z))) Γ
  | _ => none
def SimIp (K : PySem.W.Frag) (r : TIp) (f : D → D → Option D) : Prop := SimR2 K r f
theorem sim_aug {i : Nat} {r : TIp} {f : D → D → Option D} (hr : SimR2 K r f) (hb : SimE K W tb fb) : SimS K W (tAug i tb r) (fAug i f fb) := fun P σ c G H Γ L s rr e Dn post => by
  unfold fAug at e
  cases ei : Γ[i]? with
  | none => rw [ei] at e; cases e
  | some x =>
    rw [ei] at e
    cases x with
    | val x =>
      obtain ⟨v, h1, h2⟩ := s.r.get ei
      refine ⟨v, h1, ?_⟩
      rcases FM.bind_some e with ⟨y, Γ1, e1, e2⟩ | ⟨cn', fl, d', Γ1, e1, er⟩
      · refine sim_val hb P σ c G H Γ L s _ e1 _ ?_
        intro u c1 G1 H1 L1 g1 s1 e1' r1
        simp only [Option.map_eq_some_iff] at e2
        obtain ⟨z, ez, er⟩ := e2
        subst er
        refine hr x y z ez G1 H1 v u s1.iv.bs (h2.mono g1.g) r1 _ fun w G2 H2 g2 t2 => ?_
        have s2 := s1.pg g2
        obtain ⟨L3, s3, n3⟩ := s2.val i t2
        exact post.nx _ rfl _ c1 G2 H2 L3 (g1.trans' s.iv (g2.grow (T := TL L1) s1.iv) (fun _ z => z) fun b z => .inl (by unfold TL at z ⊢; rwa [e1'] at z)) s3 fun x hx => tl_of e1' x (n3.subset hx)
      · subst er
        exact sim_val hb P σ c G H Γ L s _ e1 _ (post.ex _ _ _ _ rfl)
    | _ => cases e
theorem sim_ip {f : Int → Int → Int} : SimR2 K (ipI f) (intD fun i j => .int (f i j)) := by
  intro x y z e G H u v i hu hv Q q
  have bs := i
  have i := bs.i
  cases hu with
  | int a => cases hv with
    | int b => cases e; exact ⟨a, b, rfl, rfl, q _ G H (PG.refl i) (.int _)⟩
    | _ => cases e
  | _ => cases e
/-! ### truth -/
def truD : D → Option Bool
  | .non => some false | .bl b => some b | .int i => some (i != 0)
  | .str z => if z.length ≤ 16777216 then some ((z.length : Int) != 0) else none
  | .tup ds => some !ds.isEmpty | .lst ds => some !ds.isEmpty | .dct ds => some !ds.isEmpty | _ => none
abbrev tTru (K : PySem.W.Frag) (ta : TE) : TT := fun σ H Q => ta σ H fun x H' => ∃ k, TruV K x H' k ∧ Q k H'
def fTru (a : FE) : FT := FM.bind (fV a) fun x => fOf (truD x)
theorem sim_tru (ha : SimE K W ta fa) : SimT K W (tTru K ta) (fTru fa) := fun P σ c G H Γ L s => by
  unfold fTru
  refine Run.bind (R' := eqR Bool) (t2 := fun x H1 Q => ∃ k, TruV K x H1 k ∧ Q k H1) s.iv (sim_val ha P σ c G H Γ L s) fun x Γ1 u c1 G1 H1 L1 g1 s1 e1 r1 => ?_
  have r1 : At K G1 u x := r1
  intro r e Q post
  cases ex : truD x with
  | none => rw [ex] at e; cases e
  | some b =>
    rw [ex] at e
    cases e
    refine ⟨b, ?_, post b c1 G1 H1 L1 .refl s1 rfl rfl⟩
    have emp : ∀ {vs : List V} {ds : List D}, AtL K G1 vs ds → (!ds.isEmpty) = !vs.isEmpty := fun l => by cases l <;> rfl
    cases r1 with
    | non => cases ex; rfl
    | bl => cases ex; rfl
    | int => cases ex; rfl
    | str z =>
      have ex : (if z.length ≤ 16777216 then some ((z.length : Int) != 0) else none) = some b := ex
      split at ex
      · rename_i hz; cases ex; exact ⟨by rw [sizeLine_eq]; exact hz, rfl⟩
      · cases ex
    | tup hp l => cases ex; exact .inr (.inl ⟨_, sqT_ext hp s1.iv.i, emp l⟩)
    | lst hp l => cases ex; exact .inl ⟨_, ext_lst s1.iv.i hp, emp l⟩
    | dct hp l => cases ex; exact .inr (.inr ⟨_, s1.iv.i _ _ hp, by cases l <;> rfl⟩)
    | _ => cases ex
end
end DF

set_option linter.all false
set_option maxRecDepth 100000
set_option maxHeartbeats 4000000
namespace DF
open PySem PySem.Spec PyProof.Rows L2
variable [TbC]
section
variable {K : PySem.W.Frag} {G G' H H' H0 H1 G1 : Hp} {P : List Addr} {σ σ' : L2.St} {Γ Γ' Γ1 : EnvF} {L L' L1 : List (Addr × OD)} {c c' c1 : Ow} {W : WX}
variable {ta tb te to ti : TE} {t tr tk : TA} {fa fb fc fe fo fi : FE} {fs fr fk : FA} {tt tu : TT} {ft fu : FT} {E : XK} {ts tw : TS} {fS fT : FS}
theorem SimC.or {r r' : List V → Hp → VK → Prop} {f g : List D → Option D} (h : SimC K r f) (h' : SimC K r' g) : SimC K (fun xs H Q => r xs H Q ∨ r' xs H Q) (fun xs => match f xs with | some z => some z | none => g xs) := by
  intro x z e G H u i hu Q q
  have bs := i
  have i := bs.i
  dsimp only at e
  cases ef : f x with
  | some z' => rw [ef] at e; cases e; exact .inl (h x z ef G H u bs hu Q q)
  | none => rw [ef] at e; exact .inr (h' x z e G H u bs hu Q q)
theorem atl0 {us : List V} (h : AtL K G us []) : us = [] := by cases h; rfl
/-! ### built-ins -/
def lenD : List D → Option D
  | [.str z] => if z.length ≤ 16777216 then some (.int z.length) else none
  | [.lst ds] => some (.int ds.length)
  | [.tup ds] => some (.int ds.length)
  | [.scr ns] => some (.int ns.length)
  | _ => none
abbrev rLen (K : PySem.W.Frag) : List V → Hp → VK → Prop := fun xs H Q => ∃ x n, xs = [x] ∧ LenV K x H n ∧ Q (.int n) H
theorem sim_len : SimC K (rLen K) lenD := by
  intro xs z e G H us i l Q q
  have bs := i
  have i := bs.i
  unfold lenD at e
  split at e
  · split at e
    · rename_i s hs
      cases e
      obtain ⟨u, eu, h⟩ := atl1 l; subst eu; cases h
      exact ⟨_, _, rfl, ⟨by rw [sizeLine_eq]; exact hs, rfl⟩, q _ G H (PG.refl i) (.int _)⟩
    · cases e
  · cases e
    obtain ⟨u, eu, h⟩ := atl1 l; subst eu
    cases h with
    | lst hp l => exact ⟨_, _, rfl, .inl ⟨_, ext_lst i hp, l.length.symm⟩, q _ G H (PG.refl i) (.int _)⟩
  · cases e
    obtain ⟨u, eu, h⟩ := atl1 l; subst eu
    cases h with
    | tup hp l => exact ⟨_, _, rfl, .inr ⟨_, sqT_ext hp i, l.length.symm⟩, q _ G H (PG.refl i) (.int _)⟩
  · cases e
    obtain ⟨u, eu, h⟩ := atl1 l; subst eu
    cases h with
    | scr hp => exact ⟨_, _, rfl, .inl ⟨_, (hp.ext i).seq, by simp⟩, q _ G H (PG.refl i) (.int _)⟩
  · cases e
def absD : List D → Option D
  | [.int i] => some (.int (if i < 0 then -i else i))
  | _ => none
theorem sim_abs : SimC K (fun xs H Q => ∃ i, xs = [.int i] ∧ Q (.int (if i < 0 then -i else i)) H) absD := by
  intro xs z e G H us i l Q q
  have bs := i
  have i := bs.i
  unfold absD at e
  split at e
  · cases e; obtain ⟨u, eu, h⟩ := atl1 l; subst eu; cases h; exact ⟨_, rfl, q _ G H (PG.refl i) (.int _)⟩
  · cases e
/-- int(x) of an int, a bool, a text -/
abbrev rInt : List V → Hp → VK → Prop := fun xs H Q => ((∃ i, xs = [.int i] ∧ Q (.int i) H) ∨ ∃ k, xs = [.bl k] ∧ Q (.int (if k then 1 else 0)) H) ∨ ∃ a n, xs = [.str a] ∧ PySem.intText? a = some n ∧ a.length ≤ 640 ∧ Q (.int n) H
theorem call_int {X : Cx} : CallR X (.type "int") rInt := CallR.or call_int1 call_int_str
def intOf : List D → Option D
  | [.int i] => some (.int i)
  | [.bl b] => some (.int (if b then 1 else 0))
  | [.str a] => if a.length ≤ 640 then (PySem.intText? a).map D.int else none
  | _ => none
theorem sim_int1 : SimC K rInt intOf := by
  intro xs z e G H us i l Q q
  have bs := i
  have i := bs.i
  unfold intOf at e
  split at e
  · cases e; obtain ⟨u, eu, h⟩ := atl1 l; subst eu; cases h; exact .inl (.inl ⟨_, rfl, q _ G H (PG.refl i) (.int _)⟩)
  · cases e; obtain ⟨u, eu, h⟩ := atl1 l; subst eu; cases h; exact .inl (.inr ⟨_, rfl, q _ G H (PG.refl i) (.int _)⟩)
  · split at e
    · rename_i a ha
      simp only [Option.map_eq_some_iff] at e
      obtain ⟨n, en, ez⟩ := e
      subst ez
      obtain ⟨u, eu, h⟩ := atl1 l; subst eu; cases h
      exact .inr ⟨_, _, rfl, en, ha, q _ G H (PG.refl i) (.int _)⟩
    · cases e
  · cases e
/-- str(x) of an int, a text -/
abbrev rStr : List V → Hp → VK → Prop := fun xs H Q => (∃ i, xs = [.int i] ∧ i.natAbs.log2 < 1920 ∧ Q (.str (toString i)) H) ∨ ∃ a, xs = [.str a] ∧ Q (.str a) H
theorem call_str {X : Cx} : CallR X (.type "str") rStr := CallR.or call_str_int SkE.call_str_str
def strOf : List D → Option D
  | [.int i] => if i.natAbs.log2 < 1920 then some (.str (toString i)) else none
  | [.str a] => some (.str a)
  | _ => none
theorem sim_str1 : SimC K rStr strOf := by
  intro xs z e G H us i l Q q
  have bs := i
  have i := bs.i
  unfold strOf at e
  split at e
  · split at e
    · rename_i k hk
      cases e; obtain ⟨u, eu, h⟩ := atl1 l; subst eu; cases h; exact .inl ⟨_, rfl, hk, q _ G H (PG.refl i) (.str _)⟩
    · cases e
  · cases e; obtain ⟨u, eu, h⟩ := atl1 l; subst eu; cases h; exact .inr ⟨_, rfl, q _ G H (PG.refl i) (.str _)⟩
  · cases e
def divmodD : List D → Option D
  | [.int i, .int j] => if 0 < j ∧ j < 1073741824 then some (.tup [.int (i / j), .int (i % j)]) else none
  | _ => none
abbrev rDivmod : List V → Hp → VK → Prop := fun xs H Q => ∃ i j, xs = [.int i, .int j] ∧ CDiv i j ∧ ∀ p, H p = none → Q (.ref p) (upd H p (.tup [.int (i / j), .int (i % j)]))
theorem sim_divmod : SimC K rDivmod divmodD := by
  intro xs z e G H us i l Q q
  have bs := i
  have i := bs.i
  unfold divmodD at e
  split at e
  · split at e
    · rename_i a b hj
      cases e; obtain ⟨u, v, eu, h1, h2⟩ := atl2 l; subst eu; cases h1; cases h2
      refine ⟨_, _, rfl, hj, fun p hp => ?_⟩
      have gn := PG.new (G := G) (o := .tup [.int (a / b), .int (a % b)]) i hp
      exact q _ _ _ gn (.tup (.inl (.inl upd_same)) (.cons (.int _) (.cons (.int _) .nil)))
    · cases e
  · cases e
def min2D : List D → Option D
  | [.int i, .int j] => some (.int (if j < i then j else i))
  | _ => none
def max2D : List D → Option D
  | [.int i, .int j] => some (.int (if j > i then j else i))
  | _ => none
theorem sim_min2 : SimC K (fun xs H Q => ∃ i j, xs = [.int i, .int j] ∧ Q (.int (if j < i then j else i)) H) min2D := by
  intro xs z e G H us i l Q q
  have bs := i
  have i := bs.i
  unfold min2D at e
  split at e
  · cases e; obtain ⟨u, v, eu, h1, h2⟩ := atl2 l; subst eu; cases h1; cases h2; exact ⟨_, _, rfl, q _ G H (PG.refl i) (.int _)⟩
  · cases e
theorem sim_max2 : SimC K (fun xs H Q => ∃ i j, xs = [.int i, .int j] ∧ Q (.int (if j > i then j else i)) H) max2D := by
  intro xs z e G H us i l Q q
  have bs := i
  have i := bs.i
  unfold max2D at e
  split at e
  · cases e; obtain ⟨u, v, eu, h1, h2⟩ := atl2 l; subst eu; cases h1; cases h2; exact ⟨_, _, rfl, q _ G H (PG.refl i) (.int _)⟩
  · cases e
def boolsOf : List D → Option (List Bool)
  | [] => some []
  | .bl b :: ds => (boolsOf ds).map (b :: ·)
  | _ => none
theorem bools_at : ∀ {us : List V} {ds : List D} {bs : List Bool}, AtL K G us ds → boolsOf ds = some bs → us = bs.map V.bl
  | _, _, _, .nil, e => by cases e; rfl
  | _, d :: ds, bs, .cons a l, e => by
    cases d with
    | bl b =>
      have e : (boolsOf ds).map (b :: ·) = some bs := e
      simp only [Option.map_eq_some_iff] at e
      obtain ⟨bs', e1, e2⟩ := e
      subst e2
      cases a
      rw [List.map_cons, bools_at l e1]
    | _ => cases e
def allD : List D → Option D
  | [.lst ds] => (boolsOf ds).map fun bs => .bl (bs.all id)
  | _ => none
theorem sim_all : SimC K (rAll K) allD := by
  intro xs z e G H us i l Q q
  have bs := i
  have i := bs.i
  unfold allD at e
  split at e
  · simp only [Option.map_eq_some_iff] at e
    obtain ⟨bs, eb, ez⟩ := e
    subst ez
    obtain ⟨u, eu, h⟩ := atl1 l; subst eu
    cases h with
    | lst hp l =>
      have := bools_at l eb
      subst this
      exact ⟨_, bs, rfl, ext_lst i hp, q _ G H (PG.refl i) (.bl _)⟩
  · cases e
def anyD : List D → Option D
  | [.lst ds] => (boolsOf ds).map fun bs => .bl (bs.any id)
  | _ => none
theorem sim_any : SimC K (rAny K) anyD := by
  intro xs z e G H us i l Q q
  have bs := i
  have i := bs.i
  unfold anyD at e
  split at e
  · simp only [Option.map_eq_some_iff] at e
    obtain ⟨bs, eb, ez⟩ := e
    subst ez
    obtain ⟨u, eu, h⟩ := atl1 l; subst eu
    cases h with
    | lst hp l =>
      have := bools_at l eb
      subst this
      exact ⟨_, bs, rfl, ext_lst i hp, q _ G H (PG.refl i) (.bl _)⟩
  · cases e
def intsOf : List D → Option (List Int)
  | [] => some []
  | .int b :: ds => (intsOf ds).map (b :: ·)
  | _ => none
theorem ints_at : ∀ {us : List V} {ds : List D} {bs : List Int}, AtL K G us ds → intsOf ds = some bs → us = bs.map V.int
  | _, _, _, .nil, e => by cases e; rfl
  | _, d :: ds, bs, .cons a l, e => by
    cases d with
    | int b =>
      have e : (intsOf ds).map (b :: ·) = some bs := e
      simp only [Option.map_eq_some_iff] at e
      obtain ⟨bs', e1, e2⟩ := e
      subst e2
      cases a
      rw [List.map_cons, ints_at l e1]
    | _ => cases e
def sumD : List D → Option D
  | [.lst ds] => (intsOf ds).map fun bs => .int bs.sum
  | _ => none
theorem sim_sum : SimC K (rSum K) sumD := by
  intro xs z e G H us i l Q q
  have bs := i
  have i := bs.i
  unfold sumD at e
  split at e
  · simp only [Option.map_eq_some_iff] at e
    obtain ⟨bs, eb, ez⟩ := e
    subst ez
    obtain ⟨u, eu, h⟩ := atl1 l; subst eu
    cases h with
    | lst hp l =>
      have := ints_at l eb
      subst this
      exact ⟨_, bs, rfl, ext_lst i hp, q _ G H (PG.refl i) (.int _)⟩
  · cases e
def gcdD : List D → Option D
  | [.int i, .int j] => some (.int ((Nat.gcd i.natAbs j.natAbs : Nat) : Int))
  | _ => none
theorem sim_gcd : SimC K rGcd gcdD := by
  intro xs z e G H us i l Q q
  have bs := i
  have i := bs.i
  unfold gcdD at e
  split at e
  · cases e; obtain ⟨u, v, eu, h1, h2⟩ := atl2 l; subst eu; cases h1; cases h2; exact ⟨_, _, rfl, q _ G H (PG.refl i) (.int _)⟩
  · cases e
abbrev rTupOf (K : PySem.W.Frag) : List V → Hp → VK → Prop := fun xs H Q => ∃ p ys, xs = [.ref p] ∧ ((SqL K H p ys ∧ ∀ l, H l = none → Q (.ref l) (upd H l (.tup ys))) ∨ (SqT K H p ys ∧ Q (.ref p) H))
def tupOf : List D → Option D
  | [.lst ds] => some (.tup ds)
  | [.tup ds] => some (.tup ds)
  | [.scr ns] => some (.tup (ns.map .int))
  | _ => none
theorem sim_tupOf : SimC K (rTupOf K) tupOf := by
  intro xs z e G H us i l Q q
  have bs := i
  have i := bs.i
  unfold tupOf at e
  split at e
  · cases e
    obtain ⟨u, eu, h⟩ := atl1 l; subst eu
    cases h with
    | @lst p vs ds hp l =>
      refine ⟨p, vs, rfl, .inl ⟨ext_lst i hp, fun np hn => ?_⟩⟩
      have gn := PG.new (G := G) (o := .tup vs) i hn
      exact q _ _ _ gn (.tup (.inl (.inl upd_same)) (l.mono gn.g))
  · cases e
    obtain ⟨u, eu, h⟩ := atl1 l; subst eu
    cases h with
    | @tup p vs ds hp l => exact ⟨p, vs, rfl, .inr ⟨sqT_ext hp i, q _ G H (PG.refl i) (.tup hp l)⟩⟩
  · cases e
    obtain ⟨u, eu, h⟩ := atl1 l; subst eu
    rename_i ns
    cases h with
    | @scr p _ hp =>
      refine ⟨p, _, rfl, .inl ⟨(hp.ext i).seq, fun np hn => ?_⟩⟩
      have gn := PG.new (G := G) (o := .tup (ns.map V.int)) i hn
      exact q _ _ _ gn (.tup (.inl (.inl upd_same)) (atl_ints ns))
  · cases e
abbrev rLstOf (K : PySem.W.Frag) : List V → Hp → VK → Prop := fun xs H Q => ∃ p ys, xs = [.ref p] ∧ (SqL K H p ys ∨ SqT K H p ys) ∧ ∀ l, H l = none → Q (.ref l) (upd H l (.lst ys))
def lstOf : List D → Option D
  | [.lst ds] => some (.lst ds)
  | [.tup ds] => some (.lst ds)
  | [.scr ns] => some (.lst (ns.map .int))
  | _ => none
theorem sim_lstOf : SimC K (rLstOf K) lstOf := by
  intro xs z e G H us i l Q q
  have bs := i
  have i := bs.i
  unfold lstOf at e
  split at e
  · cases e
    obtain ⟨u, eu, h⟩ := atl1 l; subst eu
    cases h with
    | @lst p vs ds hp l =>
      refine ⟨p, vs, rfl, .inl (ext_lst i hp), fun np hn => ?_⟩
      have gn := PG.new (G := G) (o := .lst vs) i hn
      exact q _ _ _ gn (.lst upd_same (l.mono gn.g))
  · cases e
    obtain ⟨u, eu, h⟩ := atl1 l; subst eu
    cases h with
    | @tup p vs ds hp l =>
      refine ⟨p, vs, rfl, .inr (sqT_ext hp i), fun np hn => ?_⟩
      have gn := PG.new (G := G) (o := .lst vs) i hn
      exact q _ _ _ gn (.lst upd_same (l.mono gn.g))
  · cases e
    obtain ⟨u, eu, h⟩ := atl1 l; subst eu
    rename_i ns
    cases h with
    | @scr p _ hp =>
      refine ⟨p, _, rfl, .inl (hp.ext i).seq, fun np hn => ?_⟩
      have gn := PG.new (G := G) (o := .lst (ns.map V.int)) i hn
      exact q _ _ _ gn (.lst upd_same (atl_ints ns))
  · cases e
/-! ### repr -/
def rReprU (K : PySem.W.Frag) : List V → Hp → VK → Prop := fun xs H Q => (∃ (b : Addr) (d : PyData), xs = [.ref b] ∧ Dp K H (.ref b) d ∧ d.showable = true ∧ d.hasDict = false ∧ d.depth ≤ 64 ∧ d.shown.length ≤ sizeLine ∧ Q (.str d.shown) H) ∨
  (xs = [.non] ∧ Q (.str "None") H) ∨ (∃ i, xs = [.int i] ∧ i.natAbs.log2 < 1920 ∧ Q (.str (toString i)) H) ∨ (∃ b, xs = [.bl b] ∧ Q (.str (if b then "True" else "False")) H) ∨ (∃ z, xs = [.str z] ∧ (reprText z).length ≤ sizeLine ∧ Q (.str (reprText z)) H)
theorem call_reprU {X : Cx} (hg : X.A.guards = some []) (hu : X.A.units + 128 < cLine) : CallR X (.builtin "repr") (rReprU X.K) := by
  intro pins s σ H xs us Q I r h
  rcases h with ⟨b, d, rfl, hd, hs, hn, hdp, hsz, q⟩ | ⟨e, q⟩ | ⟨i, e, hi, q⟩ | ⟨b, e, q⟩ | ⟨z, e, hz, q⟩
  · obtain ⟨u, rfl, e⟩ := vals1 r
    obtain ⟨as, r1⟩ := Dp.reads I d _ u hd e
    cases e
    refine repr_of_reads' r1 hs (PyData.noDict_hsm hn) hg (by omega) (fun _ _ z => z) (fun h' u tk hk => ?_) hsz
    exact ⟨.str d.shown, H, I.kept hk, ⟨_, rfl⟩, q⟩
  · subst e
    obtain ⟨u, rfl, e⟩ := vals1 r
    cases e
    exact PySem.P.repr_of_none ⟨.str "None", H, I.tok _, ⟨_, rfl⟩, q⟩
  · exact SkE.call_repr_int pins s σ H xs us Q I r ⟨i, e, hi, q⟩
  · subst e
    obtain ⟨u, rfl, e⟩ := vals1 r
    cases e
    exact PySem.P.repr_of_bool ⟨.str _, H, I.tok _, ⟨_, rfl⟩, q⟩
  · subst e
    obtain ⟨u, rfl, t, rfl⟩ := vals1 r
    exact PySem.P.repr_of_str (hsz := hz) ⟨.str _, H, I.tok _, ⟨_, rfl⟩, q⟩
def reprOk (x : D) : Bool := pur x && (py x).showable && !(py x).hasDict && decide ((py x).depth ≤ 64) && decide ((py x).shown.length ≤ 16777216)
def reprD : List D → Option D
  | [.non] => some (.str "None")
  | [.int i] => if i.natAbs.log2 < 1920 then some (.str (toString i)) else none
  | [.bl b] => some (.str (if b then "True" else "False"))
  | [.str z] => if (reprText z).length ≤ 16777216 then some (.str (reprText z)) else none
  | [x] => if reprOk x = true then some (.str (py x).shown) else none
  | _ => none
theorem reprOk_at {x : D} (h : reprOk x = true) : pur x = true ∧ (py x).showable = true ∧ (py x).hasDict = false ∧ (py x).depth ≤ 64 ∧ (py x).shown.length ≤ 16777216 := by
  unfold reprOk at h
  simp only [Bool.and_eq_true, decide_eq_true_eq, Bool.not_eq_true'] at h
  exact ⟨h.1.1.1.1, h.1.1.1.2, h.1.1.2, h.1.2, h.2⟩
theorem sim_repr : SimC K (rReprU K) reprD := by
  intro xs z e G H us i l Q q
  have bs := i
  have i := bs.i
  unfold reprD at e
  split at e
  · cases e; obtain ⟨u, eu, h⟩ := atl1 l; subst eu; cases h; exact .inr (.inl ⟨rfl, q _ G H (PG.refl i) (.str _)⟩)
  · split at e
    · rename_i k hk
      cases e; obtain ⟨u, eu, h⟩ := atl1 l; subst eu; cases h; exact .inr (.inr (.inl ⟨_, rfl, hk, q _ G H (PG.refl i) (.str _)⟩))
    · cases e
  · cases e; obtain ⟨u, eu, h⟩ := atl1 l; subst eu; cases h; exact .inr (.inr (.inr (.inl ⟨_, rfl, q _ G H (PG.refl i) (.str _)⟩)))
  · split at e
    · rename_i k hk
      cases e; obtain ⟨u, eu, h⟩ := atl1 l; subst eu; cases h; exact .inr (.inr (.inr (.inr ⟨_, rfl, by rw [sizeLine_eq]; exact hk, q _ G H (PG.refl i) (.str _)⟩)))
    · cases e
  · rename_i x h1 h2 h3 h4
    split at e
    · rename_i hk
      cases e
      obtain ⟨p1, p2, p3, p4, p5⟩ := reprOk_at hk
      obtain ⟨u, eu, h⟩ := atl1 l; subst eu
      have hd := At.dp i x h p1
      cases h with
      | lst hp l => exact .inl ⟨_, _, rfl, hd, p2, p3, p4, by rw [sizeLine_eq]; exact p5, q _ G H (PG.refl i) (.str _)⟩
      | tup hp l => exact .inl ⟨_, _, rfl, hd, p2, p3, p4, by rw [sizeLine_eq]; exact p5, q _ G H (PG.refl i) (.str _)⟩
      | non => exact (h1 rfl).elim
      | int k => exact (h2 k rfl).elim
      | bl k => exact (h3 k rfl).elim
      | str k => exact (h4 k rfl).elim
      | _ => simp [pur] at p1
    · cases e
  · cases e
end
end DF

set_option linter.all false
set_option maxRecDepth 100000
set_option maxHeartbeats 4000000
namespace DF
open PySem PySem.Spec PyProof.Rows L2
variable [TbC]
section
variable {K : PySem.W.Frag} {G G' H H' H0 H1 G1 : Hp} {P : List Addr} {σ σ' : L2.St} {Γ Γ' Γ1 : EnvF} {L L' L1 : List (Addr × OD)} {c c' c1 : Ow} {W : WX}
variable {ta tb te to ti : TE} {t tr tk : TA} {fa fb fc fe fo fi : FE} {fs fr fk : FA} {tt tu : TT} {ft fu : FT} {E : XK} {ts tw : TS} {fS fT : FS}
/-! ### isinstance -/
inductive Nm where
  | ty (n : String) | cls (c : Str)
  deriving DecidableEq
def NmV (K : PySem.W.Frag) : Nm → Value → Prop
  | .ty n, v => v = .type n
  | .cls c, v => ∃ C, CT K c C ∧ v = .ref C
def nmOf : D → Option Nm
  | .non => some (.ty "NoneType") | .bl _ => some (.ty "bool") | .int _ => some (.ty "int") | .str _ => some (.ty "str") | .tup _ => some (.ty "tuple") | .lst _ => some (.ty "list") | .dct _ => some (.ty "dict")
  | .ins c _ => some (.cls c) | _ => none
structure IsiC (K : PySem.W.Frag) (C : Addr) : Prop where
  cl : Cls K C
  ha : PySem.W.findIn K (.ref C) "__class__" = some (some (.builtin "object.__class__"))
  hn : PySem.W.specialIn K (.builtin "object.__class__") "__get__" = some (some (.builtin "getset_descriptor.__get__"))
  htk : PySem.W.takesIn K (.builtin "object.__class__") = some true
  hm : PySem.W.mroIn K C (.type "object") = some true
abbrev ITab := List (Nm × Nm × Bool)
structure IsiT (K : PySem.W.Frag) (cs : List Str) (tb : ITab) : Prop where
  isi : ∀ c ∈ cs, ∀ C, CT K c C → IsiC K C
  kit : ∀ e ∈ tb, ∀ tv cv, NmV K e.1 tv → NmV K e.2.1 cv → PySem.W.kitOne K tv cv = some e.2.2
def lookI (a b : Nm) : ITab → Option Bool
  | [] => none
  | (x, y, r) :: tb => if x = a ∧ y = b then some r else lookI a b tb
theorem lookI_mem {a b : Nm} {r : Bool} : ∀ {tb : ITab}, lookI a b tb = some r → (a, b, r) ∈ tb
  | [], e => by cases e
  | (x, y, r0) :: tb, e => by
    unfold lookI at e
    split at e
    · rename_i h; cases e; obtain ⟨h1, h2⟩ := h; subst h1 h2; exact List.mem_cons_self
    · exact List.mem_cons_of_mem _ (lookI_mem e)
theorem ty_at {cs : List Str} {tb : ITab} (T : IsiT K cs tb) {u : V} {d : D} {n : Nm} (i : Ext G H) (h : At K G u d) (e : nmOf d = some n) (hc : ∀ c, n = .cls c → c ∈ cs) : ∃ tv, NmV K n tv ∧ TyX K H u tv := by
  cases h with
  | non => cases e; exact ⟨_, rfl, .base .non⟩
  | bl b => cases e; exact ⟨_, rfl, .base (.bl b)⟩
  | int b => cases e; exact ⟨_, rfl, .base (.int b)⟩
  | str b => cases e; exact ⟨_, rfl, .base (.str b)⟩
  | tup hp l =>
    cases e
    refine ⟨_, rfl, ?_⟩
    rcases hp with hp | ⟨o, its, n, h1, h2, _⟩
    · rcases hp with hp | ⟨o, hp⟩
      · exact .base (.tup (i _ _ hp))
      · exact .fTuple (i _ _ hp)
    · exact .kTuple h1 h2
  | lst hp l => cases e; exact ⟨_, rfl, .base (.lst (i _ _ hp))⟩
  | dct hp l => cases e; exact ⟨_, rfl, .base (.dK (i _ _ hp))⟩
  | @ins p C dx c fs gs ct hp l =>
    cases e
    have T1 := T.isi c (hc c rfl) C ct
    exact ⟨.ref C, ⟨C, ct, rfl⟩, .base (.ins (i _ _ hp) T1.cl T1.ha T1.hn T1.htk T1.hm)⟩
  | _ => cases e
def isiD (cs : List Str) (tb : ITab) : List D → Option D
  | [x, .ty n] => match nmOf x with
    | some (.cls c) => if c ∈ cs then (lookI (.cls c) (.ty n) tb).map .bl else none
    | some a => (lookI a (.ty n) tb).map .bl
    | none => none
  | [x, .cls c'] => match nmOf x with
    | some (.cls c) => if c ∈ cs then (lookI (.cls c) (.cls c') tb).map .bl else none
    | some a => (lookI a (.cls c') tb).map .bl
    | none => none
  | _ => none
theorem isi_core {cs : List Str} {tb : ITab} (T : IsiT K cs tb) {u v : V} {cv : Value} {x z : D} {b : Nm} (i : Ext G H) (hu : At K G u x) (hv : ClsV v cv) (hb : NmV K b cv)
    (e : (match nmOf x with
    | some (.cls c) => if c ∈ cs then (lookI (.cls c) b tb).map D.bl else none
    | some a => (lookI a b tb).map D.bl
    | none => none) = some z) {Q : VK} (q : ∀ w G' H', PG G H G' H' → At K G' w z → Q w H') : rIsi K [u, v] H Q := by
  cases en : nmOf x with
  | none => rw [en] at e; cases e
  | some a =>
    rw [en] at e
    have fin : (lookI a b tb).map D.bl = some z → (∀ c, a = .cls c → c ∈ cs) → rIsi K [u, v] H Q := fun e hc => by
      simp only [Option.map_eq_some_iff] at e
      obtain ⟨r, er, ez⟩ := e
      subst ez
      obtain ⟨tv, h1, h2⟩ := ty_at T i hu en hc
      exact ⟨u, v, tv, cv, r, rfl, hv, h2, T.kit _ (lookI_mem er) tv cv h1 hb, q _ G H (PG.refl i) (.bl _)⟩
    cases a with
    | cls c =>
      have e : (if c ∈ cs then (lookI (.cls c) b tb).map D.bl else none) = some z := e
      split at e
      · rename_i hc; exact fin e fun c' z => by cases z; exact hc
      · cases e
    | ty n => exact fin e fun c' z => by cases z
theorem sim_isi {cs : List Str} {tb : ITab} (T : IsiT K cs tb) : SimC K (rIsi K) (isiD cs tb) := by
  intro xs z e G H us i l Q q
  have bs := i
  have i := bs.i
  unfold isiD at e
  split at e
  · obtain ⟨u, v, eu, h1, h2⟩ := atl2 l
    subst eu; cases h2
    exact isi_core T i h1 (.ty _) (show NmV K (.ty _) _ from rfl) e q
  · obtain ⟨u, v, eu, h1, h2⟩ := atl2 l
    subst eu
    cases h2 with
    | cls ct => exact isi_core T i h1 (.own _) (show NmV K (.cls _) _ from ⟨_, ct, rfl⟩) e q
  · cases e
/-! ### methods of values -/
def SimM (K : PySem.W.Frag) (r : V → List V → Hp → VK → Prop) (f : D → List D → Option D) : Prop := ∀ x xs z, f x xs = some z → ∀ G H u us, Bs G H → At K G u x → AtL K G us xs → ∀ Q : VK, (∀ w G' H', PG G H G' H' → At K G' w z → Q w H') → r u us H Q
def tyS : D → Option String
  | .str _ => some "str" | .int _ => some "int" | .lst _ => some "list" | .scr _ => some "list" | .dct _ => some "dict" | _ => none
theorem tyV_at {u : V} {x : D} {T : String} (i : Ext G H) (h : At K G u x) (e : tyS x = some T) : tyV K T u H := by
  cases h with
  | str z => cases e; rfl
  | int z => cases e; rfl
  | lst hp l => cases e; exact .inl ⟨rfl, _, ext_lst i hp⟩
  | scr hp => cases e; exact .inl ⟨rfl, _, (hp.ext i).seq⟩
  | dct hp l => cases e; exact .inr (.inr (.inl ⟨rfl, .inl ⟨_, i _ _ hp⟩⟩))
  | _ => cases e
def fBM (T : String) (f : D → List D → Option D) (a : FE) (b : FA) : FE := FM.bind (fV a) fun x => if tyS x = some T then FM.bind (fVs b) fun xs => fR (fOf (f x xs)) else fFail
theorem sim_bm {T : String} {r : V → List V → Hp → VK → Prop} {f : D → List D → Option D} (hr : SimM K r f) (ha : SimE K W ta fa) (hb : SimA K W t fs) : SimE K W (tBM K T r ta t) (fBM T f fa fs) := fun P σ c G H Γ L s => by
  unfold fBM
  refine Run.bind (t2 := fun x H1 Q => tyV K T x H1 ∧ t σ H1 fun xs H2 => r x xs H2 Q) s.iv (sim_val ha P σ c G H Γ L s) fun x Γ1 u c1 G1 H1 L1 g1 s1 e1 r1 => ?_
  have r1 : At K G1 u x := r1
  intro rr e Q post
  split at e
  · rename_i ht
    refine ⟨tyV_at s1.iv.i r1 ht, ?_⟩
    refine Run.bind (R' := vrR) (t2 := fun xs H2 Q => r u xs H2 Q) s1.iv (sim_vals hb P σ c1 G1 H1 Γ1 L1 s1) (fun xs Γ2 us c2 G2 H2 L2' g2 s2 e2 r2 => ?_) rr e Q post
    exact run_of s2 fun z ez Q q => hr x xs z ez G2 H2 u us s2.iv.bs (r1.mono g2.g) r2 Q q
  · cases e
def fBM0 (T : String) (f : D → List D → Option D) (a : FE) : FE := FM.bind (fV a) fun x => if tyS x = some T then fR (fOf (f x [])) else fFail
theorem sim_bm0 {T : String} {r : V → List V → Hp → VK → Prop} {f : D → List D → Option D} (hr : SimM K r f) (ha : SimE K W ta fa) : SimE K W (tBM0 K T r ta) (fBM0 T f fa) := fun P σ c G H Γ L s => by
  unfold fBM0
  refine Run.bind (t2 := fun x H1 Q => tyV K T x H1 ∧ r x [] H1 Q) s.iv (sim_val ha P σ c G H Γ L s) fun x Γ1 u c1 G1 H1 L1 g1 s1 e1 r1 => ?_
  have r1 : At K G1 u x := r1
  intro rr e Q post
  split at e
  · rename_i ht
    refine ⟨tyV_at s1.iv.i r1 ht, ?_⟩
    exact run_of (tx := fun Q => r u [] H1 Q) s1 (fun z ez Q q => hr x [] z ez G1 H1 u [] s1.iv.bs r1 .nil Q q) rr e Q post
  · cases e
/-- a method of a text alone -/
theorem sim_m0 {C : Str → Prop} {B : Str → Bool} {g : Str → V} {f : Str → D} (hc : ∀ a, B a = true → C a) (h : ∀ a G, At K G (g a) (f a)) : SimM K (fun x xs H Q => ∃ a, x = .str a ∧ xs = [] ∧ C a ∧ Q (g a) H) (fun x xs => match x, xs with | .str a, [] => if B a = true then some (f a) else none | _, _ => none) := by
  intro x xs z e G H u us i hu l Q q
  have bs := i
  have i := bs.i
  dsimp only at e
  split at e
  · split at e
    · rename_i hb; cases e; cases hu; cases l; exact ⟨_, rfl, rfl, hc _ hb, q _ G H (PG.refl i) (h _ _)⟩
    · cases e
  · cases e
def joinD : D → List D → Option D
  | .str a, [.lst ds] => (strsOf ds).bind fun ys => if (ys.map (·.length)).sum + ys.length * a.length ≤ 16777216 then some (.str (Txt.join a ys)) else none
  | .str a, [.tup ds] => (strsOf ds).bind fun ys => if (ys.map (·.length)).sum + ys.length * a.length ≤ 16777216 then some (.str (Txt.join a ys)) else none
  | _, _ => none
where strsOf : List D → Option (List Str)
  | [] => some []
  | .str b :: ds => (strsOf ds).map (b :: ·)
  | _ => none
theorem strs_at : ∀ {us : List V} {ds : List D} {bs : List Str}, AtL K G us ds → joinD.strsOf ds = some bs → us = bs.map V.str
  | _, _, _, .nil, e => by cases e; rfl
  | _, d :: ds, bs, .cons a l, e => by
    cases d with
    | str b =>
      have e : (joinD.strsOf ds).map (b :: ·) = some bs := e
      simp only [Option.map_eq_some_iff] at e
      obtain ⟨bs', e1, e2⟩ := e
      subst e2
      cases a
      rw [List.map_cons, strs_at l e1]
    | _ => cases e
abbrev rJoin (K : PySem.W.Frag) : V → List V → Hp → VK → Prop := fun x xs H Q => ∃ a p, ∃ ys : List Str, x = .str a ∧ xs = [.ref p] ∧ (SqL K H p (ys.map V.str) ∨ SqT K H p (ys.map V.str)) ∧ (ys.map (·.length)).sum + ys.length * a.length ≤ 16777216 ∧ Q (.str (Txt.join a ys)) H
theorem sim_join : SimM K (rJoin K) joinD := by
  intro x xs z e G H u us i hu l Q q
  have bs := i
  have i := bs.i
  unfold joinD at e
  split at e
  · simp only [Option.bind_eq_some_iff] at e
    obtain ⟨ys, ey, e⟩ := e
    split at e
    · rename_i hl
      cases e; cases hu
      obtain ⟨w, ew, hw⟩ := atl1 l; subst ew
      cases hw with
      | lst hp l2 =>
        have := strs_at l2 ey; subst this
        exact ⟨_, _, ys, rfl, rfl, .inl (ext_lst i hp), hl, q _ G H (PG.refl i) (.str _)⟩
    · cases e
  · simp only [Option.bind_eq_some_iff] at e
    obtain ⟨ys, ey, e⟩ := e
    split at e
    · rename_i hl
      cases e; cases hu
      obtain ⟨w, ew, hw⟩ := atl1 l; subst ew
      cases hw with
      | tup hp l2 =>
        have := strs_at l2 ey; subst this
        exact ⟨_, _, ys, rfl, rfl, .inr (sqT_ext hp i), hl, q _ G H (PG.refl i) (.str _)⟩
    · cases e
  · cases e
theorem atl_strs : ∀ zs : List Str, AtL K G (zs.map V.str) (zs.map D.str)
  | [] => .nil
  | n :: ns => .cons (.str n) (atl_strs ns)
abbrev rSplit : V → List V → Hp → VK → Prop := fun x xs H Q => ∃ a b, x = .str a ∧ xs = [.str b] ∧ (b.length == 0) = false ∧ a.length + 2 ≤ sizeLine ∧ rNewStrs (Txt.split a b) H Q
def splitD : D → List D → Option D
  | .str a, [.str b] => if b.length ≠ 0 ∧ a.length + 2 ≤ 16777216 then some (.lst ((Txt.split a b).map .str)) else none
  | _, _ => none
theorem sim_split : SimM K rSplit splitD := by
  intro x xs z e G H u us i hu l Q q
  have bs := i
  have i := bs.i
  unfold splitD at e
  split at e
  · split at e
    · rename_i a b hl
      cases e; cases hu
      obtain ⟨w, ew, hw⟩ := atl1 l; subst ew; cases hw
      refine ⟨_, _, rfl, rfl, by simpa using hl.1, by rw [sizeLine_eq]; exact hl.2, fun p hp => ?_⟩
      have gn := PG.new (G := G) (o := .lst ((Txt.split a b).map V.str)) i hp
      exact q _ _ _ gn (.lst upd_same (atl_strs _))
    · cases e
  · cases e
abbrev rS1 (g : Str → Str → V) : V → List V → Hp → VK → Prop := fun x xs H Q => ∃ a b, x = .str a ∧ xs = [.str b] ∧ Q (g a b) H
def s1D (f : Str → Str → D) : D → List D → Option D
  | .str a, [.str b] => some (f a b)
  | _, _ => none
theorem sim_s1 {g : Str → Str → V} {f : Str → Str → D} (h : ∀ a b G, At K G (g a b) (f a b)) : SimM K (rS1 g) (s1D f) := by
  intro x xs z e G H u us i hu l Q q
  have bs := i
  have i := bs.i
  unfold s1D at e
  split at e
  · cases e; cases hu
    obtain ⟨w, ew, hw⟩ := atl1 l; subst ew; cases hw
    exact ⟨_, _, rfl, rfl, q _ G H (PG.refl i) (h _ _ _)⟩
  · cases e
def countD : D → List D → Option D := s1D fun a b => .int (Txt.count a b)
theorem sim_count : SimM K (fun x xs H Q => ∃ a b, x = .str a ∧ xs = [.str b] ∧ Q (.int (Txt.count a b)) H) countD := sim_s1 fun _ _ _ => .int _
def rmPreD : D → List D → Option D
  | .str a, [.str b] => if a.length ≤ 16777216 then some (.str (Txt.removeprefix a b)) else none
  | _, _ => none
theorem sim_rmPre : SimM K (fun x xs H Q => ∃ a b, x = .str a ∧ xs = [.str b] ∧ a.length ≤ sizeLine ∧ Q (.str (Txt.removeprefix a b)) H) rmPreD := by
  intro x xs z e G H u us i hu l Q q
  have bs := i
  have i := bs.i
  unfold rmPreD at e
  split at e
  · split at e
    · rename_i hl
      cases e; cases hu
      obtain ⟨w, ew, hw⟩ := atl1 l; subst ew; cases hw
      exact ⟨_, _, rfl, rfl, by rw [sizeLine_eq]; exact hl, q _ G H (PG.refl i) (.str _)⟩
    · cases e
  · cases e
/-! ### f'..' -/
def fmtD : D → Option D
  | .str y => if y.length ≤ 16777216 then some (.str y) else none
  | .int i => if i.natAbs.log2 < 1920 then some (.str (toString i)) else none
  | _ => none
def fFmt (a : FE) : FE := FM.bind (fV a) fun x => fR (fOf (fmtD x))
theorem sim_fmt (h : SimE K W te fa) : SimE K W (tFmt te) (fFmt fa) := fun P σ c G H Γ L s => by
  unfold fFmt
  refine Run.bind (R' := vrR) (t2 := fun x H1 Q => (∃ y : Str, x = V.str y ∧ y.length ≤ sizeLine ∧ Q (V.str y) H1) ∨ ∃ i : Int, x = V.int i ∧ i.natAbs.log2 < 1920 ∧ Q (V.str (toString i)) H1) s.iv (sim_val h P σ c G H Γ L s) fun x Γ1 u c1 G1 H1 L1 g1 s1 e1 r1 => ?_
  have r1 : At K G1 u x := r1
  refine run_of s1 fun z ez Q q => ?_
  cases r1 with
  | str y =>
    have ez : (if y.length ≤ 16777216 then some (D.str y) else none) = some z := ez
    split at ez
    · rename_i hy; cases ez; exact .inl ⟨y, rfl, by rw [sizeLine_eq]; exact hy, q _ G1 H1 (PG.refl s1.iv.i) (.str _)⟩
    · cases ez
  | int y =>
    have ez : (if y.natAbs.log2 < 1920 then some (D.str (toString y)) else none) = some z := ez
    split at ez
    · rename_i hy; cases ez; exact .inr ⟨y, rfl, hy, q _ G1 H1 (PG.refl s1.iv.i) (.str _)⟩
    · cases ez
  | _ => cases ez
inductive SimJ (K : PySem.W.Frag) (W : WX) : List TE → List FE → Prop
  | nil : SimJ K W [] []
  | cons {t : TE} {f : FE} {ts : List TE} {fs : List FE} : SimE K W t f → SimJ K W ts fs → SimJ K W (t :: ts) (f :: fs)
def fJs : List FE → Str → FM Str
  | [], acc => FM.pure acc
  | f :: fs, acc => FM.bind (fV f) fun x => match x with
    | .str y => if (acc ++ y).length ≤ 16777216 then fJs fs (acc ++ y) else fFail
    | _ => fFail
theorem sim_js : ∀ {ts : List TE} {fs : List FE}, SimJ K W ts fs → ∀ (acc : Str), SimX (eqR Str) K W (tJs ts acc) (fJs fs acc)
  | _, _, .nil, acc => fun P σ c G H Γ L s => Run.now (R := eqR Str) s rfl
  | _, _, .cons h hs, acc => fun P σ c G H Γ L s => by
    unfold fJs
    refine Run.bind (R' := eqR Str) (t2 := fun x H1 Q => ∃ y : Str, x = V.str y ∧ (acc ++ y).length ≤ sizeLine ∧ tJs _ (acc ++ y) σ H1 Q) s.iv (sim_val h P σ c G H Γ L s) fun x Γ1 u c1 G1 H1 L1 g1 s1 e1 r1 => ?_
    have r1 : At K G1 u x := r1
    intro r e Q post
    cases r1 with
    | str y =>
      have e : (if (acc ++ y).length ≤ 16777216 then fJs _ (acc ++ y) else fFail) Γ1 = some r := e
      split at e
      · rename_i hy
        exact ⟨y, rfl, by rw [sizeLine_eq]; exact hy, sim_js hs (acc ++ y) P σ c1 G1 H1 Γ1 L1 s1 r e Q post⟩
      · cases e
    | _ => cases e
def fJoined (fs : List FE) : FE := FM.bind (fJs fs Str.empty) fun z => FM.pure (.val (.str z))
theorem sim_joined {ts : List TE} {fs : List FE} (h : SimJ K W ts fs) : SimE K W (fun σ H Q => tJs ts Str.empty σ H fun out H1 => Q (.str out) H1) (fJoined fs) := fun P σ c G H Γ L s =>
  Run.bind (R' := vrR) (t2 := fun z H1 Q => Q (V.str z) H1) s.iv (sim_js h Str.empty P σ c G H Γ L s) fun z Γ1 b c1 G1 H1 L1 g1 s1 e1 r1 => by
    have e : b = z := r1
    subst e
    exact Run.now s1 (.str _)
/-! ### module dicts -/
def ixKD (nm : Str) (tb : List (Str × D)) : D → D → Option D
  | .cls n, .str z => if n = nm then tb.lookup z else none
  | _, _ => none
theorem sim_ixKD {w : World} {nm : Str} {tb : List (Str × D)} {p0 : Addr} (ct : CT K nm p0) (h : ∀ z d, tb.lookup z = some d → ∃ v, KDct K w p0 z v ∧ ∀ G, At K G v d) : SimR2 K (rIxD K w) (ixKD nm tb) := by
  intro x y z e G H u v i hu hv Q q
  have bs := i
  have i := bs.i
  unfold ixKD at e
  split at e
  · split at e
    · rename_i hn
      subst hn
      cases hu with
      | cls ct' =>
        have := ct'.one ct
        subst this
        cases hv
        obtain ⟨v, h1, h2⟩ := h _ _ e
        exact ⟨_, _, v, rfl, rfl, h1, q _ G H (PG.refl i) (h2 G)⟩
    · cases e
  · cases e
def rInKD (K : PySem.W.Frag) (d : Addr) : R2 := fun x y H Q => ∃ (z : Str) (r : Option Value), x = .str z ∧ y = .ref d ∧ PySem.W.nsIn K d z = some r ∧ Q (.bl r.isSome) H
def inKD (nm : Str) (tb : List (Str × D)) : D → D → Option D
  | .str z, .cls n => if n = nm then (tb.lookup z).map fun _ => .bl true else none
  | _, _ => none
theorem sim_inKD {nm : Str} {tb : List (Str × D)} {p0 : Addr} (ct : CT K nm p0) (h : ∀ z d, tb.lookup z = some d → ∃ v, PySem.W.nsIn K p0 z = some (some v)) : SimR2 K (rInKD K p0) (inKD nm tb) := by
  intro x y z e G H u v i hu hv Q q
  have bs := i
  have i := bs.i
  unfold inKD at e
  split at e
  · split at e
    · rename_i hn
      subst hn
      cases hv with
      | cls ct' =>
        have := ct'.one ct
        subst this
        cases hu
        simp only [Option.map_eq_some_iff] at e
        obtain ⟨d, ed, ez⟩ := e
        subst ez
        obtain ⟨v, h1⟩ := h _ _ ed
        exact ⟨_, _, rfl, rfl, h1, q _ G H (PG.refl i) (.bl _)⟩
    · cases e
  · cases e
/-! ### x in a text -/
def occ (a b : Str) : Bool := !(Builtin.Str.occurrences a b 0 a.length 1).isEmpty
def inSD : D → D → Option D
  | .str i, .str j => some (.bl (!(Builtin.Str.occurrences j i 0 j.length 1).isEmpty))
  | _, _ => none
theorem sim_inS : SimR2 K (fun x y H Q => ∃ i j, x = .str i ∧ y = .str j ∧ Q (.bl (!(Builtin.Str.occurrences j i 0 j.length 1).isEmpty)) H) inSD := by
  intro x y z e G H u v i hu hv Q q
  have bs := i
  have i := bs.i
  cases hu with
  | str a => cases hv with
    | str b => cases e; exact ⟨a, b, rfl, rfl, q _ G H (PG.refl i) (.bl _)⟩
    | _ => cases e
  | _ => cases e
/-! ### one's own == -/
def behind (cn : Str) (tb : ITab) (y : D) : Bool := match nmOf y with
  | some (.cls c) => decide (c = cn) || decide (lookI (.cls c) (.cls cn) tb = some false)
  | some a => decide (lookI a (.cls cn) tb = some false)
  | none => false
def inCs (cs : List Str) (y : D) : Bool := match nmOf y with
  | some (.cls c) => decide (c ∈ cs)
  | _ => true
def eqI (cs : List Str) (tb : ITab) (cn : Str) (F : FF) (neg : Bool) : D → D → Option D
  | .ins c gs, y => if c = cn ∧ behind cn tb y = true ∧ inCs cs y = true then (match F [.val (.ins c gs), .val y] with
    | some (.ok (.val (.bl b)) none) => some (.bl (neg != b))
    | _ => none) else none
  | _, _ => none
theorem not_first {C : Addr} {tv : Value} (h : PySem.W.kitOne K tv (.ref C) = some false) : PySem.W.notFirst K C tv = true := by
  unfold PySem.W.kitOne at h
  split at h
  · cases h
  · unfold PySem.W.kitCls at h
    dsimp only at h
    split at h
    · unfold PySem.W.notFirst; rw [h]; simp
    · cases h
theorem tyR_at {cs : List Str} {tb : ITab} (T : IsiT K cs tb) {cn : Str} {C : Addr} (ct : CT K cn C) {y : D} {v : V} (i : Ext G H) (h : At K G v y) (hb : behind cn tb y = true) (hc : inCs cs y = true) : ∃ tv, PySem.W.notFirst K C tv = true ∧ TyX K H v tv := by
  unfold behind at hb
  unfold inCs at hc
  cases en : nmOf y with
  | none => rw [en] at hb; cases hb
  | some a =>
    rw [en] at hb hc
    cases a with
    | ty n =>
      have hb : decide (lookI (.ty n) (.cls cn) tb = some false) = true := hb
      have hb := of_decide_eq_true hb
      obtain ⟨tv, h1, h2⟩ := ty_at T i h en (fun c z => by cases z)
      exact ⟨tv, not_first (T.kit _ (lookI_mem hb) tv (.ref C) h1 ⟨C, ct, rfl⟩), h2⟩
    | cls c =>
      have hc := of_decide_eq_true hc
      obtain ⟨tv, h1, h2⟩ := ty_at T i h en (fun c' z => by cases z; exact hc)
      refine ⟨tv, ?_, h2⟩
      have hb : (decide (c = cn) || decide (lookI (.cls c) (.cls cn) tb = some false)) = true := hb
      rcases Bool.or_eq_true_iff.mp hb with z | z
      · have z := of_decide_eq_true z
        subst z
        obtain ⟨C', ct', e⟩ := h1
        have := ct'.one ct
        subst this e
        unfold PySem.W.notFirst; simp
      · exact not_first (T.kit _ (lookI_mem (of_decide_eq_true z)) tv (.ref C) h1 ⟨C, ct, rfl⟩)
/-- what the right side's type is -/
def rOwnX (K : PySem.W.Frag) (C : Addr) (sp : Sp) (neg : Bool) : R2 := fun x y H Q => ∃ a dx fs, x = .ref a ∧ H a = some (.ins C dx fs) ∧ (∃ tb, PySem.W.notFirst K C tb = true ∧ TyX K H y tb) ∧ sp [x, y] H (fun v H' => ∃ c, v = .bl c ∧ Q (.bl (neg != c)) H') fun _ _ _ => False
theorem sim_eqI {cs : List Str} {tb : ITab} (T : IsiT K cs tb) {cn : Str} {C : Addr} {F : FF} {neg : Bool} (ct : CT K cn C) : SimR2 K (rOwn K C (spF K F) neg) (eqI cs tb cn F neg) := by
  intro x y z e G H u v i hu hv Q q
  have bs := i
  have i := bs.i
  unfold eqI at e
  split at e
  · rename_i c gs
    split at e
    · rename_i hc
      obtain ⟨h1, h2, h3⟩ := hc
      subst h1
      have l : AtL K G [u, v] [D.ins c gs, y] := .cons hu (.cons hv .nil)
      cases hu with
      | @ins p C' dx _ fs _ ct' hp _ =>
        have := ct'.one ct
        subst this
        cases eF : F [.val (.ins c gs), .val y] with
        | none => rw [eF] at e; cases e
        | some rf =>
          rw [eF] at e
          refine ⟨p, dx, fs, rfl, i _ _ hp, tyR_at T ct i hv h2 h3, G, fun _ => none, _, [], rf, bs.iv, arg_vals l, fun e he => (List.not_mem_nil he).elim, eF, ?_⟩
          cases rf with
          | ok w o =>
            cases w with
            | val d =>
              cases d with
              | bl b =>
                cases o with
                | none =>
                  cases e
                  intro u' c' G' H' g' iv' _ hr
                  cases hr
                  refine ⟨b, rfl, q _ G' H' (.ofGrow g' iv') (.bl _)⟩
                | some o => cases e
              | _ => cases e
            | _ => cases e
          | ex _ _ _ _ => cases e
    · cases e
  · cases e
end
section
variable {X : Cx} {n : Nat} {C f : Addr} {fd : FuncData} {ps : List Str} {sp : Sp}
theorem rOwnX_to {neg : Bool} {x y : V} {H : Hp} {Q : VK} (h : rOwnX X.K C sp neg x y H Q) : ∃ a dx fs, x = .ref a ∧ H a = some (.ins C dx fs) ∧ (∃ tb, PySem.W.notFirst X.K C tb = true ∧ TyX X.K H y tb) ∧ sp [x, y] H (fun v H' => ∃ c, v = .bl c ∧ Q (.bl (neg != c)) H') fun _ _ _ => False := h
end
end DF

set_option linter.all false
set_option maxRecDepth 100000
set_option maxHeartbeats 4000000
namespace DF
open PySem PySem.Spec PyProof.Rows L2
variable [TbC]
theorem units128 {A : Around} {k : Nat} (hr : Room k A) : A.units + 128 < cLine := by have := hr.un; omega
theorem units64 {A : Around} {k : Nat} (hr : Room k A) : A.units + 64 < cLine := by have := hr.un; omega
/-! ### defs that may ask repr: nothing is being shown around them -/
structure FnG (P : Program) (w : World) (K : PySem.W.Frag) (mg : Str → Option Value) (base : Heap) (CX : CXT) (k : Nat) (f : Addr) (fd : FuncData) (ps : List Str) (sp : Sp) : Prop where
  len : ∀ vs H Q E, sp vs H Q E → vs.length = ps.length
  run : ∀ (A : Around) (out : List Env) (s : Shared) (H : Hp) (ar : Args) (us : List Value) (vs : List V) (Q : VK) (E : XK), Room k A → A.guards = some [] → Env0 P w K mg base A out s H → BindsTo s fd ar (ps.zip us) → Vals vs us → sp vs H Q E →
    codeAny (model P w) A (.call (.ref f) ar) (CR CX out P w H s Q E) s
section
variable {P : Program} {w : World} {K : PySem.W.Frag} {mg : Str → Option Value} {base : Heap}
/-- such a def by its body, as a term of rules and its reading -/
theorem okG {x q : Str} {st : Stmt} {f : Addr} {fd : FuncData} {N ps : List Str} {k : Nat} {sp : Sp} (F : Fun K x q st f fd) (S : FnScope N ps (defScope st)) (len : ∀ vs H Q E, sp vs H Q E → vs.length = ps.length)
    (body : ∀ (cd : Value) (A : Around) (out : List Env) (s : Shared) (H : Hp) (vs : List V) (Q : VK) (E : XK), Room k (A.deeper (envOfC q (defScope st) s.heap.objs.size f cd)) → A.guards = some [] → sp vs H Q E →
      ∃ t, PSs (cxOf CX0 P w K mg base N q (defScope st) f cd A out s H E).nox (defBody st) t ∧ t { nx := fun _ H' => Q .non H', rt := Q } (start N vs) H) : FnG P w K mg base CX0 (k + 1) f fd ps sp := by
  obtain ⟨_, _, _, _, _, _, cd, _, _, rfl, at_f, code⟩ := F.ex
  constructor
  · exact len
  intro A out s H ar us vs Q E room calm e0 bind vals want
  have old : ∀ b o, base.get? b = some o → s.heap.get? b = some o := fun b o e => (e0.bs b o e).1
  have inK := e0.mod.kin.keeps old
  have slots : ∀ y ∈ ps.zip us, (defScope st).names.lookup y.1 = some .local ∨ ((defScope st).names.lookup y.1 = some .cell ∧ ((cellsFrom (s.heap.objs.size + 1) (defScope st).names []).lookup y.1).isSome = true) := by
    rintro ⟨y, v⟩ hy
    exact (S.par y (List.of_mem_zip hy).1).elim .inl fun c => .inr ⟨c, PySem.W.cellsFrom_some _ _ _ (.inl c)⟩
  refine codeAny_call_function room.depth (inK _ _ at_f) rfl S.co S.gen rfl (PySem.W.codeRec_of inK code) (bind _ _ _ _ (wpAny_newFunctionEnv_cells S.kind slots ?_))
  rintro env rfl s1 made
  refine ⟨(e0.mod.nolimit.keeps old).keeps made.toInCall.keep, codeAny_func ?_⟩
  obtain ⟨t, rules, reading⟩ := body cd A out s H vs Q E (room.deeper _) calm want
  have inv := inv_start (CX := CX0) (E := E) S room.hd e0 (len _ _ _ _ want) vals made
  refine wpAny_mono (rules.nox.run [] s1 (start N vs) H _ inv reading) ?_ fun _ _ z => z
  intro fl s2 z
  match fl, z with
  | .ret u, ⟨v, _, H2, J, rel, q⟩ => exact ⟨v, H2, J.os, J.bare, J.base, J.hok, rel, q⟩
  | .next, ⟨_, H2, J, q⟩ => exact ⟨V.non, H2, J.os, J.bare, J.base, J.hok, rfl, q⟩
  | .brk, ⟨_, _, _, q⟩ => exact q.elim
  | .cont, ⟨_, _, _, q⟩ => exact q.elim
end
section
variable {X : Cx} {k : Nat} {f : Addr} {fd : FuncData} {ps : List Str} {sp : Sp} {x : Str} {p pos : Pos} {e : Expr} {es : List Expr} {t : TA}
/-- f(e, ..), every parameter given -/
theorem pe_callG (F : FnG X.prog X.w X.K X.mg X.base CX0 k f fd ps sp) (room : Room k X.A) (calm : X.A.guards = some []) (hg : Gl X x) (hm : X.mg x = some (.ref f)) (hk : PySem.W.keepIn X.K (.ref f) = true) (hb : Binds X.K fd ps [])
    (ha : PA X (e :: es) t) (hdb : (x == ("__debug__" : Str)) = false := by decide) (he : starEach (e :: es) X.env = (false, eval e X.env) :: starEach es X.env := by rfl) (hpl : (backTo pos (starEach es X.env)).any (·.1) = false := by rfl) :
    PE X (.Call (.Name x p) (e :: es) [] pos) (tCall sp [] E0 t) := by
  constructor
  intro pins s σ H Q I reading
  refine wpAny_Call_Name_kw (ld_glob I hg hm (PySem.W.callWith_K (h₀ := X.base) I.ok.mod.kin hk (thn (ha.run pos pins s σ H _ I reading) ?_) he hpl) hdb)
  rintro us s1 ⟨vs, H1, I1, vals, want⟩
  refine ⟨I1.kIn, ?_⟩
  rw [List.append_nil] at want
  have bind : BindsTo s1 fd ⟨us, []⟩ (ps.zip us) := by
    have := hb s1 us I1.kIn (by rw [List.append_nil, ← vals.length]; exact F.len _ _ _ _ want)
    rwa [List.append_nil] at this
  refine wpAny_call (codeAny_mono (F.run X.A X.stack s1 H1 _ _ _ Q E0 room calm I1.env0 bind vals want) ?_)
  intro r s2 z
  match r, z with
  | .error _, z => exact z.elim
  | .ok (.ret _), z => exact I1.after z
end
/-- f(k = v, ..): keywords alone -/
theorem pe_callN0 {X : Cx} {CX : CXT} {k : Nat} {f : Addr} {fd : FuncData} {ps ks : List Str} {sp : Sp} {E : XK} {x : Str} {p pos : Pos} {kws : List Keyword} {tk : TA} {g : List Value → List Value → List Value} {gV : List V → List V → List V}
    (F : FnOk X.prog X.w X.K X.mg X.base CX k f fd ps sp) (hr : Room k X.A) (hg : Gl X x) (hm : X.mg x = some (.ref f)) (hk : PySem.W.keepIn X.K (.ref f) = true) (hb : KBn X.K fd ps 0 ks g gV) (hx : Passes CX X E)
    (hkw : PK X kws tk) (hall : (backToKw pos (keywordEach kws X.env)).all (·.1.isSome) = true := by rfl) (hks : (backToKw pos (keywordEach kws X.env)).filterMap (·.1) = ks := by rfl)
    (hdb : (x == ("__debug__" : Str)) = false := by decide)
    (hpl : ((backTo pos (starEach [] X.env)).any (·.1) || (backToKw pos (keywordEach kws X.env)).any (·.1.isNone)) = false := by rfl) :
    PE X (.Call (.Name x p) [] kws pos) (tCallN 0 ks.length sp gV E tNil tk) := by
  refine ⟨fun pins s σ H Q I h => ?_⟩
  refine wpAny_Call_Name_kw (ld_glob I hg hm ?_ hdb)
  refine PySem.W.callWith_KW0 (h₀ := X.base) I.ok.mod.kin hk hall ?_ hpl
  refine thn (hkw.run pos pins s σ H _ I h) fun ws s2 ⟨zs, H2, I2, rz, l1, l2, q2⟩ => ⟨I2.kIn, ?_⟩
  rw [hks]
  exact run_fnN (us := []) (vs := []) F hr hb hx I2 .nil rz rfl l2 q2


/-! rules with K told, for nested comprehensions -/
section
variable {X : Cx} {K : PySem.W.Frag}
theorem pi_anyK (hK : X.K = K) {tg l : Expr} {tl : TE} (hl : PE X l tl) : PI X tg l (iAny K tl) := by subst hK; exact pi_any hl
theorem pe_bmK (hK : X.K = K) {T id : String} {name : Str} {o e : Expr} {es : List Expr} {to : TE} {t : TA} {apos cpos : Pos} {r : V → List V → Hp → VK → Prop} (pa : PlainAttrs T) (slot : Slot T name id) (hty : typeOf (.builtin id) = pure (.type "method_descriptor")) (hm : MtR X id r) (ho : PE X o to) (ha : PA X (e :: es) t)
    (hbase : attributeBase o name X.env (eval o X.env) = eval o X.env := by rfl)
    (hfew : ((backTo cpos (starEach (e :: es) X.env)).all (fun x => !x.1) && (backToKw cpos (keywordEach [] X.env)).all (fun x => x.1.isSome)
      && decide ((e :: es).length + ([] : List Keyword).length + (if ([] : List Keyword).isEmpty then 0 else 1) < 30)) = true := by rfl)
    (hline : (apos.endLine == cpos.line) = true := by rfl) (hs : starEach (e :: es) X.env = (false, eval e X.env) :: starEach es X.env := by rfl) (hplain : (backTo cpos (starEach es X.env)).any (·.1) = false := by rfl) :
    PE X (.Call (.Attribute o name apos) (e :: es) [] cpos) (tBM K T r to t) := by subst hK; exact pe_bm pa slot hty hm ho ha hbase hfew hline hs hplain
theorem pe_bm0K (hK : X.K = K) {T id : String} {name : Str} {o : Expr} {to : TE} {apos cpos : Pos} {r : V → List V → Hp → VK → Prop} (pa : PlainAttrs T) (slot : Slot T name id) (hty : typeOf (.builtin id) = pure (.type "method_descriptor")) (hm : MtR X id r) (ho : PE X o to)
    (hbase : attributeBase o name X.env (eval o X.env) = eval o X.env := by rfl) (hline : (apos.endLine == cpos.line) = true := by rfl) : PE X (.Call (.Attribute o name apos) [] [] cpos) (tBM0 K T r to) := by subst hK; exact pe_bm0 pa slot hty hm ho hbase hline
theorem pt_truthK (hK : X.K = K) {a : Expr} {ta : TE} (ha : PE X a ta) (he : ∀ whole, isTrue a X.env whole = (do let v ← whole; standAt a.pos; holding [v] (truthy v))) : PT X a (tTru K ta) := by subst hK; exact pt_truth ha he
theorem pe_fldK (hK : X.K = K) {o : Expr} {to : TE} {f : Str} {pos : Pos} (ho : PE X o to) (hb : attributeBase o f X.env (eval o X.env) = eval o X.env) : PE X (.Attribute o f pos) (tFld K to f) := by subst hK; exact pe_fld ho hb
theorem join_K (hK : X.K = K) : MtR X "str.join" (rJoin K) := by subst hK; exact mt_join
theorem isi_K (hK : X.K = K) : CallR X (.builtin "isinstance") (rIsi K) := by subst hK; exact call_isi
theorem len_K (hK : X.K = K) : CallR X (.builtin "len") (rLen K) := by subst hK; exact call_len
theorem tupOf_K (hK : X.K = K) : CallR X (.type "tuple") (rTupOf K) := by subst hK; exact call_tuple_of
theorem lstOf_K (hK : X.K = K) : CallR X (.type "list") (rLstOf K) := by subst hK; exact call_list_of
theorem all_K (hK : X.K = K) (hc : X.calm = true) : CallR X (.builtin "all") (rAll K) := by subst hK; exact cr_all hc
theorem any_K (hK : X.K = K) (hc : X.calm = true) : CallR X (.builtin "any") (rAny K) := by subst hK; exact cr_any hc
theorem sum_K (hK : X.K = K) (hc : X.calm = true) : CallR X (.builtin "sum") (rSum K) := by subst hK; exact cr_sum hc
theorem repr_K (hK : X.K = K) (hg : X.A.guards = some []) (hu : X.A.units + 128 < cLine) : CallR X (.builtin "repr") (rReprU K) := by subst hK; exact call_reprU hg hu
theorem add_K (hK : X.K = K) : OpR X (binaryOp .Add) (rAddU K) := by subst hK; exact op_addU
theorem mul_K (hK : X.K = K) : OpR X (binaryOp .Mult) (rMulU K) := by subst hK; exact op_mulU
theorem eq_K (hK : X.K = K) (hu : X.A.units + 64 < cLine) : OpR X (compareOp .Eq) (rEqU K) := by subst hK; exact op_eqU hu
theorem ne_K (hK : X.K = K) (hu : X.A.units + 64 < cLine) : OpR X (compareOp .NotEq) (rNeU K) := by subst hK; exact op_neU hu
theorem sl_K (hK : X.K = K) : SlR X (rSlU K) := by subst hK; exact sl_U
theorem ix_K (hK : X.K = K) : IxR X (rIx K) := by subst hK; exact ix_seq
theorem eqI_K {n : Nat} {C f : Addr} {fd : FuncData} {ps : List Str} {sp : Sp} (hK : X.K = K) (T : EqC X.K C f) (F : FnOk X.prog X.w X.K X.mg X.base CX0 n f fd ps sp) (hb : Binds X.K fd ps []) (hr : Room n X.A) : OpR X (compareOp .Eq) (rOwn K C sp false) := by subst hK; exact op_eqI T F hb hr
theorem neI_K {n : Nat} {C f : Addr} {fd : FuncData} {ps : List Str} {sp : Sp} (hK : X.K = K) (T : EqC X.K C f) (F : FnOk X.prog X.w X.K X.mg X.base CX0 n f fd ps sp) (hb : Binds X.K fd ps []) (hr : Room (n + 1) X.A) : OpR X (compareOp .NotEq) (rOwn K C sp true) := by subst hK; exact op_neI T F hb hr
theorem inKD_K {w : World} {d : Addr} {es : Array DictEntry} {n : Nat} (hK : X.K = K) (hw : X.w = w) (Dd : KDict K w d es n) : OpR X (compareOp .In) (rInKD K d) := by
  subst hK hw
  exact op_in_kd Dd
theorem ixKD_K {w : World} (hK : X.K = K) (hw : X.w = w) : IxR X (rIxD K w) := by subst hK hw; exact ix_kdict
theorem setL_K : PSet X rSetL := set_list
end
/-! ### the end -/
section
variable {P : Program} {w : World} {K : PySem.W.Frag} {mg mb : Str → Option Value} {k : Nat} {fa a : Addr} {fd : FuncData} {x : Str} {s : Shared} {vs : List Value} {ns : List Int}
/-- the law, called on a heap of which the abstract heap H tells the script alone (or nothing) -/
theorem start_at (hT : TbC.T = []) (hZ : ∀ G H, TbC.Z G H) (KX : K.In s.heap) (hns : s.heap.Ns mainGlobals mg) (hb : s.heap.Ns builtinsNs mb) (hbb : ∀ x : Str, x ≠ "__name__" → mb x = bootBuiltins x) (hlim : s.heap.NoLimit) (hg : s.gens = #[])
    (ha : s.heap.get? a = some { cls := .type "list", data := .seq vs.toArray }) (hl : ns.length ≤ 63) (hr : Room k callerA)
    {FF0 : FF} (hF0 : ∀ ns : List Int, ns.length ≤ 63 → FF0 [.val (.scr ns)] = some (.ok (.val (.bl true)) none)) (F : ∀ base : Heap, K.In base → base.Ns mainGlobals mg → FnG P w K mg base CX0 k fa fd [x] (spF K FF0)) (hbind : ∀ (s : Shared) (u : Value), BindsTo s fd ⟨[u], []⟩ [(x, u)])
    (H : Hp) (hok : HOk P w H s.heap) (hA : ∀ b, H b ≠ none → b = a) (hK : H a ≠ none → K.lookup a = none) (hf : ∀ b o, H b = some o → ∃ ob, o = .frz ob (.lst (ns.map V.int))) (hS : Sc K H a ns) :
    codeAny (model P w) callerA (.call (.ref fa) ⟨[.ref a], []⟩) (fun r s' => r = .ok (.ret (.bool true)) ∧ OldK s.heap s'.heap ∧ s'.os = s.os ∧ AllBare s'.gens) s := by
  have free : ∀ b, b ≠ a → H b = none := fun b hne => Classical.byContradiction fun z => hne (hA b z)
  -- what is no list like the script stays in the hidden heap
  have kept : ∀ {b : Addr} {o : Obj}, s.heap.get? b = some o → (∀ es ep, o.data ≠ .dict es ep → True) → (b = a → H a = none) → (hidT s.heap H).get? b = some o := fun {b o} e _ z => by
    refine hidT_get e ?_
    by_cases hba : b = a
    · rw [hba]; exact z hba
    · exact free b hba
  have isdict : ∀ {b : Addr} {m : Str → Option Value}, s.heap.Ns b m → (hidT s.heap H).Ns b m := fun {b m} hN => by
    obtain ⟨o, es, ep, e, d, rest⟩ := hN
    refine ⟨o, es, ep, kept e (fun _ _ _ => trivial) (fun hba => ?_), d, rest⟩
    rw [hba, ha] at e
    cases Option.some.inj e
    cases d
  have inB : K.In (hidT s.heap H) := fun b o e => kept (KX b o e) (fun _ _ _ => trivial) fun hba => Classical.byContradiction fun z => by
    rw [hba, hK z] at e
    cases e
  have md : Mod K mg (hidT s.heap H) := ⟨inB, isdict hns, ⟨mb, isdict hb, hbb⟩, by obtain ⟨mc, q1, q2⟩ := hlim; exact ⟨mc, isdict q1, q2⟩⟩
  have e0 : Env0 P w K mg (hidT s.heap H) callerA [] s H :=
    ⟨rfl, md, fun _ _ e => of_hidT e, Nat.le_of_eq (hidT_size _ _), trivial, fun _ hb => (List.not_mem_nil hb).elim, hok, .of_eq hg⟩
  have prom : spF K FF0 [.ref a] H (fun v _ => v = .bl true) (fun _ _ _ => False) :=
    ⟨H, fun _ => none, [.val (.scr ns)], [], _, (⟨Ext.rfl', fun b ps e => (by obtain ⟨ob, z⟩ := hf b _ e; cases z), fun x hx => (by rw [hT] at hx; cases hx), hZ _ _⟩ : Bs H H).iv, .val (.scr hS) .nil, fun e he => (List.not_mem_nil he).elim, hF0 ns hl, fun u c' G' H' _ _ _ t => by cases t; rfl⟩
  have run := (F _ inB (isdict hns)).run callerA [] s H ⟨[.ref a], []⟩ [.ref a] [.ref a] _ _ hr rfl e0 (hbind s (.ref a)) (.cons rfl .nil) prom
  refine codeAny_mono run fun r s' z => ?_
  match r, z with
  | .error e, z => exact z.elim
  | .ok (.ret u), z =>
    obtain ⟨v, H', os, bare, un, hok', rv, q⟩ := z
    subst q
    cases (show u = Value.bool true from rv)
    refine ⟨rfl, OldK.of_keep fun b o e => ?_, os, bare⟩
    cases q : H b with
    | none => exact un.keep b o e q (fun y => (List.not_mem_nil y).elim) (List.not_mem_nil)
    | some u =>
      obtain ⟨ob, eu⟩ := hf b u q
      subst eu
      have after := hok' b _ (un.frzs b ob _ q)
      have before := hok b _ q
      have : some o = some ob := e.symm.trans before.1
      cases this
      exact after.1
theorem start_law (hT : TbC.T = []) (hZ : ∀ G H, TbC.Z G H) (KX : K.In s.heap) (hns : s.heap.Ns mainGlobals mg) (hb : s.heap.Ns builtinsNs mb) (hbb : ∀ x : Str, x ≠ "__name__" → mb x = bootBuiltins x) (hlim : s.heap.NoLimit) (hg : s.gens = #[])
    (ha : s.heap.get? a = some { cls := .type "list", data := .seq vs.toArray }) (hi : IntsAre vs ns) (hl : ns.length ≤ 63) (hr : Room k callerA)
    {FF0 : FF} (hF0 : ∀ ns : List Int, ns.length ≤ 63 → FF0 [.val (.scr ns)] = some (.ok (.val (.bl true)) none)) (F : ∀ base : Heap, K.In base → base.Ns mainGlobals mg → FnG P w K mg base CX0 k fa fd [x] (spF K FF0)) (hbind : ∀ (s : Shared) (u : Value), BindsTo s fd ⟨[u], []⟩ [(x, u)]) :
    codeAny (model P w) callerA (.call (.ref fa) ⟨[.ref a], []⟩) (fun r s' => r = .ok (.ret (.bool true)) ∧ OldK s.heap s'.heap ∧ s'.os = s.os ∧ AllBare s'.gens) s := by
  have rv := vals_ints hi
  have line : ns.length ≤ sizeLine := Nat.le_trans hl (by decide)
  cases hk : K.lookup a with
  | some o =>
    have e := KX a o hk
    rw [ha] at e
    cases Option.some.inj e
    refine start_at hT hZ KX hns hb hbb hlim hg ha hl hr hF0 F hbind (fun _ => none) (fun b u z => by cases z) (fun b z => absurd rfl z) (fun z => absurd rfl z) (fun b o z => by cases z) (.inr fun H' => .inr ⟨_, vs.toArray, _, hk, rfl, rfl, rfl, ?_, by simpa using rv⟩)
    rw [List.size_toArray, hi.length]
    exact line
  | none =>
    let T : HO := .frz { cls := .type "list", data := .seq vs.toArray } (.lst (ns.map V.int))
    have at_a : (fun b => if b = a then some T else none) a = some T := if_pos rfl
    refine start_at hT hZ KX hns hb hbb hlim hg ha hl hr hF0 F hbind (fun b => if b = a then some T else none) (fun b u z => ?_) (fun b z => ?_) (fun _ => hk) (fun b o z => ?_) (.inl ⟨_, at_a⟩)
    · have z : (if b = a then some T else none) = some u := z
      by_cases hba : b = a
      · rw [if_pos hba] at z
        cases Option.some.inj z
        subst hba
        exact ⟨ha, by rw [List.length_map]; exact line, vs, _, rv, ha⟩
      · rw [if_neg hba] at z; cases z
    · exact Classical.byContradiction fun hba => z (if_neg hba)
    · have z : (if b = a then some T else none) = some o := z
      by_cases hba : b = a
      · rw [if_pos hba] at z
        exact ⟨_, (Option.some.inj z).symm⟩
      · rw [if_neg hba] at z; cases z
end
/-- what the head leaves of a law, from its def's promise -/
theorem walkG {FF0 : FF} (hT : TbC.T = []) (hZ : ∀ G H, TbC.Z G H) (hF0 : ∀ ns : List Int, ns.length ≤ 63 → FF0 [.val (.scr ns)] = some (.ok (.val (.bl true)) none)) {l : PySem.W.OpenLaw} {k : Nat} {q : Program} {loose : List Str} {XP : (Str → Option Value) → Heap → Prop} {YP : World → Heap → Prop} {d : DefRec} {K : Params → PySem.W.Frag} {x : Str}
    (hn : l.most = some 63) (hdf : d.params.defaults = []) (hr : Room k callerA) (hY : ∀ (w : World) (h : Heap), YP w h → (K w.params).In h)
    (F : ∀ (w : World) (mg : Str → Option Value) (fa : Addr) (h : Heap), (K w.params).In h → h.Ns mainGlobals mg → mg d.name = some (.ref fa) →
      ∃ fd : FuncData, (∀ (s : Shared) (u : Value), BindsTo s fd ⟨[u], []⟩ [(x, u)]) ∧ ∀ base : Heap, (K w.params).In base → base.Ns mainGlobals mg → FnG l.prog w (K w.params) mg base CX0 k fa fd [x] (spF (K w.params) FF0)) :
    PySem.W.WalkO q loose XP YP l.row.toRowW d [] (fun f vs => PySem.call f vs) := by
  refine Att.attach_call hn hdf fun w s₀ s₁ mg mb fa o pm cd doc a vs ns G Y ho hd hcd hmg hobj hints hlen hg => ?_
  obtain ⟨fd, hbd, hF⟩ := F w mg fa _ (hY w _ Y) G.T.g hmg
  exact start_law hT hZ (hY w _ Y) G.T.g G.T.b G.T.builtins G.T.nolimit hg hobj hints hlen hr hF0 hF hbd
end DF

set_option linter.all false
set_option maxRecDepth 100000
set_option maxHeartbeats 4000000
namespace DF
open PySem PySem.Spec PyProof.Rows L2
variable [TbC]
/-- only what ends well -/
def okF (F : FF) : FF := fun as => match F as with
  | some (.ok v o) => some (.ok v o)
  | _ => none
abbrev W0 : WX := fun _ _ _ _ => False
theorem hE0 {E : XK} : ∀ cls d σ H, W0 cls d σ H → E cls d H := fun _ _ _ _ h => h.elim
section
variable {K : PySem.W.Frag} {G G' H H' H0 H1 G1 : Hp} {P : List Addr} {σ σ' : L2.St} {Γ Γ' Γ1 : EnvF} {L L' L1 : List (Addr × OD)} {c c' c1 : Ow} {W : WX}
variable {ta tb te to ti : TE} {t tr tk : TA} {fa fb fc fe fo fi : FE} {fs fr fk : FA} {tt tu : TT} {ft fu : FT} {E : XK} {ts tw : TS} {fS fT : FS}
theorem okF_some {F : FF} {as : List Sl} {r : RF} (e : okF F as = some r) : ∃ v o, r = .ok v o ∧ F as = some (.ok v o) := by
  unfold okF at e
  cases eF : F as with
  | none => rw [eF] at e; cases e
  | some x =>
    rw [eF] at e
    cases x with
    | ok v o => cases e; exact ⟨v, o, rfl, rfl⟩
    | ex _ _ _ _ => cases e
theorem body_O {k : Nat} {fS : FS} {ts : TS} {Ns : List Str} {vs : List V} {Q : VK} {E : XK} (h : spF K (okF (defF k Ns.length fS)) vs H Q E) (sim : SimS K W0 ts fS) : ts { nx := fun _ H' => Q .non H', rt := Q } (start Ns vs) H := by
  obtain ⟨G, c, as, L, r, iv, ar, ow, er, post⟩ := h
  obtain ⟨v0, o0, er0, er1⟩ := okF_some er
  clear er
  subst er0
  have er := er1
  clear er1
  have hnd : (L.map (·.1)).Nodup := by
    rcases ar.one with ⟨h, _⟩ | ⟨p, o, h, _⟩ <;> subst h <;> simp
  have hP : ∀ e ∈ L, (L.map (·.1))[0]? = some e.1 := by
    rcases ar.one with ⟨h, _⟩ | ⟨p, o, h, _⟩ <;> subst h <;> simp
  have s0 : Sta K (L.map (·.1)) c G H (start Ns vs) (as ++ List.replicate (Ns.length - as.length) .no) L := by
    refine ⟨?_, hnd, ow, iv, fun p hp => ?_⟩
    · unfold L2.start
      rw [ar.length]
      exact ar.env _ hP
    · obtain ⟨e, he, ee⟩ := List.mem_map.mp hp
      rw [← ee]; exact (iv.ow _ _ (ow e he)).2.some
  unfold defF at er
  split at er
  · have hs := sim _ _ _ _ _ _ _ s0
    unfold RunS at hs
    cases ef : fS (as ++ List.replicate (Ns.length - as.length) .no) with
    | none => rw [ef] at er; cases er
    | some r0 =>
      rw [ef] at er
      refine hs r0 ef _ ?_
      cases r0 with
      | ok fl Γ' =>
        cases fl with
        | nx =>
          simp only [Option.map_eq_some_iff] at er
          obtain ⟨oo, eo, e2⟩ := er
          cases e2
          refine ⟨fun Γ2 e2 σ' c' G' H' L' g s n => ?_, fun _ e2 => (by cases e2), fun _ e2 => (by cases e2), fun _ _ e2 => (by cases e2), fun _ _ _ _ e2 => (by cases e2)⟩
          cases e2
          exact post .non c' G' H' g s.iv (endO_at ar s eo) .non
        | rt v =>
          cases v with
          | val d =>
            simp only [Option.map_eq_some_iff] at er
            obtain ⟨oo, eo, e2⟩ := er
            cases e2
            refine ⟨fun _ e2 => (by cases e2), fun _ e2 => (by cases e2), fun _ e2 => (by cases e2), fun v Γ2 e2 u σ' c' G' H' L' g s n t => ?_, fun _ _ _ _ e2 => (by cases e2)⟩
            cases e2
            exact post u c' G' H' g s.iv (endO_at ar s eo) t
          | own x =>
            simp only [Option.map_eq_some_iff] at er
            obtain ⟨oo, eo, e2⟩ := er
            cases e2
            refine ⟨fun _ e2 => (by cases e2), fun _ e2 => (by cases e2), fun _ e2 => (by cases e2), fun v Γ2 e2 u σ' c' G' H' L' g s n t => ?_, fun _ _ _ _ e2 => (by cases e2)⟩
            cases e2
            obtain ⟨p, h1, h2, h3, h4⟩ := t
            refine post u c' G' H' g s.iv (endO_at ar s eo) ⟨p, h1, h2, fun z => ?_, h4⟩
            obtain ⟨e, he, ee⟩ := List.mem_map.mp z
            have := (iv.ow _ _ (ow e he)).2.some
            rw [ee] at this
            exact this h4
          | slot i => cases er
        | bk => cases er
        | ct => cases er
      | ex cn f d Γ' =>
        simp only [Option.map_eq_some_iff] at er
        obtain ⟨oo, eo, e2⟩ := er
        cases e2
  · cases er
theorem len_O {k n : Nat} {fS : FS} {vs : List V} {Q : VK} {E : XK} (h : spF K (okF (defF k n fS)) vs H Q E) : vs.length = k := by
  obtain ⟨G, c, as, L, r, iv, ar, ow, er, post⟩ := h
  obtain ⟨v0, o0, er0, er1⟩ := okF_some er
  clear er
  have er := er1
  unfold defF at er
  split at er
  · rename_i hk; rw [ar.length]; exact hk
  · cases er
/-- tests: a chain of and, or -/
theorem sim_trI {r : List V → Hp → VK → Prop} {f : List D → Option D} (hr : SimC K r f) (ha : SimA K W t fs) : SimE K W (tCB r t) (fCB f fs) := sim_cb hr ha
/-- str of an instance -/
def strI (cn : Str) (F : FF) : FE → FE := fun a => FM.bind (fV a) fun x => match x with
  | .ins c gs => if c = cn then (match F [.val (.ins c gs)] with
    | some (.ok (.val (.str z)) none) => FM.pure (.val (.str z))
    | _ => fFail) else fFail
  | _ => fFail
def strID (cn : Str) (F : FF) : List D → Option D
  | [.ins c gs] => if c = cn then (match F [.val (.ins c gs)] with
    | some (.ok (.val (.str z)) none) => some (.str z)
    | _ => none) else none
  | _ => none
theorem sim_strI {cn : Str} {C : Addr} {F : FF} (ct : CT K cn C) : SimC K (rStrI C (spF K F)) (strID cn F) := by
  intro xs z e G H us i l Q q
  have bs := i
  have i := bs.i
  unfold strID at e
  split at e
  · rename_i c gs
    split at e
    · rename_i hc
      subst hc
      have l0 := l
      obtain ⟨u, eu, hu⟩ := atl1 l
      subst eu
      cases hu with
      | @ins p C' dx _ fs _ ct' hp _ =>
        have := ct'.one ct
        subst this
        cases eF : F [.val (.ins c gs)] with
        | none => rw [eF] at e; cases e
        | some rf =>
          rw [eF] at e
          refine ⟨p, dx, fs, rfl, i _ _ hp, G, fun _ => none, _, [], rf, bs.iv, arg_vals l0, fun e he => (List.not_mem_nil he).elim, eF, ?_⟩
          cases rf with
          | ok w o =>
            cases w with
            | val d =>
              cases d with
              | str b =>
                cases o with
                | none =>
                  cases e
                  intro u' c' G' H' g' iv' _ hr
                  cases hr
                  exact ⟨b, rfl, q _ G' H' (.ofGrow g' iv') (.str _)⟩
                | some o => cases e
              | _ => cases e
            | _ => cases e
          | ex _ _ _ _ => cases e
    · cases e
  · cases e
end
end DF

set_option linter.all false
set_option maxRecDepth 100000
set_option maxHeartbeats 4000000
namespace DF
open PySem PySem.Spec PyProof.Rows L2
variable [TbC]
abbrev orD (f g : D → D → Option D) : D → D → Option D := fun x y => match f x y with | some z => some z | none => g x y
abbrev orC (f g : List D → Option D) : List D → Option D := fun xs => match f xs with | some z => some z | none => g xs
/-! ### texts backwards -/
def revS (z : Str) : Str := ⟨z.cps.toList.reverse.toArray⟩
def repS (z : Str) (k : Int) : Str := ⟨(List.replicate k.toNat z.cps).foldl (· ++ ·) #[]⟩
def tRevS (te : TE) : TE := fun σ H Q => te σ H fun x H1 => ∃ z, x = .str z ∧ z.length ≤ sizeLine ∧ Q (.str (revS z)) H1
section
variable {X : Cx}
theorem pe_revS {e : Expr} {te : TE} {k : Nat} {p1 p2 p3 pos : Pos} (he : PE X e te) : PE X (.Subscript e (.Slice none none (some (.UnaryOp .USub (.Constant (.int 1) k p1) p2)) p3) pos) (tRevS te) := by
  refine PE.mk fun pins s σ H Q I h => ?_
  refine Subscript_ (thn (he.run pins s σ H _ I h) fun v sa ⟨x, Ha, Ja, rv, qv⟩ => ?_)
  obtain ⟨z, ex, hz, q⟩ := qv
  subst ex
  obtain ⟨t, rfl⟩ := rv
  have hstep : PO X (some (.UnaryOp .USub (.Constant (.int 1) k p1) p2)) 
      (tPart (tUn (rU fun i => .int (-i)) (tC (.int 1)))) := po_some (pe_un un_neg pe_int)
  refine wpAny_Slice (thn (po_none.run pins sa σ Ha (fun o Hb => o = none ∧ Hb = Ha) Ja ⟨rfl, rfl⟩) fun wlo sb ⟨l, Hb, Jb, plo, elo, ea⟩ => ?_)
  subst elo ea
  refine thn (po_none.run pins sb σ Hb (fun o Hc => o = none ∧ Hc = Hb) Jb ⟨rfl, rfl⟩) fun whi sc ⟨u, Hc, Jc, phi, ehi, ec⟩ => ?_
  subst ehi ec
  refine thn (hstep.run pins sc σ Hc (fun o Hd => o = some (-1) ∧ Hd = Hc) Jc ⟨1, rfl, -1, rfl, rfl, rfl⟩) fun wst sd ⟨o, Hd, Jd, pst, est, ed⟩ => ?_
  subst est ed
  have Je : L2.Inv X pins σ Hd { sd with heap := sd.heap.push { cls := .type "slice", data := .fields #[wlo, whi, wst] } } := Jd.kept (t' := sd.toks) fun b ob q => Heap.get?_push_of_some _ q
  show wpAny (model X.prog X.w) X.A (subscriptTail e (.Slice none none (some (.UnaryOp .USub (.Constant (.int 1) k p1) p2)) p3) (.str z t) (.ref sd.heap.objs.size)) (EP X pins σ Q) X.xe { sd with heap := sd.heap.push { cls := .type "slice", data := .fields #[wlo, whi, wst] } }
  refine tail_any (ops := [.str z t, .ref sd.heap.objs.size]) (typeIs_str _ z t) slot_str_getitem.lookup ?_ (by with_unfolding_all rfl)
  obtain ⟨ts, hts⟩ : ∃ ts, wst = .int (-1) ts := by cases pst; exact ⟨_, rfl⟩
  have hvl : wlo = .none := by cases plo; rfl
  have hvu : whi = .none := by cases phi; rfl
  subst hts hvl hvu
  refine wpAny_getItem_str_slice (l := none) (u := none) (st := some (-1, ts)) ⟨_, Heap.get?_push_size _ rfl, rfl, rfl⟩ (by rfl) ?_
  have e : (slicePicked z none none (some (-1, ts))).filterMap (z.cps[·]?) = z.cps.toList.reverse := by
    show (Builtin.Str.strSliceIndices none none (-1) z.length).filterMap (z.cps[·]?) = _
    have ea : Builtin.Str.strSliceIndices none none (-1) z.length = sliceRange ((z.length : Int) - 1) (-1) (-1) := by
      rfl
    rw [ea, PySem.W.krv_sliceRange, PySem.W.krv_range, List.filterMap_reverse]
    show ((List.range z.cps.size).filterMap (z.cps[·]?)).reverse = _
    rw [PySem.W.krv_all]
  unfold sliceMade
  rw [if_neg (by simp), e]
  refine ⟨?_, .str _, Hd, Je.tok _, ⟨_, rfl⟩, q⟩
  show (Array.size (List.toArray _)) ≤ _
  rw [List.size_toArray, List.length_reverse, Array.length_toList]
  exact hz
theorem op_mul_str : OpR X (binaryOp .Mult) (fun x y H Q => ∃ z k, x = .str z ∧ y = .int k ∧ 2 ≤ k ∧ k ≤ 1000 ∧ z.length ≤ 4000 ∧ Q (.str (repS z k)) H) := by
  intro pins s σ H x y v u Q I rx ry h
  obtain ⟨z, k, rfl, rfl, h1, h2, h3, q⟩ := h
  obtain ⟨t, rfl⟩ := rx
  obtain ⟨t', rfl⟩ := ry
  have hs : (4000000 : Nat) ≤ sizeLine := by decide
  have hmul : z.length * k.toNat ≤ 4000000 := Nat.le_trans (Nat.mul_le_mul h3 (show k.toNat ≤ 1000 by omega)) (by decide)
  refine PySem.P.mul_str (x := z) (n := k) (t := t) (u := t') ?_ (fun _ _ => ?_) (fun _ _ => ?_) ?_
  · have e1 : decide (k < -(2 ^ 63 : Int)) = false := decide_eq_false (by omega)
    have e2 : decide (k ≥ 2 ^ 63) = false := decide_eq_false (by omega)
    rw [e1, e2]; rfl
  · have e3 : (2 ^ 63 - 1 : Int) / 1000 ≤ (2 ^ 63 - 1) / k := by
      rw [Int.le_ediv_iff_mul_le (by omega)]
      have : (2 ^ 63 - 1 : Int) / 1000 * k ≤ (2 ^ 63 - 1 : Int) / 1000 * 1000 := Int.mul_le_mul_of_nonneg_left h2 (by decide)
      exact Int.le_trans this (by decide)
    have e4 : (4000 : Int) ≤ (2 ^ 63 - 1) / 1000 := by decide
    omega
  · show decide (z.length * k.toNat > _) = false
    refine decide_eq_false (Nat.not_lt.mpr (Nat.le_trans hmul ?_))
    decide
  · rw [if_neg (by omega)]
    split
    · next h =>
      have hz : z.length = 0 := by
        simp only [Bool.or_eq_true, beq_iff_eq] at h
        omega
      have hc : z.cps = #[] := Array.eq_empty_of_size_eq_zero hz
      have e : repS z k = z := by
        obtain ⟨c⟩ := z
        have hc : c = #[] := hc
        subst hc
        unfold repS
        congr 1
        generalize k.toNat = m
        induction m with
        | zero => rfl
        | succ m ih => rw [List.replicate_succ, List.foldl_cons]; exact ih
      rw [e] at q
      exact ⟨.str z, H, I, ⟨_, rfl⟩, q⟩
    · refine ⟨?_, .str _, H, I.tok _, ⟨_, rfl⟩, q⟩
      show Array.size _ ≤ _
      have f0 : ∀ (m : Nat) (a : Array Nat), ((List.replicate m z.cps).foldl (· ++ ·) a).size = a.size + m * z.cps.size := by
        intro m
        induction m with
        | zero => intro a; simp
        | succ m ih => intro a; rw [List.replicate_succ, List.foldl_cons, ih, Array.size_append, Nat.succ_mul]; omega
      rw [f0]
      show 0 + k.toNat * z.length ≤ _
      rw [Nat.zero_add, Nat.mul_comm]
      exact Nat.le_trans hmul hs
theorem pe_revLK {K : PySem.W.Frag} (hK : X.K = K) {e : Expr} {te : TE} {k : Nat} {p1 p2 p3 pos : Pos} (he : PE X e te) : PE X (.Subscript e (.Slice none none (some (.UnaryOp .USub (.Constant (.int 1) k p1) p2)) p3) pos) (tRevL K te) := by subst hK; exact pe_revL he
end
section
variable {K : PySem.W.Frag} {G G' H H' H0 H1 G1 : Hp} {P : List Addr} {σ σ' : L2.St} {Γ Γ' Γ1 : EnvF} {L L' L1 : List (Addr × OD)} {c c' c1 : Ow} {W : WX}
variable {ta tb te to ti : TE} {t tr tk : TA} {fa fb fc fe fo fi : FE} {fs fr fk : FA} {tt tu : TT} {ft fu : FT} {E : XK} {ts tw : TS} {fS fT : FS}
def mulSD : D → D → Option D
  | .str z, .int k => if 2 ≤ k ∧ k ≤ 1000 ∧ z.length ≤ 4000 then some (.str (repS z k)) else none
  | _, _ => none
abbrev rMulS : R2 := fun x y H Q => ∃ z k, x = .str z ∧ y = .int k ∧ 2 ≤ k ∧ k ≤ 1000 ∧ z.length ≤ 4000 ∧ Q (.str (repS z k)) H
theorem sim_mulS : SimR2 K rMulS mulSD := by
  intro x y z e G H u v i hu hv Q q
  have bs := i
  have i := bs.i
  unfold mulSD at e
  split at e
  · split at e
    · rename_i h; cases e; cases hu; cases hv; exact ⟨_, _, rfl, rfl, h.1, h.2.1, h.2.2, q _ G H (PG.refl i) (.str _)⟩
    · cases e
  · cases e
/-! ### [::-1] -/
def fRevS (a : FE) : FE := FM.bind (fV a) fun x => match x with
  | .str z => if z.length ≤ 16777216 then FM.pure (.val (.str (revS z))) else fFail
  | _ => fFail
theorem sim_revS (h : SimE K W te fa) : SimE K W (tRevS te) (fRevS fa) := fun P σ c G H Γ L s => by
  unfold fRevS
  refine Run.bind (t2 := fun x H1 (Q : VK) => ∃ z, x = V.str z ∧ z.length ≤ sizeLine ∧ Q (.str (revS z)) H1) s.iv (sim_val h P σ c G H Γ L s) fun d Γ1 u c1 G1 H1 L1 g1 s1 e1 r1 => ?_
  have r1 : At K G1 u d := r1
  intro r e Q post
  cases d with
  | str z =>
    have e : (if z.length ≤ 16777216 then FM.pure (Vr.val (.str (revS z))) else (fFail : FE)) Γ1 = some r := e
    split at e
    · rename_i hz
      cases e; cases r1
      exact ⟨z, rfl, by rw [sizeLine_eq]; exact hz, post _ c1 G1 H1 L1 (.refl) s1 rfl (.str _)⟩
    · cases e
  | _ => cases e
theorem AtL.rev {us : List V} : ∀ {ds : List D}, AtL K G us ds → AtL K G us.reverse ds.reverse := by
  induction us with
  | nil => intro ds h; cases h; exact .nil
  | cons u us ih => intro ds h; cases h with | cons a l => rw [List.reverse_cons, List.reverse_cons]; exact (ih l).append (.cons a .nil)
def fRevL (a : FE) : FE := FM.bind (fV a) fun x => fR (fOf (match x with
  | .lst ds => some (.lst ds.reverse)
  | .scr ns => some (.lst (ns.map D.int).reverse)
  | _ => none))
theorem sim_revL (h : SimE K W te fa) : SimE K W (tRevL K te) (fRevL fa) := fun P σ c G H Γ L s => by
  unfold fRevL
  refine Run.bind (t2 := fun x H1 (Q : VK) => ∃ a xs, x = V.ref a ∧ SqL K H1 a xs ∧ ∀ p, H1 p = none → Q (.ref p) (upd H1 p (.lst xs.reverse))) s.iv (sim_val h P σ c G H Γ L s) fun d Γ1 u c1 G1 H1 L1 g1 s1 e1 r1 => ?_
  have r1 : At K G1 u d := r1
  refine run_of s1 fun z ez Q q => ?_
  cases r1 with
  | @lst p vs ds hp l =>
    cases ez
    refine ⟨p, vs, rfl, ext_lst s1.iv.i hp, fun np hn => ?_⟩
    have gn := PG.new (G := G1) (o := .lst vs.reverse) s1.iv.i hn
    exact q _ _ _ gn (.lst upd_same (l.rev.mono gn.g))
  | @scr p ns hp =>
    cases ez
    refine ⟨p, _, rfl, (hp.ext s1.iv.i).seq, fun np hn => ?_⟩
    have gn := PG.new (G := G1) (o := .lst (ns.map V.int).reverse) s1.iv.i hn
    exact q _ _ _ gn (.lst upd_same ((atl_ints ns).rev.mono gn.g))
  | _ => cases ez
/-! ### a = b = c = e, names -/
def fAsg3 (i j l : Nat) (f : FE) : FS := FM.bind (fV f) fun d Γ => some (.ok .nx (((Γ.set i (.val d)).set j (.val d)).set l (.val d)))
theorem sim_asg3 {i j l : Nat} (h : SimE K W te fa) : SimS K W (tAsg3 te (gName i) (gName j) (gName l)) (fAsg3 i j l fa) := fun P σ c G H Γ L s r e Dn post => by
  rcases FM.bind_some e with ⟨d, Γ1, e1, e2⟩ | ⟨cn, f, d, Γ1, e1, er⟩
  · refine sim_val h P σ c G H Γ L s _ e1 _ ?_
    intro b c1 G1 H1 L1 g1 s1 e1' r1
    have r1 : At K G1 b d := r1
    cases e2
    obtain ⟨La, sa, na⟩ := s1.val i r1
    obtain ⟨Lb, sb, nb⟩ := sa.val j r1
    obtain ⟨Lc, sc, nc⟩ := sb.val l r1
    exact post.nx _ rfl _ c1 G1 H1 Lc g1 sc fun x hx => tl_of e1' x (na.subset (nb.subset (nc.subset hx)))
  · subst er
    exact sim_val h P σ c G H Γ L s _ e1 _ (post.ex cn f d Γ1 rfl)
/-! ### what never runs -/
theorem pss_neverK {X : Cx} {ss : List Stmt} : PSs X ss (fun _ _ _ => False) := ⟨fun _ _ _ _ _ _ h => h.elim⟩
theorem sim_neverK : SimS K W (fun _ _ _ => False) fNever := fun P σ c G H Γ L s r e => by cases e
end
end DF

set_option linter.all false
set_option maxRecDepth 100000
set_option maxHeartbeats 4000000
namespace DF
open PySem PySem.Spec PyProof.Rows L2
variable [TbC]
open PySem.Sem (wp)
/-! ### bool of an instance without __bool__ and __len__ -/
theorem truthy_inst {K : PySem.W.Frag} {s : Shared} {M : Model} {A : Around} {E : Value → Shared → Prop} {x C : Addr} {ox : Obj} {od : Option Obj} {Q : Bool → Shared → Prop} (X : K.In s.heap) (I : PySem.W.InstAt s.heap x ox C od) (hs : PySem.W.findIn K (.ref C) "__bool__" = some none) (hl : PySem.W.findIn K (.ref C) "__len__" = some none)
    (h : Q true s) : wpAny M A (truthy (.ref x)) Q E s := by
  unfold truthy
  refine wpAny_bind (m := callSpecial? (.ref x) (Str.ofString "__bool__")) (wpAny_bind (wpAny_bind (I.type.here ((PySem.W.looks_findIn X hs).here (wpAny_pure ?_)))))
  refine wpAny_bind (wpAny_bind (I.type.here ((PySem.W.looks_findIn X hl).here ?_)))
  exact wpAny_pure h
structure BoC (K : PySem.W.Frag) (C : Addr) : Prop where
  b : PySem.W.findIn K (.ref C) "__bool__" = some none
  l : PySem.W.findIn K (.ref C) "__len__" = some none
theorem meets_bool_inst {K : PySem.W.Frag} (x C : Addr) (ox : Obj) (od : Option Obj) (T : BoC K C) :
    Meets (Builtin.«bool.__new__» ⟨[.type "bool", .ref x], []⟩) (fun _ R s => (K.In s.heap ∧ PySem.W.InstAt s.heap x ox C od) ∧ R (.ok (.ret (.bool true))) s) :=
  Meets.of_wp fun prog w A R s hs => by
    obtain ⟨⟨hk, hi⟩, hs⟩ := hs
    obtain ⟨hp, g, d, tk, os⟩ := s
    have f1 := F.conv_sub_bool
    repeat (any_goals (first | assumption | (with_reducible refine truthy_inst hk hi T.b T.l ?_) | wp_step))
    all_goals first | exact ⟨_, rfl, hs⟩ | exact hs | skip
section
variable {X : Cx}
def rBoI (C : Addr) : List V → Hp → VK → Prop := fun xs H Q => ∃ a dx fs, xs = [.ref a] ∧ H a = some (.ins C dx fs) ∧ Q (.bl true) H
theorem call_boolI {C : Addr} (T : BoC X.K C) : CallR X (.type "bool") (rBoI C) := by
  intro pins s σ H xs us Q I r h
  obtain ⟨a, dx, fs, rfl, ha, q⟩ := h
  obtain ⟨u, rfl, rx⟩ := vals1 r
  cases rx
  obtain ⟨mA, J, _⟩ := ins_get I.hok ha
  obtain ⟨od, J, _⟩ := J.look
  exact call_bool_1 (meets_bool_inst a C _ od T) ⟨⟨I.kIn, J⟩, ⟨rfl, ⟨.bl true, H, I, rfl, q⟩⟩⟩
/-! ### classmethods with keywords alone -/
/-- C.m(k = v, ..) -/
def tCMethN (C : Addr) (m : Nat) (sp : Sp) (gV : List V → List V → List V) (E : XK) (ta : TE) (tk : TA) : TE := fun σ H Q => ta σ H fun x H1 => x = .ref C ∧ tk σ H1 fun zs H2 => zs.length = m ∧ sp (gV [.ref C] zs) H2 Q E
theorem run_cmN {pins : List (Addr × Obj)} {σ : L2.St} {H : Hp} {s : Shared} {CX : CXT} {k : Nat} {C q g : Addr} {fd : FuncData} {ps ks : List Str} {sp : Sp} {E : XK} {Q : VK} {ws : List Value} {zs : List V} {gU : List Value → List Value → List Value} {gV : List V → List V → List V}
    (F : FnOk X.prog X.w X.K X.mg X.base CX k g fd ps sp) (hr : Room k X.A) (hb : KBn X.K fd ps 1 ks gU gV) (hx : Passes CX X E) (I : Inv X ((q, PySem.W.methodObj (.ref g) (.ref C)) :: pins) σ H s)
    (rz : Vals zs ws) (l2 : zs.length = ks.length) (h : sp (gV [.ref C] zs) H Q E) : wpAny (model X.prog X.w) X.A (call (.ref q) [] (ks.zip ws)) (EP X pins σ Q) X.xe s := by
  have r1 : Vals [V.ref C] [Value.ref C] := .cons rfl .nil
  have r2 := hb.rel r1 rz
  have z : wpAny (model X.prog X.w) X.A (call (.ref q) [] (ks.zip ws)) (EP X ((q, PySem.W.methodObj (.ref g) (.ref C)) :: pins) σ Q) X.xe s := by
    refine wpAny_call (PySem.W.method_call (ClX.pin_at I) (codeAny_mono (F.run X.A X.stack s H ⟨[Value.ref C], ks.zip ws⟩ (gU [Value.ref C] ws) (gV [V.ref C] zs) Q E hr I.env0 (hb.to s [Value.ref C] ws I.kIn rfl (rz.length.symm.trans l2)) r2 h) fun r s' hq => ?_))
    cases r with
    | error e => exact hx _ σ H s e s' I hq
    | ok fl =>
      cases fl with
      | ret u => exact I.after hq
      | next => exact False.elim hq
      | brk => exact False.elim hq
      | cont => exact False.elim hq
  exact thn z fun _ _ y => ClX.unpinE y
theorem pe_cmethN {CX : CXT} {k : Nat} {C p g : Addr} {mc : Value} {fd : FuncData} {ps ks : List Str} {sp : Sp} {E : XK} {o : Expr} {m : Str} {pos apos : Pos} {ta : TE} {tk : TA} {pl : Sem Bool} {kws : List Keyword} {gU : List Value → List Value → List Value} {gV : List V → List V → List V}
    (he : PE X o ta) (r : ClX.CRead X.K C mc) (c : ClX.CMet X.K C mc m p g) (F : FnOk X.prog X.w X.K X.mg X.base CX k g fd ps sp) (hr : Room k X.A) (hb : KBn X.K fd ps 1 ks gU gV) (hx : Passes CX X E) (hkw : PK X kws tk)
    (hall : (backToKw pos (keywordEach kws X.env)).all (·.1.isSome) = true := by rfl) (hks : (backToKw pos (keywordEach kws X.env)).filterMap (·.1) = ks := by rfl)
    (hpl : ((backTo pos (starEach [] X.env)).any (·.1) || (backToKw pos (keywordEach kws X.env)).any (·.1.isNone)) = false := by rfl)
    (ht : eval (.Call (.Attribute o m apos) [] kws pos) X.env = (do
      let ov ← eval o X.env
      standAt apos.atName
      let (f, first) ← holding [ov] (getMethod ov m pl)
      callWith pos f first (backTo pos (starEach [] X.env)) (backToKw pos (keywordEach kws X.env))) := by rfl) :
    PE X (.Call (.Attribute o m apos) [] kws pos) (tCMethN C ks.length sp gV E ta tk) := by
  refine ⟨fun pins s σ H Q I h => ?_⟩
  refine PySem.W.methodCall_KW (pl := pl) (thn (he.run pins s σ H _ I h) fun u s1 ⟨x, H1, I1, rx, ex, q⟩ => ?_) ht
  subst ex
  obtain rfl : u = Value.ref C := rx
  refine ClX.getmethcm_ok I1 r c fun s2 I2 => ?_
  refine PySem.W.callWith_of (P := PySem.W.MethP X.K s1.heap.objs.size g (.ref C)) hpl (PySem.W.keeps_M c.fi) (evalArgs_kw2_nil hall ?_)
  refine thn (hkw.run pos _ s2 σ H1 _ I2 q) fun ws s3 ⟨zs, H2, I3, rz, l1, l2⟩ => ⟨⟨ClX.pin_at I3, I3.kIn⟩, ?_⟩
  rw [hks]
  exact run_cmN F hr hb hx I3 rz l1 l2
theorem toR {P : Program} {w : World} {K : PySem.W.Frag} {mg : Str → Option Value} {base : Heap} {CX : CXT} {k : Nat} {f : Addr} {fd : FuncData} {ps : List Str} {sp : Sp} (F : FnOk P w K mg base CX k f fd ps sp) (hb : Binds K fd ps []) : FnR P w K mg base CX k f sp :=
  (F.raw hb .nil).imp fun vs H Q E h => by rw [List.append_nil]; exact h
/-! ### a class in a local name -/
def tMakeL (i : Nat) (C : Addr) (sp : Sp) (E : XK) (t : TA) : TE := fun σ H Q => σ[i]? = some (some (.ref C)) ∧ tMake C sp [] E t σ H Q
theorem pe_makeL {CX : CXT} {k i : Nat} {C f : Addr} {fd : FuncData} {ps : List Str} {sp : Sp} {E : XK} {x : Str} {p pos : Pos} {e : Expr} {es : List Expr} {t : TA} (M : Mk X.K C f) (F : FnOk X.prog X.w X.K X.mg X.base CX k f fd ps sp) (hr : Room (k + 1) X.A) (hN : X.N[i]? = some x) (hv : Vis X.env.scope x) (hb : Binds X.K fd ps []) (hx : Passes CX X E)
    (ha : PA X (e :: es) t) (hdb : (x == ("__debug__" : Str)) = false := by decide) (hcd : (x == ("__classdict__" : Str)) = false := by decide) (he : starEach (e :: es) X.env = (false, eval e X.env) :: starEach es X.env := by rfl) (hpl : (backTo pos (starEach es X.env)).any (·.1) = false := by rfl) :
    PE X (.Call (.Name x p) (e :: es) [] pos) (tMakeL i C sp E t) := by
  refine ⟨fun pins s σ H Q I h => ?_⟩
  obtain ⟨hs, ht⟩ := h
  refine wpAny_Call_Name_kw (thn ((pe_var (pos := p) hN hv hdb hcd).run pins s σ H (fun v H1 => v = .ref C ∧ H1 = H) I ⟨.ref C, hs, rfl, rfl⟩) fun u s1 ⟨v, H1, I1, r1, q1⟩ => ?_)
  obtain ⟨rfl, rfl⟩ := q1
  cases r1
  refine PySem.W.callWith_K (h₀ := X.base) I.ok.mod.kin M.kp (thn (ha.run pos pins s1 σ _ _ I1 ht) fun us s1 ⟨vs, H1, I1, r, q⟩ => ⟨I1.kIn, ?_⟩) he hpl
  exact run_make M F hr hb .nil hx I1 r q
end
section
variable {K : PySem.W.Frag} {G G' H H' H0 H1 G1 : Hp} {P : List Addr} {σ σ' : L2.St} {Γ Γ' Γ1 : EnvF} {L L' L1 : List (Addr × OD)} {c c' c1 : Ow} {W : WX}
variable {ta tb te to ti : TE} {t tr tk : TA} {fa fb fc fe fo fi : FE} {fs fr fk : FA} {tt tu : TT} {ft fu : FT} {E : XK} {ts tw : TS} {fS fT : FS}
def boolI (cn : Str) : List D → Option D
  | [.ins c _] => if c = cn then some (.bl true) else none
  | _ => none
theorem sim_boolI {cn : Str} {C : Addr} (ct : CT K cn C) : SimC K (rBoI C) (boolI cn) := by
  intro xs z e G H us i l Q q
  have bs := i
  have i := bs.i
  unfold boolI at e
  split at e
  · split at e
    · rename_i hc
      subst hc
      cases e
      obtain ⟨u, eu, hu⟩ := atl1 l
      subst eu
      cases hu with
      | @ins p C' dx _ fs _ ct' hp _ =>
        have := ct'.one ct
        subst this
        exact ⟨p, dx, fs, rfl, i _ _ hp, q _ G H (PG.refl i) (.bl _)⟩
    · cases e
  · cases e
def fCMeth (cn : Str) (F : FF) (a : FA) : FE := FM.bind a fun vs => callF F (.val (.cls cn) :: vs)
theorem sim_cmeth {cn : Str} {C : Addr} {F : FF} (ct : CT K cn C) (hE : ∀ cls d σ H, W cls d σ H → E cls d H) (h : SimA K W t fs) : SimE K W (ClX.tCMeth C (spF K F) E (tC (.ref C)) t) (fCMeth cn F fs) := fun P σ c G H Γ L s r e Q post => by
  unfold fCMeth FM.bind at e
  refine ⟨rfl, ?_⟩
  cases ex : fs Γ with
  | none => rw [ex] at e; cases e
  | some r0 =>
    rw [ex] at e
    refine h P σ c G H Γ L s r0 ex _ ?_
    cases r0 with
    | ok vs Γ1 =>
      intro us c1 G1 H1 L1 g1 s1 e1 r1
      have r1 : VrAll K σ L1 c1 G1 H us vs := r1
      exact call_core s.iv g1 s1 e1 (.cons (show VrAt K σ L1 c1 G1 H (.ref C) (.val (.cls cn)) from At.cls ct) r1) hE e post
    | ex cn f d Γ1 => cases e; exact post
def fCMethN (cn : Str) (F : FF) (l : Nat) (ix : List Nat) (a : FA) : FE := FM.bind a fun vs => if vs.length = l then callF F (permR ix (.val (.cls cn) :: vs)) else fFail
theorem sim_cmethN {cn : Str} {C : Addr} {F : FF} {l : Nat} {ix : List Nat} (ct : CT K cn C) (hE : ∀ cls d σ H, W cls d σ H → E cls d H) (h : SimA K W tk fk) : SimE K W (tCMethN C l (spF K F) (fun us ws => permV ix (us ++ ws)) E (tC (.ref C)) tk) (fCMethN cn F l ix fk) := fun P σ c G H Γ L s r e Q post => by
  unfold fCMethN at e
  refine ⟨rfl, ?_⟩
  rcases FM.bind_some e with ⟨v, Γ1, e1, e2⟩ | ⟨cn', f, d, Γ1, e1, er⟩
  · refine h P σ c G H Γ L s _ e1 _ ?_
    intro us c1 G1 H1 L1 g1 s1 e1' r1
    have r1 : VrAll K σ L1 c1 G1 H us v := r1
    split at e2
    · rename_i hl
      exact ⟨by rw [r1.length]; exact hl, call_core s.iv g1 s1 e1' (perm_vr (us := .ref C :: us) (vs := .val (.cls cn) :: v) (.cons (show VrAt K σ L1 c1 G1 H (.ref C) (.val (.cls cn)) from At.cls ct) r1)) hE e2 post⟩
    · cases e2
  · subst er
    exact h P σ c G H Γ L s _ e1 _ post
def fMakeL (cn : Str) (F : FF) (i : Nat) (a : FA) : FE := fun Γ => match Γ[i]? with
  | some (.val (.cls x)) => if x = cn then fMake cn F a Γ else none
  | _ => none
theorem sim_makeL {cn : Str} {C : Addr} {F : FF} {i : Nat} (ct : CT K cn C) (hE : ∀ cls d σ H, W cls d σ H → E cls d H) (h : SimA K W t fs) : SimE K W (tMakeL i C (spF K F) E t) (fMakeL cn F i fs) := fun P σ c G H Γ L s r e Q post => by
  unfold fMakeL at e
  split at e
  · rename_i x ei
    split at e
    · rename_i hx
      subst hx
      obtain ⟨v, h1, h2⟩ := s.r.get ei
      cases h2 with
      | cls ct' =>
        have := ct'.one ct
        subst this
        exact ⟨h1, sim_make ct hE h P σ c G H Γ L s r e Q post⟩
    · cases e
  · cases e
end
end DF

set_option linter.all false
set_option maxRecDepth 100000
set_option maxHeartbeats 4000000
namespace DF
open PySem PySem.Spec PyProof.Rows L2
variable [TbC]
/-! ### what a function on data ends in -/
def X {α : Type} (f : FM α) (Γ : EnvF) (Φ : α → EnvF → Prop) : Prop := ∃ v Γ', f Γ = some (.ok v Γ') ∧ Φ v Γ'
def Fp (F : FF) (as : List Sl) (Φ : Vr → Option OD → Prop) : Prop := ∃ v o, F as = some (.ok v o) ∧ Φ v o
def SeqK (b : FS) (Φ : Fl → EnvF → Prop) : Fl → EnvF → Prop
  | .nx, Γ => X b Γ Φ
  | r, Γ => Φ r Γ
def AsgK (i : Nat) (Φ : Fl → EnvF → Prop) : Vr → EnvF → Prop
  | .val d, Γ => ∃ Γ2, Γ.set i (.val d) = Γ2 ∧ Φ .nx Γ2
  | .own o, Γ => ∃ Γ2, Γ.set i (.own 0 o) = Γ2 ∧ Φ .nx Γ2
  | _, _ => False
def ValK (Φ : D → EnvF → Prop) : Vr → EnvF → Prop
  | .val d, Γ => Φ d Γ
  | _, _ => False
def RetK (Φ : Fl → EnvF → Prop) : Vr → EnvF → Prop
  | .val d, Γ => Φ (.rt (.val d)) Γ
  | .own o, Γ => Φ (.rt (.own o)) Γ
  | .slot i, Γ => ∃ o d Γ2, Γ[i]? = some (.own 0 o) ∧ odD o = some d ∧ Γ.set i (.val d) = Γ2 ∧ Φ (.rt (.val d)) Γ2
def BackK (b : Ob) (Φ : Vr → EnvF → Prop) (Γ : EnvF) (v : Vr) (o : Option OD) : Prop := match b, o with
  | .none, _ => Φ v Γ
  | .tmp, _ => Φ v Γ
  | .slot i, some o => ∃ k o0 Γ2, Γ[i]? = some (.own k o0) ∧ Γ.set i (.own k o) = Γ2 ∧ Φ v Γ2
  | .slot _, none => False
def ForK (I : EnvF → Prop) (Φ : Fl → EnvF → Prop) : Fl → EnvF → Prop
  | .nx, Γ => I Γ
  | .ct, Γ => I Γ
  | .bk, Γ => Φ .nx Γ
  | .rt v, Γ => Φ (.rt v) Γ
def EndK (as : List Sl) (Φ : Vr → Option OD → Prop) : Fl → EnvF → Prop
  | .rt (.val d), Γ => ∃ o, endO as Γ = some o ∧ Φ (.val d) o
  | .rt (.own x), Γ => ∃ o, endO as Γ = some o ∧ Φ (.own x) o
  | .nx, Γ => ∃ o, endO as Γ = some o ∧ Φ (.val .non) o
  | _, _ => False
section
variable {α β : Type} {Γ Γ' Γ1 Γ2 : EnvF} {Φ : D → EnvF → Prop} {ΦV : Vr → EnvF → Prop} {ΦS : Fl → EnvF → Prop} {ΦB : Bool → EnvF → Prop} {ΦU : Unit → EnvF → Prop} {ΦA : List Vr → EnvF → Prop} {ΦL : List D → EnvF → Prop} {ΦO : Option Int → EnvF → Prop}
variable {fa fb fc : FE} {fs fr : FA} {ft fu : FT} {fS fT : FS}
theorem X.imp {f : FM α} {Φ Φ' : α → EnvF → Prop} (h : X f Γ Φ) (i : ∀ v Γ', Φ v Γ' → Φ' v Γ') : X f Γ Φ' := let ⟨v, g, e, p⟩ := h; ⟨v, g, e, i _ _ p⟩
theorem x_bind {f : FM α} {k : α → FM β} {Φ : β → EnvF → Prop} (h : X f Γ fun v Γ' => X (k v) Γ' Φ) : X (FM.bind f k) Γ Φ := by
  obtain ⟨v, g, e, w, g2, e2, p⟩ := h
  exact ⟨w, g2, by unfold FM.bind; rw [e]; exact e2, p⟩
theorem x_pure {v : α} {Φ : α → EnvF → Prop} (h : Φ v Γ) : X (FM.pure v) Γ Φ := ⟨v, Γ, rfl, h⟩
theorem x_of {o : Option α} {Φ : α → EnvF → Prop} (h : ∃ z, o = some z ∧ Φ z Γ) : X (fOf o) Γ Φ := by
  obtain ⟨z, e, p⟩ := h; subst e; exact ⟨z, Γ, rfl, p⟩
theorem x_V (h : X fa Γ (ValK Φ)) : X (fV fa) Γ Φ := by
  obtain ⟨v, g, e, p⟩ := h
  refine x_bind ⟨v, g, e, ?_⟩
  cases v with
  | val d => exact ⟨d, g, rfl, p⟩
  | _ => exact p.elim
theorem x_ofV (h : X (fV fa) Γ fun d Γ' => ΦV (.val d) Γ') : X fa Γ ΦV := by
  obtain ⟨d, g, e, p⟩ := h
  rcases FM.bind_some e with ⟨v, Γ1, e1, e2⟩ | ⟨_, _, _, _, _, er⟩
  · cases v with
    | val d' => cases e2; exact ⟨_, _, e1, p⟩
    | _ => cases e2
  · cases er
theorem x_R {f : FM D} (h : X f Γ Φ) : X (fV (fR f)) Γ Φ := x_V (x_bind (h.imp fun v g p => x_pure p))
/-! statements -/
theorem x_seq (h : X fS Γ (SeqK fT ΦS)) : X (fSeq fS fT) Γ ΦS := x_bind (h.imp fun v g p => by cases v <;> first | exact p | exact x_pure p)
theorem k_nx (h : X fT Γ ΦS) : SeqK fT ΦS .nx Γ := h
theorem k_rt {v : Vr} (h : ΦS (.rt v) Γ) : SeqK fT ΦS (.rt v) Γ := h
theorem k_bk (h : ΦS .bk Γ) : SeqK fT ΦS .bk Γ := h
theorem k_ct (h : ΦS .ct Γ) : SeqK fT ΦS .ct Γ := h
theorem x_nx (h : ΦS .nx Γ) : X fNx Γ ΦS := ⟨_, _, rfl, h⟩
theorem x_brk (h : ΦS .bk Γ) : X fBrk Γ ΦS := ⟨_, _, rfl, h⟩
theorem x_cont (h : ΦS .ct Γ) : X fCont Γ ΦS := ⟨_, _, rfl, h⟩
theorem x_retN (h : ΦS (.rt (.val .non)) Γ) : X fRetN Γ ΦS := ⟨_, _, rfl, h⟩
theorem x_asgK {i : Nat} (h : X fa Γ (AsgK i ΦS)) : X (fAsg i fa) Γ ΦS := x_bind (h.imp fun v g p => by
  cases v with
  | val d => obtain ⟨_, e, p⟩ := p; subst e; exact ⟨_, _, rfl, p⟩
  | own o => obtain ⟨_, e, p⟩ := p; subst e; exact ⟨_, _, rfl, p⟩
  | slot j => exact p.elim)
theorem x_asg {i : Nat} (h : X (fV fa) Γ fun d Γ' => ∃ Γ2, Γ'.set i (.val d) = Γ2 ∧ ΦS .nx Γ2) : X (fAsg i fa) Γ ΦS := x_asgK (x_ofV h)
theorem x_drop (h : X (fV fa) Γ fun _ Γ' => ΦS .nx Γ') : X (fDrop fa) Γ ΦS := x_bind ((x_ofV (ΦV := fun _ g => ΦS .nx g) h).imp fun _ _ p => x_nx p)
theorem x_ret (h : X (fV fa) Γ fun d Γ' => ΦS (.rt (.val d)) Γ') : X (fRet fa) Γ ΦS := x_bind ((x_ofV (ΦV := RetK ΦS) h).imp fun v g p => by
  cases v with
  | val d => exact ⟨_, _, rfl, p⟩
  | own o => exact ⟨_, _, rfl, p⟩
  | slot i => obtain ⟨o, d, Γ2, e1, e2, e3, p⟩ := p; subst e3; exact ⟨_, _, by simp only [frz, e1, e2, Option.map_some], p⟩)
theorem x_retK (h : X fa Γ (RetK ΦS)) : X (fRet fa) Γ ΦS := x_bind (h.imp fun v g p => by
  cases v with
  | val d => exact ⟨_, _, rfl, p⟩
  | own o => exact ⟨_, _, rfl, p⟩
  | slot i => obtain ⟨o, d, Γ2, e1, e2, e3, p⟩ := p; subst e3; exact ⟨_, _, by simp only [frz, e1, e2, Option.map_some], p⟩)
theorem x_ifS (h : X ft Γ fun k Γ' => (k = true → X fS Γ' ΦS) ∧ (k = false → X fT Γ' ΦS)) : X (fIfS ft fS fT) Γ ΦS := x_bind (h.imp fun v g p => by cases v with | true => exact p.1 rfl | false => exact p.2 rfl)
theorem x_asgG {g : D → FM Unit} (h : X (fV fa) Γ fun d Γ' => X (g d) Γ' fun _ Γ2 => ΦS .nx Γ2) : X (fAsgG fa g) Γ ΦS := x_bind (h.imp fun d g p => x_bind (p.imp fun _ _ p => x_nx p))
theorem x_par {i j : Nat} (h : X (fVs fs) Γ fun ds Γ' => ∃ x y, ds = [x, y] ∧ ∃ Γ2, (Γ'.set i (.val x)).set j (.val y) = Γ2 ∧ ΦS .nx Γ2) : X (fPar i j fs) Γ ΦS := x_bind (h.imp fun d g p => by
  obtain ⟨x, y, e, Γ2, e2, p⟩ := p; subst e e2; exact ⟨_, _, rfl, p⟩)
theorem x_par3 {i j l : Nat} (h : X (fVs fs) Γ fun ds Γ' => ∃ x y z, ds = [x, y, z] ∧ ∃ Γ2, ((Γ'.set i (.val x)).set j (.val y)).set l (.val z) = Γ2 ∧ ΦS .nx Γ2) : X (fPar3 i j l fs) Γ ΦS := x_bind (h.imp fun d g p => by
  obtain ⟨x, y, z, e, Γ2, e2, p⟩ := p; subst e e2; exact ⟨_, _, rfl, p⟩)
theorem x_asg3 {i j l : Nat} (h : X (fV fa) Γ fun d Γ' => ∃ Γ2, ((Γ'.set i (.val d)).set j (.val d)).set l (.val d) = Γ2 ∧ ΦS .nx Γ2) : X (fAsg3 i j l fa) Γ ΦS := x_bind (h.imp fun d g p => by
  obtain ⟨Γ2, e2, p⟩ := p; subst e2; exact ⟨_, _, rfl, p⟩)
theorem x_aug {i : Nat} {f : D → D → Option D} (h : ∃ x, Γ[i]? = some (.val x) ∧ X (fV fa) Γ fun y Γ' => ∃ z, f x y = some z ∧ ∃ Γ2, Γ'.set i (.val z) = Γ2 ∧ ΦS .nx Γ2) : X (fAug i f fa) Γ ΦS := by
  obtain ⟨x, ex, y, g, e, z, ez, Γ2, e2, p⟩ := h
  subst e2
  exact ⟨_, _, by unfold fAug FM.bind; rw [ex]; simp only [e, ez, Option.map_some], p⟩
theorem x_for {w : FW} {g : D → FM Unit} (h : X w Γ fun ds Γ' => X (forL g fS ds) Γ' ΦS) : X (fFor w g fS) Γ ΦS := x_bind h
/-- a loop, by what holds when the items ds are left -/
theorem x_forL {g : D → FM Unit} (I : List D → EnvF → Prop) {ds : List D} (h : I ds Γ) (step : ∀ d ds Γ, I (d :: ds) Γ → X (g d) Γ fun _ Γ1 => X fS Γ1 (ForK (I ds) ΦS)) (fin : ∀ Γ, I [] Γ → ΦS .nx Γ) : X (forL g fS ds) Γ ΦS := by
  induction ds generalizing Γ with
  | nil => exact ⟨_, _, rfl, fin _ h⟩
  | cons d ds ih =>
    refine x_bind ((step d ds Γ h).imp fun _ g1 p => x_bind (p.imp fun v g2 p => ?_))
    cases v with
    | nx => exact ih p
    | ct => exact ih p
    | bk => exact ⟨_, _, rfl, p⟩
    | rt v => exact ⟨_, _, rfl, p⟩
theorem fk_nx {I : EnvF → Prop} (h : I Γ) : ForK I ΦS .nx Γ := h
theorem fk_ct {I : EnvF → Prop} (h : I Γ) : ForK I ΦS .ct Γ := h
theorem fk_bk {I : EnvF → Prop} (h : ΦS .nx Γ) : ForK I ΦS .bk Γ := h
theorem fk_rt {I : EnvF → Prop} {v : Vr} (h : ΦS (.rt v) Γ) : ForK I ΦS (.rt v) Γ := h
/-- while, by what holds when at most n turns are left -/
theorem x_while {n : Nat} (I : Nat → EnvF → Prop) (h : ∃ m, m < n ∧ I m Γ) (step : ∀ m Γ, I m Γ → X ft Γ fun k Γ' => (k = true → X fS Γ' (ForK (fun Γ2 => ∃ l, l < m ∧ I l Γ2) ΦS)) ∧ (k = false → ΦS .nx Γ')) : X (fWhile n ft fS) Γ ΦS := by
  unfold fWhile
  obtain ⟨m, hm, h⟩ := h
  induction n generalizing Γ m with
  | zero => omega
  | succ n ih =>
    refine x_bind ((step m Γ h).imp fun k g1 p => ?_)
    cases k with
    | false => exact ⟨_, _, rfl, p.2 rfl⟩
    | true =>
      refine x_bind ((p.1 rfl).imp fun v g2 p => ?_)
      cases v with
      | nx => obtain ⟨l, hl, hi⟩ := p; exact ih l (by omega) hi
      | ct => obtain ⟨l, hl, hi⟩ := p; exact ih l (by omega) hi
      | bk => exact ⟨_, _, rfl, p⟩
      | rt v => exact ⟨_, _, rfl, p⟩
theorem x_while0 {n : Nat} (h : X ft Γ fun k Γ' => k = false ∧ ΦS .nx Γ') : X (fWhile (n + 1) ft fS) Γ ΦS := x_bind (h.imp fun k g p => by obtain ⟨e, p⟩ := p; subst e; exact ⟨_, _, rfl, p⟩)
/-! expressions -/
theorem xv_c {d : D} (h : Φ d Γ) : X (fV (fC d)) Γ Φ := ⟨_, _, rfl, h⟩
theorem xv_var {i : Nat} {d : D} (e : Γ[i]? = some (.val d)) (h : Φ d Γ) : X (fV (fVar i)) Γ Φ := ⟨_, _, by unfold fV FM.bind fVar; rw [e]; rfl, h⟩
theorem x_varO {i k : Nat} {o : OD} (e : Γ[i]? = some (.own k o)) (h : ΦV (.slot i) Γ) : X (fVar i) Γ ΦV := ⟨_, _, by unfold fVar; rw [e], h⟩
theorem x_varV {i : Nat} {d : D} (e : Γ[i]? = some (.val d)) (h : ΦV (.val d) Γ) : X (fVar i) Γ ΦV := ⟨_, _, by unfold fVar; rw [e], h⟩
theorem xv_op {f : D → D → Option D} (h : X (fV fa) Γ fun x Γ1 => X (fV fb) Γ1 fun y Γ2 => ∃ z, f x y = some z ∧ Φ z Γ2) : X (fV (fOp f fa fb)) Γ Φ := x_R (x_bind (h.imp fun _ _ p => x_bind (p.imp fun _ _ p => x_of p)))
theorem xv_un {f : D → Option D} (h : X (fV fa) Γ fun x Γ1 => ∃ z, f x = some z ∧ Φ z Γ1) : X (fV (fUn f fa)) Γ Φ := x_R (x_bind (h.imp fun _ _ p => x_of p))
theorem xv_cb {f : List D → Option D} (h : X (fVs fs) Γ fun x Γ1 => ∃ z, f x = some z ∧ Φ z Γ1) : X (fV (fCB f fs)) Γ Φ := x_R (x_bind (h.imp fun _ _ p => x_of p))
theorem xs_nil (h : ΦL [] Γ) : X (fVs fNil) Γ ΦL := ⟨_, _, rfl, h⟩
theorem xs_cons (h : X (fV fa) Γ fun d Γ1 => X (fVs fr) Γ1 fun ds Γ2 => ΦL (d :: ds) Γ2) : X (fVs (fCons fa fr)) Γ ΦL := by
  obtain ⟨d, g, e, ds, g2, e2, p⟩ := h
  obtain ⟨v, g1, e3, p3⟩ := x_ofV (ΦV := fun v g' => v = .val d ∧ g' = g) ⟨d, g, e, rfl, rfl⟩
  obtain ⟨ev, eg⟩ := p3
  subst ev eg
  rcases FM.bind_some e2 with ⟨vs, g4, e4, e5⟩ | ⟨_, _, _, _, _, er⟩
  · cases ev : valsOf vs with
    | none => rw [ev] at e5; cases e5
    | some ds' =>
      rw [ev] at e5
      cases e5
      refine x_bind (x_bind ⟨_, _, e3, x_bind ⟨_, _, e4, x_pure (x_of ⟨_, ?_, p⟩)⟩⟩)
      simp only [valsOf, ev, Option.map_some]
  · cases er
theorem xa_nil (h : ΦA [] Γ) : X fNil Γ ΦA := ⟨_, _, rfl, h⟩
theorem xa_cons (h : X fa Γ fun d Γ1 => X fr Γ1 fun ds Γ2 => ΦA (d :: ds) Γ2) : X (fCons fa fr) Γ ΦA := x_bind (h.imp fun _ _ p => x_bind (p.imp fun _ _ p => x_pure p))
theorem xv_tup (h : X (fVs fs) Γ fun ds Γ' => ds.length ≤ 16777216 ∧ Φ (.tup ds) Γ') : X (fV (fTup fs)) Γ Φ := x_R (x_bind (h.imp fun ds g p => by rw [if_pos p.1]; exact x_pure p.2))
theorem xv_lst (h : X (fVs fs) Γ fun ds Γ' => ds.length ≤ 16777216 ∧ Φ (.lst ds) Γ') : X (fV (fLst fs)) Γ Φ := x_R (x_bind (h.imp fun ds g p => by rw [if_pos p.1]; exact x_pure p.2))
theorem x_lstO (h : X (fVs fs) Γ fun ds Γ' => ds.length ≤ 16777216 ∧ ΦV (.own (.lst ds)) Γ') : X (fLstO fs) Γ ΦV := x_bind (h.imp fun ds g p => by rw [if_pos p.1]; exact x_pure p.2)
theorem xv_if (h : X ft Γ fun k Γ' => (k = true → X (fV fa) Γ' Φ) ∧ (k = false → X (fV fb) Γ' Φ)) : X (fV (fIf ft fa fb)) Γ Φ := by
  obtain ⟨k, g, e, p⟩ := h
  refine x_V (x_bind ⟨k, g, e, ?_⟩)
  cases k with
  | true => exact x_ofV (p.1 rfl)
  | false => exact x_ofV (p.2 rfl)
theorem x_ifV (h : X ft Γ fun k Γ' => (k = true → X fa Γ' ΦV) ∧ (k = false → X fb Γ' ΦV)) : X (fIf ft fa fb) Γ ΦV := x_bind (h.imp fun k g p => by cases k with | true => exact p.1 rfl | false => exact p.2 rfl)
theorem xv_andV (h : X (fV fa) Γ fun x Γ' => ∃ k, boolOf x = some k ∧ (k = true → X (fV fb) Γ' Φ) ∧ (k = false → Φ (.bl false) Γ')) : X (fV (fAndV fa fb)) Γ Φ := x_V (x_bind (h.imp fun x g p => by
  obtain ⟨k, e, p1, p2⟩ := p
  rw [e]
  cases k with
  | true => exact x_ofV (p1 rfl)
  | false => exact ⟨_, _, rfl, p2 rfl⟩))
theorem xv_orV (h : X (fV fa) Γ fun x Γ' => ∃ k, boolOf x = some k ∧ (k = true → Φ (.bl true) Γ') ∧ (k = false → X (fV fb) Γ' Φ)) : X (fV (fOrV fa fb)) Γ Φ := x_V (x_bind (h.imp fun x g p => by
  obtain ⟨k, e, p1, p2⟩ := p
  rw [e]
  cases k with
  | true => exact ⟨_, _, rfl, p1 rfl⟩
  | false => exact x_ofV (p2 rfl)))
theorem xv_notV (h : X (fV fa) Γ fun x Γ' => ∃ k, boolOf x = some k ∧ Φ (.bl !k) Γ') : X (fV (fNotV fa)) Γ Φ := x_V (x_bind (h.imp fun x g p => by obtain ⟨k, e, p⟩ := p; rw [e]; exact ⟨_, _, rfl, p⟩))
theorem xv_isN (h : X (fV fa) Γ fun x Γ' => Φ (.bl (isNon x)) Γ') : X (fV (fIsN fa)) Γ Φ := x_V (x_bind (h.imp fun x g p => x_pure p))
theorem xv_notN (h : X (fV fa) Γ fun x Γ' => Φ (.bl !(isNon x)) Γ') : X (fV (fNotN fa)) Γ Φ := x_V (x_bind (h.imp fun x g p => x_pure p))
theorem xt_test (h : X (fV fa) Γ fun x Γ' => ∃ k, boolOf x = some k ∧ ΦB k Γ') : X (fTest fa) Γ ΦB := x_bind (h.imp fun _ _ p => x_of p)
theorem xt_tru (h : X (fV fa) Γ fun x Γ' => ∃ k, truD x = some k ∧ ΦB k Γ') : X (fTru fa) Γ ΦB := x_bind (h.imp fun _ _ p => x_of p)
theorem xt_not (h : X ft Γ fun k Γ' => ΦB (!k) Γ') : X (fNot ft) Γ ΦB := x_bind (h.imp fun _ _ p => x_pure p)
theorem xt_and (h : X ft Γ fun k Γ' => (k = true → X fu Γ' ΦB) ∧ (k = false → ΦB false Γ')) : X (fAnd ft fu) Γ ΦB := x_bind (h.imp fun k g p => by cases k with | true => exact p.1 rfl | false => exact ⟨_, _, rfl, p.2 rfl⟩)
theorem xt_or (h : X ft Γ fun k Γ' => (k = true → ΦB true Γ') ∧ (k = false → X fu Γ' ΦB)) : X (fOr ft fu) Γ ΦB := x_bind (h.imp fun k g p => by cases k with | true => exact ⟨_, _, rfl, p.1 rfl⟩ | false => exact p.2 rfl)
theorem xt_yes (h : ΦB true Γ) : X fYes Γ ΦB := ⟨_, _, rfl, h⟩
theorem xv_chain {f g : D → D → Option D} (h : X (fV fa) Γ fun x Γ1 => X (fV fb) Γ1 fun y Γ2 => ∃ k, (f x y).bind boolOf = some k ∧ (k = true → X (fV (fOp g (fC y) fc)) Γ2 Φ) ∧ (k = false → Φ (.bl false) Γ2)) (hb : ∀ x y, f x y = some (.bl true) ∨ f x y = some (.bl false) ∨ f x y = none) : X (fV (fChain f g fa fb fc)) Γ Φ := by
  refine x_V (x_bind (h.imp fun x g1 p => x_bind (p.imp fun y g2 p => ?_)))
  obtain ⟨k, e, p1, p2⟩ := p
  rcases hb x y with q | q | q <;> rw [q] at e ⊢
  · cases e; exact x_ofV (p1 rfl)
  · cases e; exact ⟨_, _, rfl, p2 rfl⟩
  · cases e
/-! calls -/
theorem x_callF {F : FF} {vs : List Vr} {as : List Sl} {b : Ob} (e : argsOf vs Γ = some (as, b)) (h : Fp F as (BackK b ΦV Γ)) : X (callF F vs) Γ ΦV := by
  obtain ⟨v, o, ef, p⟩ := h
  cases b with
  | none => exact ⟨v, Γ, by unfold callF; rw [e]; simp only [ef]; rfl, p⟩
  | tmp => exact ⟨v, Γ, by unfold callF; rw [e]; simp only [ef]; rfl, p⟩
  | slot i =>
    cases o with
    | none => exact p.elim
    | some o =>
      obtain ⟨k, o0, Γ2, e1, e2, p⟩ := p
      subst e2
      exact ⟨v, _, by unfold callF; rw [e]; simp only [ef, putBack, e1, Option.map_some], p⟩
theorem x_call {F : FF} (h : X fs Γ fun vs Γ' => X (callF F vs) Γ' ΦV) : X (fCall F fs) Γ ΦV := x_bind h
theorem xv_call {F : FF} (h : X fs Γ fun vs Γ' => X (callF F vs) Γ' (ValK Φ)) : X (fV (fCall F fs)) Γ Φ := x_V (x_bind h)
theorem xv_callN {F : FF} {j l : Nat} {ix : List Nat} (h : X fs Γ fun vs Γ' => X fr Γ' fun ws Γ2 => vs.length = j ∧ ws.length = l ∧ X (callF F (permR ix (vs ++ ws))) Γ2 (ValK Φ)) : X (fV (fCallN F j l ix fs fr)) Γ Φ :=
  x_V (x_bind (x_bind (h.imp fun _ _ p => x_bind (p.imp fun _ _ p => x_pure (by rw [if_pos ⟨p.1, p.2.1⟩]; exact p.2.2)))))
theorem xv_cmeth {F : FF} {cn : Str} (h : X fs Γ fun vs Γ' => X (callF F (.val (.cls cn) :: vs)) Γ' (ValK Φ)) : X (fV (fCMeth cn F fs)) Γ Φ := x_V (x_bind h)
theorem xv_cmethN {F : FF} {cn : Str} {l : Nat} {ix : List Nat} (h : X fs Γ fun vs Γ' => vs.length = l ∧ X (callF F (permR ix (.val (.cls cn) :: vs))) Γ' (ValK Φ)) : X (fV (fCMethN cn F l ix fs)) Γ Φ := x_V (x_bind (h.imp fun _ _ p => by rw [if_pos p.1]; exact p.2))
theorem bk_none {v : Vr} {o : Option OD} (h : ΦV v Γ) : BackK .none ΦV Γ v o := h
theorem bk_tmp {v : Vr} {o : Option OD} (h : ΦV v Γ) : BackK .tmp ΦV Γ v o := h
theorem bk_slot {v : Vr} {o : OD} {i k : Nat} {o0 : OD} (e : Γ[i]? = some (.own k o0)) (h : ∃ Γ2, Γ.set i (.own k o) = Γ2 ∧ ΦV v Γ2) : BackK (.slot i) ΦV Γ v (some o) := let ⟨Γ2, e2, p⟩ := h; ⟨k, o0, Γ2, e, e2, p⟩
theorem vk_val {d : D} (h : Φ d Γ) : ValK Φ (.val d) Γ := h
theorem ak_val {i : Nat} {d : D} (h : ∃ Γ2, Γ.set i (.val d) = Γ2 ∧ ΦS .nx Γ2) : AsgK i ΦS (.val d) Γ := h
theorem ak_own {i : Nat} {o : OD} (h : ∃ Γ2, Γ.set i (.own 0 o) = Γ2 ∧ ΦS .nx Γ2) : AsgK i ΦS (.own o) Γ := h
theorem rk_val {d : D} (h : ΦS (.rt (.val d)) Γ) : RetK ΦS (.val d) Γ := h
theorem rk_own {o : OD} (h : ΦS (.rt (.own o)) Γ) : RetK ΦS (.own o) Γ := h
/-- a def's promise, by its body -/
theorem f_def {k n : Nat} {b : FS} {as : List Sl} {Φ : Vr → Option OD → Prop} (hk : as.length = k) (h : X b (as ++ List.replicate (n - as.length) .no) (EndK as Φ)) : Fp (okF (defF k n b)) as Φ := by
  obtain ⟨fl, g, e, p⟩ := h
  cases fl with
  | nx => obtain ⟨o, eo, p⟩ := p; exact ⟨_, o, by unfold okF defF; rw [if_pos hk, e]; simp only [eo, Option.map_some], p⟩
  | bk => exact p.elim
  | ct => exact p.elim
  | rt v =>
    cases v with
    | val d => obtain ⟨o, eo, p⟩ := p; exact ⟨_, o, by unfold okF defF; rw [if_pos hk, e]; simp only [eo, Option.map_some], p⟩
    | own x => obtain ⟨o, eo, p⟩ := p; exact ⟨_, o, by unfold okF defF; rw [if_pos hk, e]; simp only [eo, Option.map_some], p⟩
    | slot i => exact p.elim
theorem en_val {as : List Sl} {o : Option OD} {d : D} {Φ : Vr → Option OD → Prop} (e : endO as Γ = some o) (p : Φ (.val d) o) : EndK as Φ (.rt (.val d)) Γ := ⟨o, e, p⟩
theorem en_own {as : List Sl} {o : Option OD} {d : OD} {Φ : Vr → Option OD → Prop} (e : endO as Γ = some o) (p : Φ (.own d) o) : EndK as Φ (.rt (.own d)) Γ := ⟨o, e, p⟩
theorem en_nx {as : List Sl} {o : Option OD} {Φ : Vr → Option OD → Prop} (e : endO as Γ = some o) (p : Φ (.val .non) o) : EndK as Φ .nx Γ := ⟨o, e, p⟩
theorem Fp.eq {F : FF} {as : List Sl} {v : Vr} {o : Option OD} (h : Fp F as fun v' o' => v' = v ∧ o' = o) : F as = some (.ok v o) := by obtain ⟨v', o', e, h1, h2⟩ := h; subst h1 h2; exact e
theorem fp_of {F : FF} {as : List Sl} {v : Vr} {o : Option OD} {Φ : Vr → Option OD → Prop} (e : F as = some (.ok v o)) (h : Φ v o) : Fp F as Φ := ⟨v, o, e, h⟩
theorem Fp.imp {F : FF} {as : List Sl} {Φ Φ' : Vr → Option OD → Prop} (h : Fp F as Φ) (i : ∀ v o, Φ v o → Φ' v o) : Fp F as Φ' := let ⟨v, o, e, p⟩ := h; ⟨v, o, e, i _ _ p⟩
/-! instances -/
theorem xv_fld {cn f : Str} (h : X fa Γ fun v Γ' => ∃ gs d, fieldsOf cn v Γ' = some gs ∧ gs.lookup f = some d ∧ Φ d Γ') : X (fV (fFld cn f fa)) Γ Φ := x_V (x_bind (h.imp fun v g p => by
  obtain ⟨gs, d, e1, e2, p⟩ := p
  exact ⟨.val d, g, by simp only [e1, e2, Option.map_some], p⟩))
theorem xv_prop {cn : Str} {F : FF} (h : X fa Γ fun v Γ' => ∃ gs, fieldsOf cn v Γ' = some gs ∧ X (callF F [v]) Γ' (ValK Φ)) : X (fV (fProp cn F fa)) Γ Φ := x_V (x_bind (h.imp fun v g p => by
  obtain ⟨gs, e, v2, g2, e2, p⟩ := p
  exact ⟨v2, g2, by simp only [e]; exact e2, p⟩))
theorem x_setF {cn f : Str} {i : Nat} (h : X (fV fa) Γ fun d Γ' => ∃ k gs Γ2, Γ'[i]? = some (.own k (.ins cn gs)) ∧ gs.length < 1000 ∧ Γ'.set i (.own k (.ins cn (putD f d gs))) = Γ2 ∧ ΦS .nx Γ2) : X (fSetF cn f i fa) Γ ΦS := x_bind (h.imp fun d g p => by
  obtain ⟨k, gs, Γ2, e1, e2, e3, p⟩ := p
  subst e3
  exact ⟨_, _, by simp [e1, e2], p⟩)
theorem xv_make {cn : Str} {F : FF} (h : X (fVs fs) Γ fun ds Γ' => Fp F (.own 1 (.ins cn []) :: ds.map .val) fun v o => v = .val .non ∧ ∃ c gs, o = some (.ins c gs) ∧ Φ (.ins c gs) Γ') : X (fV (fMake cn F fs)) Γ Φ := x_V (x_bind (h.imp fun ds g p => by
  obtain ⟨v, o, e, e1, c, gs, e2, p⟩ := p
  subst e1 e2
  rw [e]
  exact ⟨_, _, rfl, p⟩))
theorem xv_makeN {cn : Str} {F : FF} {j l : Nat} {ix : List Nat} (h : X (fVs fs) Γ fun vs Γ1 => X (fVs fr) Γ1 fun ws Γ' => vs.length = j ∧ ws.length = l ∧ Fp F (.own 1 (.ins cn []) :: (ix.map fun i => (vs ++ ws).getD i .non).map .val) fun v o => v = .val .non ∧ ∃ c gs, o = some (.ins c gs) ∧ Φ (.ins c gs) Γ') : X (fV (fMakeN cn F j l ix fs fr)) Γ Φ := x_V (x_bind (x_bind (h.imp fun vs g p => x_bind (p.imp fun ws g p => x_pure (by
  obtain ⟨h1, h2, v, o, e, e1, c, gs, e2, p⟩ := p
  subst e1 e2
  rw [if_pos ⟨h1, h2⟩]
  dsimp only
  rw [e]
  exact ⟨_, _, rfl, p⟩)))))
theorem xv_makeL {cn : Str} {F : FF} {i : Nat} (e : Γ[i]? = some (.val (.cls cn))) (h : X (fV (fMake cn F fs)) Γ Φ) : X (fV (fMakeL cn F i fs)) Γ Φ := by
  obtain ⟨v, g, e1, p⟩ := x_ofV (ΦV := ValK Φ) h
  exact x_V ⟨v, g, by unfold fMakeL; simp only [e, if_pos]; exact e1, p⟩
/-! targets -/
theorem xg_name {i : Nat} {d : D} (h : ∃ Γ2, Γ.set i (.val d) = Γ2 ∧ ΦU () Γ2) : X (pName i d) Γ ΦU := by obtain ⟨_, e, p⟩ := h; subst e; exact ⟨_, _, rfl, p⟩
theorem xg_nil (h : ΦU () Γ) : X (pNil []) Γ ΦU := ⟨_, _, rfl, h⟩
theorem xg_cons {f : D → FM Unit} {g : List D → FM Unit} {d : D} {ds : List D} (h : X (f d) Γ fun _ Γ1 => X (g ds) Γ1 ΦU) : X (pCons f g (d :: ds)) Γ ΦU := x_bind h
theorem xg_tup {k : Nat} {f : List D → FM Unit} {ds : List D} (hk : ds.length = k) (h : X (f ds) Γ ΦU) : X (pTup k f (.tup ds)) Γ ΦU := by unfold pTup; simp only [hk, if_pos]; exact h
theorem xg_unl {k : Nat} {f : List D → FM Unit} {ds : List D} (hk : ds.length = k) (h : X (f ds) Γ ΦU) : X (pUnl k f (.lst ds)) Γ ΦU := by unfold pUnl; simp only [hk, if_pos]; exact h
theorem xg_sub {i k0 : Nat} {o0 : OD} {d : D} (e0 : Γ[i]? = some (.own k0 o0)) (h : X (fV fb) Γ fun y Γ' => ∃ k ds j n Γ2, lstAt i Γ' = some (k, ds) ∧ y = .int j ∧ ixN ds.length j = some n ∧ Γ'.set i (.own k (.lst (ds.set n d))) = Γ2 ∧ ΦU () Γ2) : X (pSub i fb d) Γ ΦU := by
  obtain ⟨y, g, e, k, ds, j, n, Γ2, e1, e2, e3, e4, p⟩ := h
  subst e2 e4
  exact ⟨_, _, by unfold pSub hasOwn FM.bind; simp only [e0, e, e1, e3, Option.map_some], p⟩
theorem xv_ixO {i k0 : Nat} {o0 : OD} (e0 : Γ[i]? = some (.own k0 o0)) (h : X (fV fb) Γ fun y Γ' => ∃ k ds j d, lstAt i Γ' = some (k, ds) ∧ y = .int j ∧ atI ds j = some d ∧ Φ d Γ') : X (fV (fIxO i fb)) Γ Φ := by
  obtain ⟨y, g, e, k, ds, j, d, e1, e2, e3, p⟩ := h
  subst e2
  exact x_V ⟨.val d, g, by unfold fIxO hasOwn FM.bind; simp only [e0, e, e1, e3, Option.map_some], p⟩
theorem xv_append {i k : Nat} {ds : List D} (e0 : lstAt i Γ = some (k, ds)) (h : X (fV fb) Γ fun y Γ' => ∃ k ds Γ2, lstAt i Γ' = some (k, ds) ∧ ds.length < 16777216 ∧ Γ'.set i (.own k (.lst (ds ++ [y]))) = Γ2 ∧ Φ .non Γ2) : X (fV (fAppend i fb)) Γ Φ := by
  obtain ⟨y, g, e, k, ds, Γ2, e1, e2, e3, p⟩ := h
  subst e3
  exact x_V ⟨.val .non, _, by unfold fAppend hasLst FM.bind; simp only [e0, e, e1, e2, if_pos], p⟩
theorem xv_pop {i k : Nat} {ds : List D} {d : D} (e0 : lstAt i Γ = some (k, ds)) (e1 : ds[ds.length - 1]? = some d) (h : ∃ Γ2, Γ.set i (.own k (.lst ds.dropLast)) = Γ2 ∧ Φ d Γ2) : X (fV (fPop i)) Γ Φ := by
  obtain ⟨Γ2, e3, p⟩ := h
  subst e3
  exact x_V ⟨.val d, _, by unfold fPop; simp only [e0, e1, Option.map_some], p⟩
theorem xv_pk {Γs : EnvF} (hs : Γ.map seeO = Γs) (h : X (fV fa) Γs fun d _ => flat d = true ∧ Φ d Γ) : X (fV (fPk fa)) Γ Φ := by
  subst hs
  obtain ⟨v, g, e, p⟩ := x_ofV (ΦV := ValK fun d _ => flat d = true ∧ Φ d Γ) h
  cases v with
  | val d => exact x_V ⟨.val d, Γ, by unfold fPk; rw [e]; simp only [p.1, if_pos], p.2⟩
  | _ => exact p.elim
theorem xt_pk {Γs : EnvF} (hs : Γ.map seeO = Γs) (h : X ft Γs fun k _ => ΦB k Γ) : X (fPkT ft) Γ ΦB := by
  subst hs
  obtain ⟨k, g, e, p⟩ := h
  exact ⟨k, Γ, by unfold fPkT; rw [e], p⟩
/-! methods, slices, f-strings -/
theorem xv_bm {T : String} {f : D → List D → Option D} (h : X (fV fa) Γ fun x Γ1 => tyS x = some T ∧ X (fVs fs) Γ1 fun xs Γ2 => ∃ z, f x xs = some z ∧ Φ z Γ2) : X (fV (fBM T f fa fs)) Γ Φ := x_V (x_bind (h.imp fun x g p => by
  rw [if_pos p.1]
  exact x_bind (p.2.imp fun _ _ p => x_ofV (x_R (x_of p)))))
theorem xv_bm0 {T : String} {f : D → List D → Option D} (h : X (fV fa) Γ fun x Γ1 => tyS x = some T ∧ ∃ z, f x [] = some z ∧ Φ z Γ1) : X (fV (fBM0 T f fa)) Γ Φ := x_V (x_bind (h.imp fun x g p => by
  rw [if_pos p.1]
  exact x_ofV (x_R (x_of p.2))))
theorem xv_sl {fl fh : FO} (h : X (fV fa) Γ fun x Γ1 => X fl Γ1 fun lo Γ2 => X fh Γ2 fun hi Γ3 => ∃ z, slD x lo hi = some z ∧ Φ z Γ3) : X (fV (fSl fa fl fh)) Γ Φ := x_V (x_bind (h.imp fun x g p => x_bind (p.imp fun lo g p => x_bind (p.imp fun hi g p => x_ofV (x_R (x_of p))))))
theorem xo_no (h : ΦO none Γ) : X fNoPart Γ ΦO := ⟨_, _, rfl, h⟩
theorem xo_some (h : X (fV fa) Γ fun x Γ1 => ∃ i, x = .int i ∧ ΦO (some i) Γ1) : X (fPart fa) Γ ΦO := x_bind (h.imp fun x g p => by obtain ⟨i, e, p⟩ := p; subst e; exact ⟨_, _, rfl, p⟩)
theorem xv_revS (h : X (fV fa) Γ fun x Γ1 => ∃ z, x = .str z ∧ z.length ≤ 16777216 ∧ Φ (.str (revS z)) Γ1) : X (fV (fRevS fa)) Γ Φ := x_V (x_bind (h.imp fun x g p => by obtain ⟨z, e, e2, p⟩ := p; subst e; simp only [e2, if_pos]; exact ⟨_, _, rfl, p⟩))
theorem xv_revL (h : X (fV fa) Γ fun x Γ1 => ∃ z, (match x with | .lst ds => some (.lst ds.reverse) | .scr ns => some (.lst (ns.map D.int).reverse) | _ => none) = some z ∧ Φ z Γ1) : X (fV (fRevL fa)) Γ Φ := x_V (x_bind (h.imp fun x g p => x_ofV (x_R (x_of p))))
theorem xv_fmt (h : X (fV fa) Γ fun x Γ1 => ∃ z, fmtD x = some z ∧ Φ z Γ1) : X (fV (fFmt fa)) Γ Φ := x_V (x_bind (h.imp fun x g p => x_ofV (x_R (x_of p))))
theorem xv_joined {l : List FE} (h : X (fJs l Str.empty) Γ fun z Γ1 => Φ (.str z) Γ1) : X (fV (fJoined l)) Γ Φ := x_V (x_bind (h.imp fun _ _ p => x_pure p))
theorem xj_nil {acc : Str} {ΦT : Str → EnvF → Prop} (h : ΦT acc Γ) : X (fJs [] acc) Γ ΦT := ⟨_, _, rfl, h⟩
theorem xj_cons {l : List FE} {acc : Str} {ΦT : Str → EnvF → Prop} (h : X (fV fa) Γ fun x Γ1 => ∃ y, x = .str y ∧ (acc ++ y).length ≤ 16777216 ∧ X (fJs l (acc ++ y)) Γ1 ΦT) : X (fJs (fa :: l) acc) Γ ΦT := x_bind (h.imp fun x g p => by obtain ⟨y, e, e2, p⟩ := p; subst e; simp only [e2, if_pos]; exact p)
/-! what is walked; comprehensions -/
theorem xw_any {Φ : List D → EnvF → Prop} (h : X (fV fa) Γ fun d Γ' => ∃ ds, itemsOf d = some ds ∧ Φ ds Γ') : X (wAny fa) Γ Φ := x_bind (h.imp fun _ _ p => x_of p)
theorem xw_rng1 {Φ : List D → EnvF → Prop} (h : X (fVs fs) Γ fun ds Γ' => ∃ j, ds = [.int j] ∧ (-(2 ^ 62) ≤ j ∧ j < 2 ^ 62) ∧ Φ (rangeD 0 j) Γ') : X (wRng1 fs) Γ Φ := x_bind (h.imp fun _ _ p => by obtain ⟨j, e, e2, p⟩ := p; subst e; simp only [e2, and_self, if_pos]; exact ⟨_, _, rfl, p⟩)
theorem xw_rng2 {Φ : List D → EnvF → Prop} (h : X (fVs fs) Γ fun ds Γ' => ∃ i j, ds = [.int i, .int j] ∧ (-(2 ^ 62) ≤ i ∧ i < 2 ^ 62 ∧ -(2 ^ 62) ≤ j ∧ j < 2 ^ 62) ∧ Φ (rangeD i j) Γ') : X (wRng2 fs) Γ Φ := x_bind (h.imp fun _ _ p => by obtain ⟨i, j, e, e2, p⟩ := p; subst e; simp only [e2, and_self, if_pos]; exact ⟨_, _, rfl, p⟩)
theorem xv_lc {w : FW} {g : D → FM Unit} {vs : List Nat} (h : X w Γ fun ds Γ' => ds.length < 16777216 ∧ X (lcL g ft fa vs ds []) Γ' fun acc Γ2 => Φ (.lst acc) Γ2) : X (fV (fLc w g ft fa vs)) Γ Φ := x_V (x_bind (h.imp fun ds g p => by rw [if_pos p.1]; exact x_bind (p.2.imp fun _ _ p => x_pure p)))
theorem x_lcO {w : FW} {g : D → FM Unit} {vs : List Nat} (h : X w Γ fun ds Γ' => ds.length < 16777216 ∧ X (lcL g ft fa vs ds []) Γ' fun acc Γ2 => ΦV (.own (.lst acc)) Γ2) : X (fLcO w g ft fa vs) Γ ΦV := x_bind (h.imp fun ds g p => by rw [if_pos p.1]; exact x_bind (p.2.imp fun _ _ p => x_pure p))
/-- a comprehension, by what holds when the items ds are left and acc is made -/
theorem x_lcL {g : D → FM Unit} {vs : List Nat} (I : List D → List D → EnvF → Prop) {ds acc : List D} (h : I ds acc Γ)
    (step : ∀ d ds acc Γ, I (d :: ds) acc Γ → ∃ Γw, wipeF Γ vs = Γw ∧ (vs.all fun v => !isOwn (Γ.getD v .no)) = true ∧ X (g d) Γw fun _ Γ1 => X ft Γ1 fun k Γ2 => (k = true → X (fV fa) Γ2 fun y Γ3 => (backF Γ Γ3 vs).map isOwn = Γ.map isOwn ∧ I ds (acc ++ [y]) (backF Γ Γ3 vs)) ∧ (k = false → (backF Γ Γ2 vs).map isOwn = Γ.map isOwn ∧ I ds acc (backF Γ Γ2 vs)))
    (fin : ∀ acc Γ, I [] acc Γ → ΦL acc Γ) : X (lcL g ft fa vs ds acc) Γ ΦL := by
  induction ds generalizing Γ acc with
  | nil => exact ⟨_, _, rfl, fin _ _ h⟩
  | cons d ds ih =>
    obtain ⟨Γw, ew, ho, p⟩ := step d ds acc Γ h
    subst ew
    have t : X (lcTurn g ft fa d acc) (wipeF Γ vs) fun acc' Γ3 => (backF Γ Γ3 vs).map isOwn = Γ.map isOwn ∧ I ds acc' (backF Γ Γ3 vs) := x_bind (p.imp fun _ _ p => x_bind (p.imp fun k g2 p => by
      cases k with
      | true => rw [if_pos rfl]; exact x_bind ((p.1 rfl).imp fun _ _ p => x_pure p)
      | false => rw [if_neg (by simp)]; exact x_pure (p.2 rfl)))
    obtain ⟨acc', Γ3, e, e2, hi⟩ := t
    obtain ⟨r, Γe, e3, pe⟩ := ih hi
    exact ⟨r, Γe, by unfold lcL; rw [e]; simp only [ho, e2, and_self, if_pos]; exact e3, pe⟩
end
end DF

set_option linter.all false
set_option maxRecDepth 100000
set_option maxHeartbeats 4000000
namespace DF
open PySem PySem.Spec PyProof.Rows L2
variable [TbC]
section
variable {x y z : D} {b : Bool} {xs : List D} {Φ : D → Prop} {ΦB : Bool → Prop} {ΦE : EnvF → Prop} {ΦL : List D → Prop}
theorem e_addD (e : addD x y = some z) (p : Φ z) : ∃ z, addD x y = some z ∧ Φ z := ⟨z, e, p⟩
theorem e_subD (e : subD x y = some z) (p : Φ z) : ∃ z, subD x y = some z ∧ Φ z := ⟨z, e, p⟩
theorem e_mulD (e : mulD x y = some z) (p : Φ z) : ∃ z, mulD x y = some z ∧ Φ z := ⟨z, e, p⟩
theorem e_modD (e : modD x y = some z) (p : Φ z) : ∃ z, modD x y = some z ∧ Φ z := ⟨z, e, p⟩
theorem e_fdivD (e : fdivD x y = some z) (p : Φ z) : ∃ z, fdivD x y = some z ∧ Φ z := ⟨z, e, p⟩
theorem e_powD (e : powD x y = some z) (p : Φ z) : ∃ z, powD x y = some z ∧ Φ z := ⟨z, e, p⟩
theorem e_ltD (e : ltD x y = some z) (p : Φ z) : ∃ z, ltD x y = some z ∧ Φ z := ⟨z, e, p⟩
theorem e_leD (e : leD x y = some z) (p : Φ z) : ∃ z, leD x y = some z ∧ Φ z := ⟨z, e, p⟩
theorem e_gtD (e : gtD x y = some z) (p : Φ z) : ∃ z, gtD x y = some z ∧ Φ z := ⟨z, e, p⟩
theorem e_geD (e : geD x y = some z) (p : Φ z) : ∃ z, geD x y = some z ∧ Φ z := ⟨z, e, p⟩
theorem e_eqD (e : eqD x y = some z) (p : Φ z) : ∃ z, eqD x y = some z ∧ Φ z := ⟨z, e, p⟩
theorem e_neD (e : neD x y = some z) (p : Φ z) : ∃ z, neD x y = some z ∧ Φ z := ⟨z, e, p⟩
theorem e_ixD (e : ixD x y = some z) (p : Φ z) : ∃ z, ixD x y = some z ∧ Φ z := ⟨z, e, p⟩
theorem e_inSD (e : inSD x y = some z) (p : Φ z) : ∃ z, inSD x y = some z ∧ Φ z := ⟨z, e, p⟩
theorem e_mulSD (e : mulSD x y = some z) (p : Φ z) : ∃ z, mulSD x y = some z ∧ Φ z := ⟨z, e, p⟩
theorem e_negD (e : negD x = some z) (p : Φ z) : ∃ z, negD x = some z ∧ Φ z := ⟨z, e, p⟩
theorem e_lenD (e : lenD xs = some z) (p : Φ z) : ∃ z, lenD xs = some z ∧ Φ z := ⟨z, e, p⟩
theorem e_absD (e : absD xs = some z) (p : Φ z) : ∃ z, absD xs = some z ∧ Φ z := ⟨z, e, p⟩
theorem e_intOf (e : intOf xs = some z) (p : Φ z) : ∃ z, intOf xs = some z ∧ Φ z := ⟨z, e, p⟩
theorem e_strOf (e : strOf xs = some z) (p : Φ z) : ∃ z, strOf xs = some z ∧ Φ z := ⟨z, e, p⟩
theorem e_divmodD (e : divmodD xs = some z) (p : Φ z) : ∃ z, divmodD xs = some z ∧ Φ z := ⟨z, e, p⟩
theorem e_min2D (e : min2D xs = some z) (p : Φ z) : ∃ z, min2D xs = some z ∧ Φ z := ⟨z, e, p⟩
theorem e_max2D (e : max2D xs = some z) (p : Φ z) : ∃ z, max2D xs = some z ∧ Φ z := ⟨z, e, p⟩
theorem e_allD (e : allD xs = some z) (p : Φ z) : ∃ z, allD xs = some z ∧ Φ z := ⟨z, e, p⟩
theorem e_anyD (e : anyD xs = some z) (p : Φ z) : ∃ z, anyD xs = some z ∧ Φ z := ⟨z, e, p⟩
theorem e_sumD (e : sumD xs = some z) (p : Φ z) : ∃ z, sumD xs = some z ∧ Φ z := ⟨z, e, p⟩
theorem e_gcdD (e : gcdD xs = some z) (p : Φ z) : ∃ z, gcdD xs = some z ∧ Φ z := ⟨z, e, p⟩
theorem e_tupOf (e : tupOf xs = some z) (p : Φ z) : ∃ z, tupOf xs = some z ∧ Φ z := ⟨z, e, p⟩
theorem e_lstOf (e : lstOf xs = some z) (p : Φ z) : ∃ z, lstOf xs = some z ∧ Φ z := ⟨z, e, p⟩
theorem e_reprD (e : reprD xs = some z) (p : Φ z) : ∃ z, reprD xs = some z ∧ Φ z := ⟨z, e, p⟩
theorem e_boolOf (e : boolOf x = some b) (p : ΦB b) : ∃ b, boolOf x = some b ∧ ΦB b := ⟨b, e, p⟩
theorem e2_boolOf {P Q : Bool → Prop} (e : boolOf x = some b) (p : P b) (q : Q b) : ∃ b, boolOf x = some b ∧ P b ∧ Q b := ⟨b, e, p, q⟩
theorem e_truD (e : truD x = some b) (p : ΦB b) : ∃ b, truD x = some b ∧ ΦB b := ⟨b, e, p⟩
theorem e2_truD {P Q : Bool → Prop} (e : truD x = some b) (p : P b) (q : Q b) : ∃ b, truD x = some b ∧ P b ∧ Q b := ⟨b, e, p, q⟩
theorem e_joinD (e : joinD x xs = some z) (p : Φ z) : ∃ z, joinD x xs = some z ∧ Φ z := ⟨z, e, p⟩
theorem e_splitD (e : splitD x xs = some z) (p : Φ z) : ∃ z, splitD x xs = some z ∧ Φ z := ⟨z, e, p⟩
theorem e_countD (e : countD x xs = some z) (p : Φ z) : ∃ z, countD x xs = some z ∧ Φ z := ⟨z, e, p⟩
theorem e_rmPreD (e : rmPreD x xs = some z) (p : Φ z) : ∃ z, rmPreD x xs = some z ∧ Φ z := ⟨z, e, p⟩
theorem e_fmtD (e : fmtD x = some z) (p : Φ z) : ∃ z, fmtD x = some z ∧ Φ z := ⟨z, e, p⟩
theorem e_itemsOf (e : itemsOf x = some xs) (p : ΦL xs) : ∃ z, itemsOf x = some z ∧ ΦL z := ⟨xs, e, p⟩
theorem e_slD {lo hi : Option Int} (e : slD x lo hi = some z) (p : Φ z) : ∃ z, slD x lo hi = some z ∧ Φ z := ⟨z, e, p⟩
theorem e_isiD {cs : List Str} {tb : ITab} (e : isiD cs tb xs = some z) (p : Φ z) : ∃ z, isiD cs tb xs = some z ∧ Φ z := ⟨z, e, p⟩
theorem e_inKD {n : Str} {tb : List (Str × D)} (e : inKD n tb x y = some z) (p : Φ z) : ∃ z, inKD n tb x y = some z ∧ Φ z := ⟨z, e, p⟩
theorem e_ixKD {n : Str} {tb : List (Str × D)} (e : ixKD n tb x y = some z) (p : Φ z) : ∃ z, ixKD n tb x y = some z ∧ Φ z := ⟨z, e, p⟩
theorem e_intD {f : Int → Int → D} (e : intD f x y = some z) (p : Φ z) : ∃ z, intD f x y = some z ∧ Φ z := ⟨z, e, p⟩
theorem e_boolI {n : Str} (e : boolI n xs = some z) (p : Φ z) : ∃ z, boolI n xs = some z ∧ Φ z := ⟨z, e, p⟩
theorem e_ixO {Γ : EnvF} {i k : Nat} {ds : List D} {j : Int} {d : D} (e1 : lstAt i Γ = some (k, ds)) (e2 : atI ds j = some d) (p : Φ d) : ∃ k ds j' d, lstAt i Γ = some (k, ds) ∧ D.int j = .int j' ∧ atI ds j' = some d ∧ Φ d := ⟨k, ds, j, d, e1, rfl, e2, p⟩
theorem e_sub {Γ Γ2 : EnvF} {i k n : Nat} {ds : List D} {j : Int} {d : D} (e1 : lstAt i Γ = some (k, ds)) (e3 : ixN ds.length j = some n) (e4 : Γ.set i (.own k (.lst (ds.set n d))) = Γ2) (p : ΦE Γ2) : ∃ k ds j' n Γ2, lstAt i Γ = some (k, ds) ∧ D.int j = .int j' ∧ ixN ds.length j' = some n ∧ Γ.set i (.own k (.lst (ds.set n d))) = Γ2 ∧ ΦE Γ2 := ⟨k, ds, j, n, Γ2, e1, rfl, e3, e4, p⟩
theorem e_set {Γ Γ2 : EnvF} {ΦE : EnvF → Prop} (e : Γ = Γ2) (p : ΦE Γ2) : ∃ Γ2, Γ = Γ2 ∧ ΦE Γ2 := ⟨Γ2, e, p⟩
theorem e_some {i : Int} {ΦI : Int → Prop} (p : ΦI i) : ∃ j, D.int i = .int j ∧ ΦI j := ⟨i, rfl, p⟩
theorem e_fields {c : Str} {v : Vr} {Γ : EnvF} {gs : List (Str × D)} {f : Str} {d : D} (e : fieldsOf c v Γ = some gs) (e2 : gs.lookup f = some d) (p : Φ d) : ∃ gs d, fieldsOf c v Γ = some gs ∧ gs.lookup f = some d ∧ Φ d := ⟨gs, d, e, e2, p⟩
theorem e_has {c : Str} {v : Vr} {Γ : EnvF} {gs : List (Str × D)} {P : Prop} (e : fieldsOf c v Γ = some gs) (p : P) : ∃ gs, fieldsOf c v Γ = some gs ∧ P := ⟨gs, e, p⟩
theorem e_rng {j : Int} {ΦI : Int → Prop} (h : -(2 ^ 62) ≤ j ∧ j < 2 ^ 62) (p : ΦI j) : ∃ i, [D.int j] = [.int i] ∧ (-(2 ^ 62) ≤ i ∧ i < 2 ^ 62) ∧ ΦI i := ⟨j, rfl, h, p⟩
theorem e_par {Γ Γ2 : EnvF} {i j : Nat} (e : (Γ.set i (.val x)).set j (.val y) = Γ2) (p : ΦE Γ2) : ∃ u v, [x, y] = [u, v] ∧ ∃ Γ2, (Γ.set i (.val u)).set j (.val v) = Γ2 ∧ ΦE Γ2 := ⟨x, y, rfl, Γ2, e, p⟩
theorem e_par3 {Γ Γ2 : EnvF} {i j l : Nat} (e : ((Γ.set i (.val x)).set j (.val y)).set l (.val z) = Γ2) (p : ΦE Γ2) : ∃ u v w, [x, y, z] = [u, v, w] ∧ ∃ Γ2, ((Γ.set i (.val u)).set j (.val v)).set l (.val w) = Γ2 ∧ ΦE Γ2 := ⟨x, y, z, rfl, Γ2, e, p⟩
theorem e_setF {Γ Γ2 : EnvF} {i k : Nat} {c f : Str} {d : D} {gs : List (Str × D)} (e1 : Γ[i]? = some (.own k (.ins c gs))) (e2 : gs.length < 1000) (e3 : Γ.set i (.own k (.ins c (putD f d gs))) = Γ2) (p : ΦE Γ2) : ∃ k gs Γ2, Γ[i]? = some (.own k (.ins c gs)) ∧ gs.length < 1000 ∧ Γ.set i (.own k (.ins c (putD f d gs))) = Γ2 ∧ ΦE Γ2 := ⟨k, gs, Γ2, e1, e2, e3, p⟩
theorem e_str {z : Str} {ΦZ : Str → Prop} (p : ΦZ z) : ∃ y, D.str z = .str y ∧ ΦZ y := ⟨z, rfl, p⟩
theorem e_rev {ds : List D} (p : Φ (.lst ds.reverse)) : ∃ z, (match D.lst ds with | .lst ds => some (D.lst ds.reverse) | .scr ns => some (.lst (ns.map D.int).reverse) | _ => none) = some z ∧ Φ z := ⟨_, rfl, p⟩
theorem mulOk_r {i j : Int} (h : -(2 ^ 64) < j) (h2 : j < 2 ^ 64) : mulOk i j = true := by unfold mulOk; simp only [h, h2, decide_true, Bool.and_self, Bool.or_true, Bool.true_or]
theorem mulOk_l {i j : Int} (h : -(2 ^ 64) < i) (h2 : i < 2 ^ 64) : mulOk i j = true := by unfold mulOk; simp only [h, h2, decide_true, Bool.and_self, Bool.or_true, Bool.true_or]
theorem r_mul {i j : Int} (h : mulOk i j = true) (p : Φ (.int (i * j))) : ∃ z, mulD (.int i) (.int j) = some z ∧ Φ z := ⟨_, by unfold mulD; simp only [h, if_pos], p⟩
theorem r_mod {i j : Int} (h : 0 < j) (p : Φ (.int (i % j))) : ∃ z, modD (.int i) (.int j) = some z ∧ Φ z := ⟨_, by unfold modD intC; simp only [h, decide_true, if_pos], p⟩
theorem r_fdiv {i j : Int} (h : 0 < j) (h2 : j.natAbs.log2 < 9000) (p : Φ (.int (i / j))) : ∃ z, fdivD (.int i) (.int j) = some z ∧ Φ z := ⟨_, by unfold fdivD intC; simp only [h, h2, decide_true, Bool.and_self, if_pos], p⟩
theorem r_divmod {i j : Int} (h : 0 < j) (h2 : j < 1073741824) (p : Φ (.tup [.int (i / j), .int (i % j)])) : ∃ z, divmodD [.int i, .int j] = some z ∧ Φ z := ⟨_, by unfold divmodD; simp only [h, h2, and_self, if_pos], p⟩
theorem r_str {i : Int} (h : i.natAbs.log2 < 1920) (p : Φ (.str (toString i))) : ∃ z, strOf [.int i] = some z ∧ Φ z := ⟨_, by unfold strOf; simp only [h, if_pos], p⟩
theorem r_addS {i j : Str} (h : i.length + j.length ≤ 16777216) (p : Φ (.str (i ++ j))) : ∃ z, addD (.str i) (.str j) = some z ∧ Φ z := ⟨_, by unfold addD; simp only [h, if_pos], p⟩
theorem r_addL {i j : List D} (h : i.length + j.length ≤ 16777216) (p : Φ (.lst (i ++ j))) : ∃ z, addD (.lst i) (.lst j) = some z ∧ Φ z := ⟨_, by unfold addD; simp only [h, if_pos], p⟩
theorem r_addT {i j : List D} (h : i.length + j.length ≤ 16777216) (p : Φ (.tup (i ++ j))) : ∃ z, addD (.tup i) (.tup j) = some z ∧ Φ z := ⟨_, by unfold addD; simp only [h, if_pos], p⟩
end
end DF

set_option linter.all false
set_option maxRecDepth 100000
set_option maxHeartbeats 4000000
namespace DF
open PySem PySem.Spec PyProof.Rows L2 TL NumText
variable [TbC]
/-! ### the signs of a number -/
def tlI (i : Int) : List Nat := if i < 0 then 45 :: numL i.natAbs else numL i.natAbs
theorem tl_int (i : Int) : tl (Str.ofString (toString i)) = tlI i := by
  cases i with
  | ofNat m => 
    have := tl_num m
    unfold tlI
    rw [if_neg (by simp)]
    exact this
  | negSucc m =>
    unfold tlI
    rw [if_pos (Int.negSucc_lt_zero m)]
    rw [tl_ofString]
    have e : toString (Int.negSucc m) = "-" ++ toString (((m + 1 : Nat)) : Int) := rfl
    rw [e, String.toList_append, List.map_append, ← tl_ofString (toString _), tl_num]
    rfl
theorem tlI_free {i : Int} {s : Nat} (h : s < 45 ∨ 57 < s) : s ∉ tlI i := by
  unfold tlI
  have f := numL_free (n := i.natAbs) (s := s) (by omega)
  split
  · intro hm
    rcases List.mem_cons.mp hm with e | e
    · omega
    · exact f e
  · exact f
theorem tlI_len {i : Int} {k : Nat} (hk : 0 < k) (h : i.natAbs < 10 ^ k) : (tlI i).length ≤ k + 1 := by
  have := numL_len hk h
  unfold tlI
  split
  · rw [List.length_cons]; omega
  · omega
theorem neg_text {i : Int} (h : i < 0) : (Str.ofString "-" ++ Str.ofString (toString (-i)) : Str) = Str.ofString (toString i) := by
  refine ext_tl ?_
  rw [tl_append, tl_int, tl_int]
  unfold tlI
  rw [if_pos h, if_neg (by omega), Int.natAbs_neg]
  rfl
theorem intText_int {z : Str} {i : Int} (h : tl z = tlI i) (hl : z.length ≤ 640) : intText? z = some i := by
  unfold tlI at h
  split at h
  · rename_i hi
    rw [intText_neg h (numL_digits _) (numL_ne _) (by omega), numL_val]
    congr 1; omega
  · rename_i hi
    have hd : AllDigits z.cps.toList := by have := numL_digits i.natAbs; rw [← h] at this; exact this
    rw [intText_digits hd (by have := numL_ne i.natAbs; rw [← h] at this; exact this) (by omega)]
    have : digitsVal z.cps.toList = i.natAbs := by have := numL_val i.natAbs; rw [← h] at this; exact this
    rw [this]
    congr 1; omega
theorem str_len (z : Str) : z.length = (tl z).length := len_tl z
theorem tl_chr (c : Nat) : tl (⟨#[c]⟩ : Str) = [c] := rfl
theorem rmPre_int {z : Str} {i : Int} (h : tl z = tlI i) : tl (Txt.removeprefix z "-") = numL i.natAbs := by
  unfold Txt.removeprefix
  have es : Builtin.Str.subAt z "-" 0 = ((tl z).take 1 == [45]) := by rw [StrLaws.subAt_eq]; rfl
  rw [es, h]
  unfold tlI
  by_cases hi : i < 0
  · rw [if_pos hi]
    have : ((45 :: numL i.natAbs).take 1 == [45]) = true := by simp
    rw [this, if_pos rfl]
    have hl : z.length = (numL i.natAbs).length + 1 := by rw [len_tl, h]; unfold tlI; rw [if_pos hi]; rfl
    have e : Txt.affix z (some ((Str.ofString "-").length, z.length)) = Builtin.Str.strSub z 1 z.length := by
      show (if z.length - 1 == z.length then z else Builtin.Str.strSub z 1 z.length) = _
      rw [if_neg (by simp; omega)]
    rw [show ("-" : Str) = Str.ofString "-" from rfl, e, tl_strSub_end, h]
    unfold tlI
    rw [if_pos hi]; rfl
  · rw [if_neg hi]
    have : ((numL i.natAbs).take 1 == [45]) = false := by
      have d := numL_digits i.natAbs
      cases e : numL i.natAbs with
      | nil => rfl
      | cons a l =>
        rw [e] at d
        have := d a List.mem_cons_self
        simp; omega
    rw [this]
    show tl z = _
    rw [h]; unfold tlI; rw [if_neg hi]
theorem inS_chr {c : Nat} {z : Str} : inSD (.str ⟨#[c]⟩) (.str z) = some (.bl (decide (c ∈ tl z))) := by
  show some (D.bl _) = _
  rw [StrLaws.found_one]
theorem count_chr (z : Str) (c : Nat) : Txt.count z ⟨#[c]⟩ = (((tl z).count c : Nat) : Int) := by
  rw [count_cnt]
  show cnt c (tl z) = _
  generalize tl z = l
  induction l with
  | nil => rfl
  | cons a l ih =>
    rw [cnt_cons, ih, List.count_cons]
    by_cases h : a = c
    · subst h; simp; omega
    · simp [h]
end DF

set_option linter.all false
set_option maxRecDepth 100000
set_option maxHeartbeats 4000000
namespace DF
open PySem PySem.Spec PyProof.Rows L2 TL NumText
variable [TbC]
/-! ### repr and == of plain data: bounds -/
mutual
def big : D → Nat
  | .int _ => 1921 | .non => 4 | .bl _ => 5 | .tup ds => bigL ds + 3 | .lst ds => bigL ds + 3
  | .str z => 10 * z.length + 2 | .cls _ => 0 | .ty _ => 0 | .scr _ => 0 | .ins _ _ => 0 | .dct _ => 0
def bigL : List D → Nat
  | [] => 0 | d :: ds => big d + 2 + bigL ds
end
mutual
def okD : D → Prop
  | .int i => i.natAbs < 10 ^ 200 | .non => True | .bl _ => True | .tup ds => okL ds | .lst ds => okL ds
  | .str z => ∀ c ∈ tl z, c < 1114112 | .cls _ => False | .ty _ => False | .scr _ => False | .ins _ _ => False | .dct _ => False
def okL : List D → Prop
  | [] => True | d :: ds => okD d ∧ okL ds
end
mutual
def dep : D → Nat
  | .int _ => 0 | .non => 0 | .bl _ => 0 | .tup ds => depL ds + 1 | .lst ds => depL ds + 1
  | .str _ => 0 | .cls _ => 0 | .ty _ => 0 | .scr _ => 0 | .ins _ _ => 0 | .dct _ => 0
def depL : List D → Nat
  | [] => 0 | d :: ds => max (dep d) (depL ds)
end
set_option exponentiation.threshold 3000 in
theorem log_lt {x : Nat} (h : x < 10 ^ 200) : x.log2 < 700 := by
  by_cases h0 : x = 0
  · subst h0; decide
  · rw [Nat.log2_lt h0]
    exact Nat.lt_trans h (by decide)
structure ShD (d : D) (p : PyData) (b k : Nat) : Prop where
  sh : p.showable = true
  ln : p.shown.length ≤ b
  nd : p.hasDict = false
  pu : pur d = true
  dp : p.depth = k
structure ShL (ds : List D) (ps : List PyData) (b k : Nat) : Prop where
  sh : PyData.showableAll ps = true
  ln : ((PyData.shownAll ps).map (·.length)).sum + 2 * (PyData.shownAll ps).length ≤ b
  nd : PyData.hasDictAll ps = false
  pu : purL ds = true
  dp : PyData.depthAll ps = k
mutual
theorem shown_le : ∀ d : D, okD d → ShD d (py d) (big d) (dep d)
  | .int i, h => by
    have h' : i.natAbs < 10 ^ 200 := h
    refine ⟨?_, ?_, rfl, rfl, rfl⟩
    · show decide (i.natAbs.log2 < 1920) = true
      exact decide_eq_true (Nat.lt_trans (log_lt h') (by decide))
    · exact int_text_len_1921 (Nat.lt_trans (log_lt h') (by decide))
  | .non, _ => ⟨rfl, (by show (Str.ofString "None").length ≤ 4; decide +kernel), rfl, rfl, rfl⟩
  | .bl b, _ => ⟨rfl, (by cases b; (show (Str.ofString "False").length ≤ 5; decide +kernel); (show (Str.ofString "True").length ≤ 5; decide +kernel)), rfl, rfl, rfl⟩
  | .tup ds, h => by
    obtain ⟨h1, h2, h3, h4, h5⟩ := shownL_le ds h
    refine ⟨h1, ?_, h3, h4, by show PyData.depthAll (pyL ds) + 1 = depL ds + 1; rw [h5]⟩
    exact Nat.le_trans (tupleText_len_le _) (Nat.add_le_add_right h2 3)
  | .lst ds, h => by
    obtain ⟨h1, h2, h3, h4, h5⟩ := shownL_le ds h
    refine ⟨h1, ?_, h3, h4, by show PyData.depthAll (pyL ds) + 1 = depL ds + 1; rw [h5]⟩
    exact Nat.le_trans (listText_len_le _) (Nat.add_le_add_right h2 3)
  | .str z, h => by
    have h' : ∀ c ∈ z.cps.toList, c < 1114112 := h
    refine ⟨rfl, ?_, rfl, rfl, rfl⟩
    show (PyData.str z).shown.length ≤ _
    rw [PyData.shown_str]
    exact StrLaws.reprText_len z fun c hc => Nat.lt_trans (h' c hc) (by decide)
  | .cls _, h => h.elim
  | .ty _, h => h.elim
  | .scr _, h => h.elim
  | .ins _ _, h => h.elim
  | .dct _, h => h.elim
theorem shownL_le : ∀ ds : List D, okL ds → ShL ds (pyL ds) (bigL ds) (depL ds)
  | [], _ => ⟨rfl, Nat.le_refl _, rfl, rfl, rfl⟩
  | d :: ds, h => by
    obtain ⟨h1, h2, h3, h4, h5⟩ := shown_le d h.1
    obtain ⟨k1, k2, k3, k4, k5⟩ := shownL_le ds h.2
    refine ⟨?_, ?_, ?_, ?_, ?_⟩
    · show (PyData.showable (py d) && PyData.showableAll (pyL ds)) = true
      rw [h1, k1]; rfl
    · show (((py d).shown :: PyData.shownAll (pyL ds)).map (·.length)).sum + 2 * ((py d).shown :: PyData.shownAll (pyL ds)).length ≤ big d + 2 + bigL ds
      rw [List.map_cons, List.sum_cons, List.length_cons]
      omega
    · show (PyData.hasDict (py d) || PyData.hasDictAll (pyL ds)) = false
      rw [h3, k3]; rfl
    · show (pur d && purL ds) = true
      rw [h4, k4]; rfl
    · show max (PyData.depth (py d)) (PyData.depthAll (pyL ds)) = max (dep d) (depL ds)
      rw [h5, k5]
end
theorem log_ok {x : Nat} (h : x < 10 ^ 200) : x.log2 < 1920 := Nat.lt_trans (log_lt h) (by decide)
theorem r_repr {x : D} {Φ : D → Prop} (ho : okD x) (hr : ∃ ds, x = .tup ds ∨ x = .lst ds) (hb : big x ≤ 16777216) (hd : dep x ≤ 64) (p : Φ (.str (py x).shown)) : ∃ z, reprD [x] = some z ∧ Φ z := by
  refine ⟨_, ?_, p⟩
  obtain ⟨h1, h2, h3, h4, h5⟩ := shown_le x ho
  have : reprOk x = true := by
    unfold reprOk
    rw [h4, h1, h3, decide_eq_true (show (py x).depth ≤ 64 by rw [h5]; exact hd), decide_eq_true (Nat.le_trans h2 hb)]
    rfl
  obtain ⟨ds, e | e⟩ := hr
  · subst e; show (if reprOk _ = true then _ else none) = _; rw [if_pos this]
  · subst e; show (if reprOk _ = true then _ else none) = _; rw [if_pos this]
/-! == -/
mutual
theorem canLay_ok : ∀ d : D, okD d → (py d).canLay0 = true
  | .int _, _ => rfl
  | .non, _ => rfl
  | .bl _, _ => rfl
  | .str z, h => by
    have h' : ∀ c ∈ z.cps.toList, c < 1114112 := h
    show (z.cps.all fun c => decide (c < 1114112)) = true
    rw [← Array.all_toList]
    exact List.all_eq_true.mpr fun c hc => decide_eq_true (h' c hc)
  | .tup ds, h => canLayL_ok ds h
  | .lst ds, h => canLayL_ok ds h
  | .cls _, h => h.elim
  | .ty _, h => h.elim
  | .scr _, h => h.elim
  | .ins _ _, h => h.elim
  | .dct _, h => h.elim
theorem canLayL_ok : ∀ ds : List D, okL ds → PyData.canLayAll0 (pyL ds) = true
  | [], _ => rfl
  | d :: ds, h => by
    show (PyData.canLay0 (py d) && PyData.canLayAll0 (pyL ds)) = true
    rw [canLay_ok d h.1, canLayL_ok ds h.2]; rfl
end
theorem eq_okD {x : D} (ho : okD x) (hd : dep x ≤ 64) : okEq x = true := by
  obtain ⟨h1, h2, h3, h4, h5⟩ := shown_le x ho
  unfold okEq SeqAt.shaped
  rw [h4, canLay_ok x ho, decide_eq_true (show (py x).depth ≤ 64 by rw [h5]; exact hd)]
  rfl
theorem eqB_ok {x y : D} (hx : okEq x = true) (hy : okEq y = true) : eqB x y = some (PyData.eqv (py x) (py y)) := by
  unfold eqB
  split
  · rename_i a b
    show _ = some (a == b)
    congr 1
  · rw [if_pos ⟨hx, hy⟩]
section
variable {x y : D} {b : Bool} {Φ : D → Prop} {i j : Int}
theorem r_eq (hx : okEq x = true) (hy : okEq y = true) (e : PyData.eqv (py x) (py y) = b) (p : Φ (.bl b)) : ∃ z, eqD x y = some z ∧ Φ z := ⟨_, by unfold eqD; rw [eqB_ok hx hy, e]; rfl, p⟩
theorem r_ne (hx : okEq x = true) (hy : okEq y = true) (e : PyData.eqv (py x) (py y) = b) (p : Φ (.bl !b)) : ∃ z, neD x y = some z ∧ Φ z := ⟨_, by unfold neD; rw [eqB_ok hx hy, e]; rfl, p⟩
theorem eqv_int : PyData.eqv (.int i) (.int j) = decide (i = j) := by
  show (i == j) = _
  rfl
theorem r_eqI (p : Φ (.bl (decide (i = j)))) : ∃ z, eqD (.int i) (.int j) = some z ∧ Φ z := r_eq rfl rfl eqv_int p
theorem r_neI (p : Φ (.bl !(decide (i = j)))) : ∃ z, neD (.int i) (.int j) = some z ∧ Φ z := r_ne rfl rfl eqv_int p
theorem r_eqS {a b : Str} (p : Φ (.bl (decide (a = b)))) : ∃ z, eqD (.str a) (.str b) = some z ∧ Φ z := ⟨_, rfl, p⟩
theorem r_neS {a b : Str} (p : Φ (.bl !(decide (a = b)))) : ∃ z, neD (.str a) (.str b) = some z ∧ Φ z := ⟨_, rfl, p⟩
theorem r_eqB {a b : Bool} (p : Φ (.bl (a == b))) : ∃ z, eqD (.bl a) (.bl b) = some z ∧ Φ z := r_eq rfl rfl rfl p
theorem r_addI (p : Φ (.int (i + j))) : ∃ z, addD (.int i) (.int j) = some z ∧ Φ z := ⟨_, rfl, p⟩
theorem r_sub (p : Φ (.int (i - j))) : ∃ z, subD (.int i) (.int j) = some z ∧ Φ z := ⟨_, rfl, p⟩
theorem r_lt (p : Φ (.bl (decide (i < j)))) : ∃ z, ltD (.int i) (.int j) = some z ∧ Φ z := ⟨_, rfl, p⟩
theorem r_gt (p : Φ (.bl (decide (j < i)))) : ∃ z, gtD (.int i) (.int j) = some z ∧ Φ z := ⟨_, rfl, p⟩
theorem r_le (p : Φ (.bl (decide (i ≤ j)))) : ∃ z, leD (.int i) (.int j) = some z ∧ Φ z := ⟨_, rfl, p⟩
theorem r_ge (p : Φ (.bl (decide (j ≤ i)))) : ∃ z, geD (.int i) (.int j) = some z ∧ Φ z := ⟨_, rfl, p⟩
theorem r_pow {v : Int} (h : (decide (0 ≤ j) && decide (j ≤ 1000000) && decide (i.natAbs < 2 ^ 64)) = true) (e : i ^ j.toNat = v) (p : Φ (.int v)) : ∃ z, powD (.int i) (.int j) = some z ∧ Φ z := ⟨_, by unfold powD intC; simp only [h, if_pos, e], p⟩
theorem r_int (p : Φ (.int i)) : ∃ z, intOf [.int i] = some z ∧ Φ z := ⟨_, rfl, p⟩
theorem r_intB {b : Bool} (p : Φ (.int (if b then 1 else 0))) : ∃ z, intOf [.bl b] = some z ∧ Φ z := ⟨_, rfl, p⟩
theorem r_abs (p : Φ (.int (if i < 0 then -i else i))) : ∃ z, absD [.int i] = some z ∧ Φ z := ⟨_, rfl, p⟩
theorem r_bool {ΦB : Bool → Prop} (p : ΦB b) : ∃ k, boolOf (.bl b) = some k ∧ ΦB k := ⟨_, rfl, p⟩
theorem r_bool2 {P Q : Bool → Prop} (p : P b) (q : Q b) : ∃ k, boolOf (.bl b) = some k ∧ P k ∧ Q k := ⟨_, rfl, p, q⟩
theorem r_truB {ΦB : Bool → Prop} (p : ΦB b) : ∃ k, truD (.bl b) = some k ∧ ΦB k := ⟨_, rfl, p⟩
theorem r_len {xs : List D} (p : Φ (.int xs.length)) : ∃ z, lenD [.lst xs] = some z ∧ Φ z := ⟨_, rfl, p⟩
theorem r_lenS {ns : List Int} (p : Φ (.int ns.length)) : ∃ z, lenD [.scr ns] = some z ∧ Φ z := ⟨_, rfl, p⟩
theorem ix_scr {ns : List Int} {t : Int} (h0 : 0 ≤ t) (h : t < ns.length) : ∃ k, ixD (.scr ns) (.int t) = some (.int k) := by
  show ∃ k, atI (ns.map D.int) t = some (.int k)
  unfold atI ixN
  rw [List.length_map, if_pos h0, if_pos h]
  have hl : t.toNat < ns.length := by omega
  exact ⟨ns[t.toNat], by simp [List.getElem?_map, List.getElem?_eq_getElem hl]⟩
theorem cut_ints {ns : List Int} {lo hi : Option Int} : ∃ ms : List Int, cutD (ns.map .int) lo hi = ms.map .int ∧ ms.length ≤ ns.length := by
  unfold cutD
  rw [← List.map_drop, ← List.map_take]
  exact ⟨_, rfl, by rw [List.length_take, List.length_drop]; omega⟩
theorem atI_ok {α : Type} {ds : List α} {j : Int} (h0 : 0 ≤ j) (h : j < ds.length) : ∃ d, atI ds j = some d ∧ d ∈ ds := by
  unfold atI ixN
  rw [if_pos h0, if_pos h]
  have hl : j.toNat < ds.length := by omega
  exact ⟨ds[j.toNat], by simp [List.getElem?_eq_getElem hl], List.getElem_mem hl⟩
theorem atI_nat {α : Type} {ds : List α} {n : Nat} : atI ds (n : Int) = ds[n]? := by
  unfold atI ixN
  rw [if_pos (by omega)]
  by_cases h : (n : Int) < ds.length
  · rw [if_pos h]; simp
  · rw [if_neg h, List.getElem?_eq_none (by omega)]; rfl
/-- the same data -/
theorem r_eqSelf (ho : okD x) (hd : dep x ≤ 64) (p : Φ (.bl true)) : ∃ z, eqD x x = some z ∧ Φ z := r_eq (eq_okD ho hd) (eq_okD ho hd) (SeqAt.eqv_refl _ (canLay_ok x ho)) p
theorem r_neSelf (ho : okD x) (hd : dep x ≤ 64) (p : Φ (.bl false)) : ∃ z, neD x x = some z ∧ Φ z := r_ne (eq_okD ho hd) (eq_okD ho hd) (SeqAt.eqv_refl _ (canLay_ok x ho)) p
/-! comprehensions, one turn -/
theorem r_dec2 {p : Prop} [Decidable p] {A B : Prop} (hp : p → A) (hn : ¬ p → B) : ∃ k, boolOf (.bl (decide p)) = some k ∧ (k = true → A) ∧ (k = false → B) := ⟨_, rfl, fun h => hp (of_decide_eq_true h), fun h => hn (of_decide_eq_false h)⟩
theorem r_decN2 {p : Prop} [Decidable p] {A B : Prop} (hp : p → B) (hn : ¬ p → A) : ∃ k, boolOf (.bl !(decide p)) = some k ∧ (k = true → A) ∧ (k = false → B) := ⟨_, rfl, fun h => hn (by simpa using h), fun h => hp (by simpa using h)⟩
theorem r_decM2 {p : Prop} [Decidable p] {A B : Prop} (hp : p → B) (hn : ¬ p → A) : ∃ k, boolOf (.bl (decide p)) = some k ∧ ((!k) = true → A) ∧ ((!k) = false → B) := ⟨_, rfl, fun h => hn (by simpa using h), fun h => hp (by simpa using h)⟩
theorem r_decF {p : Prop} [Decidable p] {A : Prop} (hn : ¬ p) (a : A) : ∃ k, boolOf (.bl (decide p)) = some k ∧ k = false ∧ A := ⟨_, rfl, decide_eq_false hn, a⟩
theorem nnf_intro {P Q : Prop} (q : Q) : ((!!false) = true → P) ∧ ((!!false) = false → Q) := ⟨fun h => (nomatch h), fun _ => q⟩
theorem nnt_intro {P Q : Prop} (p : P) : ((!!true) = true → P) ∧ ((!!true) = false → Q) := ⟨fun _ => p, fun h => (nomatch h)⟩
theorem nt_intro {P Q : Prop} (q : Q) : ((!true) = true → P) ∧ ((!true) = false → Q) := ⟨fun h => (nomatch h), fun _ => q⟩
theorem nf_intro {P Q : Prop} (p : P) : ((!false) = true → P) ∧ ((!false) = false → Q) := ⟨fun _ => p, fun h => (nomatch h)⟩
theorem r_orL {f g : D → D → Option D} (h : ∃ z, f x y = some z ∧ Φ z) : ∃ z, orD f g x y = some z ∧ Φ z := by
  obtain ⟨z, e, p⟩ := h
  exact ⟨z, by show (match f x y with | some z => some z | none => g x y) = _; rw [e], p⟩
theorem r_orR {f g : D → D → Option D} (n : f x y = none) (h : ∃ z, g x y = some z ∧ Φ z) : ∃ z, orD f g x y = some z ∧ Φ z := by
  obtain ⟨z, e, p⟩ := h
  exact ⟨z, by show (match f x y with | some z => some z | none => g x y) = _; rw [n]; exact e, p⟩
theorem r_orCL {xs : List D} {f g : List D → Option D} (h : ∃ z, f xs = some z ∧ Φ z) : ∃ z, orC f g xs = some z ∧ Φ z := by
  obtain ⟨z, e, p⟩ := h
  exact ⟨z, by show (match f xs with | some z => some z | none => g xs) = _; rw [e], p⟩
theorem r_orCR {xs : List D} {f g : List D → Option D} (n : f xs = none) (h : ∃ z, g xs = some z ∧ Φ z) : ∃ z, orC f g xs = some z ∧ Φ z := by
  obtain ⟨z, e, p⟩ := h
  exact ⟨z, by show (match f xs with | some z => some z | none => g xs) = _; rw [n]; exact e, p⟩
theorem r_orEqS {g : D → D → Option D} {a b : Str} (p : Φ (.bl (decide (a = b)))) : ∃ z, orD eqD g (.str a) (.str b) = some z ∧ Φ z := r_orL (r_eqS p)
theorem r_orNeS {g : D → D → Option D} {a b : Str} (p : Φ (.bl !(decide (a = b)))) : ∃ z, orD neD g (.str a) (.str b) = some z ∧ Φ z := r_orL (r_neS p)
theorem r_orEqI {g : D → D → Option D} (p : Φ (.bl (decide (i = j)))) : ∃ z, orD eqD g (.int i) (.int j) = some z ∧ Φ z := r_orL (r_eqI p)
theorem r_orNeI {g : D → D → Option D} (p : Φ (.bl !(decide (i = j)))) : ∃ z, orD neD g (.int i) (.int j) = some z ∧ Φ z := r_orL (r_neI p)
theorem r_eqIns {cs : List Str} {tb : ITab} {c : Str} {F : FF} {neg : Bool} {gs : List (Str × D)} (h1 : behind c tb y = true) (h2 : inCs cs y = true) (e : F [.val (.ins c gs), .val y] = some (.ok (.val (.bl b)) none)) (p : Φ (.bl (neg != b))) : ∃ z, eqI cs tb c F neg (.ins c gs) y = some z ∧ Φ z :=
  ⟨_, by unfold eqI; dsimp only; rw [if_pos ⟨rfl, h1, h2⟩, e], p⟩
theorem eqB_ins {c : Str} {gs : List (Str × D)} : eqB (.ins c gs) y = none := by
  show (if okEq (.ins c gs) = true ∧ okEq y = true then some (PyData.eqv (py (.ins c gs)) (py y)) else none) = none
  exact if_neg fun h => by cases h.1
theorem r_orIns {cs : List Str} {tb : ITab} {c : Str} {F : FF} {gs : List (Str × D)} (h1 : behind c tb y = true) (h2 : inCs cs y = true) (e : F [.val (.ins c gs), .val y] = some (.ok (.val (.bl b)) none)) (p : Φ (.bl b)) : ∃ z, orD eqD (eqI cs tb c F false) (.ins c gs) y = some z ∧ Φ z :=
  r_orR (by unfold eqD; rw [eqB_ins]; rfl) (r_eqIns h1 h2 e (by cases b <;> exact p))
theorem r_orInsN {cs : List Str} {tb : ITab} {c : Str} {F : FF} {gs : List (Str × D)} (h1 : behind c tb y = true) (h2 : inCs cs y = true) (e : F [.val (.ins c gs), .val y] = some (.ok (.val (.bl b)) none)) (p : Φ (.bl !b)) : ∃ z, orD neD (eqI cs tb c F true) (.ins c gs) y = some z ∧ Φ z :=
  r_orR (by unfold neD; rw [eqB_ins]; rfl) (r_eqIns h1 h2 e (by cases b <;> exact p))
theorem r_strI {c : Str} {F : FF} {gs : List (Str × D)} {z : Str} (e : F [.val (.ins c gs)] = some (.ok (.val (.str z)) none)) (p : Φ (.str z)) : ∃ w, orC strOf (strID c F) [.ins c gs] = some w ∧ Φ w :=
  r_orCR rfl ⟨_, by unfold strID; dsimp only; rw [if_pos rfl, e], p⟩
theorem boolsOf_true : ∀ {acc : List D}, (∀ b ∈ acc, b = .bl true) → boolsOf acc = some (acc.map fun _ => true)
  | [], _ => rfl
  | d :: ds, h => by
    rw [h d List.mem_cons_self]
    show (boolsOf ds).map _ = _
    rw [boolsOf_true fun b hb => h b (List.mem_cons_of_mem _ hb)]; rfl
theorem allD_true {acc : List D} (h : ∀ b ∈ acc, b = .bl true) : allD [.lst acc] = some (.bl true) := by
  show (boolsOf acc).map _ = _
  rw [boolsOf_true h]
  show some (D.bl _) = _
  congr 2
  rw [List.all_eq_true]
  intro b hb
  obtain ⟨_, _, e⟩ := List.mem_map.mp hb
  exact e.symm
theorem r_truS {ΦB : Bool → Prop} {z : Str} (h0 : 0 < z.length) (h : z.length ≤ 16777216) (p : ΦB true) : ∃ k, truD (.str z) = some k ∧ ΦB k := ⟨true, by
  show (if z.length ≤ 16777216 then some ((z.length : Int) != 0) else none) = _
  rw [if_pos h]
  congr 1
  simp; omega, p⟩
theorem mem_snoc {α : Type} {acc : List α} {y : α} {P : α → Prop} (h : ∀ b ∈ acc, P b) (hy : P y) : ∀ b ∈ acc ++ [y], P b := fun b hb => by
  rcases List.mem_append.mp hb with h' | h'
  · exact h b h'
  · rw [List.mem_singleton.mp h']; exact hy
theorem r_lenT {z : Str} (h : z.length ≤ 16777216) (p : Φ (.int z.length)) : ∃ w, lenD [.str z] = some w ∧ Φ w := ⟨_, by show (if z.length ≤ 16777216 then _ else none) = _; rw [if_pos h], p⟩
theorem chr_eq {c k : Nat} {s : Str} (h : tl s = [k]) : decide ((⟨#[c]⟩ : Str) = s) = decide (c = k) := by
  by_cases e : c = k
  · subst e
    rw [decide_eq_true rfl, decide_eq_true_eq]
    exact ext_tl h.symm
  · rw [decide_eq_false e, decide_eq_false_iff_not]
    intro h'
    have : tl (⟨#[c]⟩ : Str) = [k] := by rw [h']; exact h
    exact e (List.singleton_inj.mp this)
theorem tt_intro {P Q : Prop} (p : P) : (true = true → P) ∧ (true = false → Q) := ⟨fun _ => p, fun h => (nomatch h)⟩
theorem ff_intro {P Q : Prop} (q : Q) : (false = true → P) ∧ (false = false → Q) := ⟨fun h => (nomatch h), fun _ => q⟩
variable {Γ Γw : EnvF} {ΦL : List D → EnvF → Prop} {fa : FE} {ft : FT} {g : D → FM Unit} {vs : List Nat} {d : D} {ds acc : List D}
theorem xl_nil (h : ΦL acc Γ) : X (lcL g ft fa vs [] acc) Γ ΦL := ⟨_, _, rfl, h⟩
theorem xl_cons (ho : (vs.all fun v => !isOwn (Γ.getD v .no)) = true) (h : ∃ Γw, wipeF Γ vs = Γw ∧ X (g d) Γw fun _ Γ1 => X ft Γ1 fun k Γ2 =>
    (k = true → X (fV fa) Γ2 fun y Γ3 => ∃ Γ4, backF Γ Γ3 vs = Γ4 ∧ Γ4.map isOwn = Γ.map isOwn ∧ X (lcL g ft fa vs ds (acc ++ [y])) Γ4 ΦL) ∧
    (k = false → ∃ Γ4, backF Γ Γ2 vs = Γ4 ∧ Γ4.map isOwn = Γ.map isOwn ∧ X (lcL g ft fa vs ds acc) Γ4 ΦL)) : X (lcL g ft fa vs (d :: ds) acc) Γ ΦL := by
  obtain ⟨_, ew, p⟩ := h
  subst ew
  have t : X (lcTurn g ft fa d acc) (wipeF Γ vs) fun acc' Γ3 => (backF Γ Γ3 vs).map isOwn = Γ.map isOwn ∧ X (lcL g ft fa vs ds acc') (backF Γ Γ3 vs) ΦL := x_bind (p.imp fun _ _ p => x_bind (p.imp fun k g2 p => by
    cases k with
    | true =>
      rw [if_pos rfl]
      exact x_bind ((p.1 rfl).imp fun y g3 p => by obtain ⟨_, e, p⟩ := p; subst e; exact x_pure p)
    | false =>
      obtain ⟨_, e, p⟩ := p.2 rfl
      subst e
      rw [if_neg (by simp)]; exact x_pure p))
  obtain ⟨acc', Γ3, e, e2, r, Γe, e3, pe⟩ := t
  exact ⟨r, Γe, by unfold lcL; rw [e]; simp only [ho, e2, and_self, if_pos]; exact e3, pe⟩
end
end DF

set_option linter.all false
set_option maxRecDepth 100000
set_option maxHeartbeats 4000000
namespace DF
open PySem PySem.Spec PyProof.Rows L2 TL NumText
variable [TbC]
section
variable {X : Cx}
/-! ### more methods of texts -/
theorem mt_swapcase : MtR X "str.swapcase" (fun x xs H Q => ∃ a, x = .str a ∧ xs = [] ∧ Builtin.Str.tooLong (Txt.swapcase a).length = false ∧ Q (.str (Txt.swapcase a)) H) :=
  mt0 (C := fun a => Builtin.Str.tooLong (Txt.swapcase a).length = false) (g := fun a => .str (Txt.swapcase a)) fun _ _ s _ hc h => PySem.SC.swapcase hc (h _ _ ⟨_, rfl⟩)
end
abbrev rM0 (C : Str → Prop) (g : Str → V) : V → List V → Hp → VK → Prop := fun x xs H Q => ∃ a, x = .str a ∧ xs = [] ∧ C a ∧ Q (g a) H
def lowerD : D → List D → Option D := fun x xs => match x, xs with | .str a, [] => if decide (a.length ≤ 5592405) = true then some (.str (Txt.lower a)) else none | _, _ => none
def upperD : D → List D → Option D := fun x xs => match x, xs with | .str a, [] => if decide (a.length ≤ 5592405) = true then some (.str (Txt.upper a)) else none | _, _ => none
def swapD : D → List D → Option D := fun x xs => match x, xs with | .str a, [] => if (!Builtin.Str.tooLong (Txt.swapcase a).length) = true then some (.str (Txt.swapcase a)) else none | _, _ => none
def islowD : D → List D → Option D := fun x xs => match x, xs with | .str a, [] => if true = true then some (.bl (Txt.islower a)) else none | _, _ => none
section
variable {K : PySem.W.Frag} {G G' H H' H0 H1 G1 : Hp} {P : List Addr} {σ σ' : L2.St} {Γ Γ' Γ1 : EnvF} {L L' L1 : List (Addr × OD)} {c c' c1 : Ow} {W : WX}
variable {ta tb te to ti : TE} {t tr tk : TA} {fa fb fc fe fo fi : FE} {fs fr fk : FA} {tt tu : TT} {ft fu : FT} {E : XK} {ts tw : TS} {fS fT : FS}
theorem sim_lower : SimM K (rM0 (fun a => a.length ≤ 5592405) fun a => V.str (Txt.lower a)) lowerD := sim_m0 (C := fun a => a.length ≤ 5592405) (B := fun a => decide (a.length ≤ 5592405)) (g := fun a => V.str (Txt.lower a)) (f := fun a => D.str (Txt.lower a)) (fun _ h => of_decide_eq_true h) fun _ _ => .str _
theorem sim_upper : SimM K (rM0 (fun a => a.length ≤ 5592405) fun a => V.str (Txt.upper a)) upperD := sim_m0 (C := fun a => a.length ≤ 5592405) (B := fun a => decide (a.length ≤ 5592405)) (g := fun a => V.str (Txt.upper a)) (f := fun a => D.str (Txt.upper a)) (fun _ h => of_decide_eq_true h) fun _ _ => .str _
theorem sim_swap : SimM K (rM0 (fun a => Builtin.Str.tooLong (Txt.swapcase a).length = false) fun a => V.str (Txt.swapcase a)) swapD := sim_m0 (C := fun a => Builtin.Str.tooLong (Txt.swapcase a).length = false) (B := fun a => !Builtin.Str.tooLong (Txt.swapcase a).length) (g := fun a => V.str (Txt.swapcase a)) (f := fun a => D.str (Txt.swapcase a)) (fun _ h => by simpa using h) fun _ _ => .str _
theorem sim_islow : SimM K (rM0 (fun _ => True) fun a => V.bl (Txt.islower a)) islowD := sim_m0 (C := fun _ => True) (B := fun _ => true) (g := fun a => V.bl (Txt.islower a)) (f := fun a => D.bl (Txt.islower a)) (fun _ _ => trivial) fun _ _ => .bl _
theorem tru_at {u : V} {x : D} {b : Bool} (i : Ext G H) (r : At K G u x) (ex : truD x = some b) : TruV K u H b := by
  have emp : ∀ {vs : List V} {ds : List D}, AtL K G vs ds → (!ds.isEmpty) = !vs.isEmpty := fun l => by cases l <;> rfl
  cases r with
  | non => cases ex; rfl
  | bl => cases ex; rfl
  | int => cases ex; rfl
  | str z =>
    have ex : (if z.length ≤ 16777216 then some ((z.length : Int) != 0) else none) = some b := ex
    split at ex
    · rename_i hz; cases ex; exact ⟨by rw [sizeLine_eq]; exact hz, rfl⟩
    · cases ex
  | tup hp l => cases ex; exact .inr (.inl ⟨_, sqT_ext hp i, emp l⟩)
  | lst hp l => cases ex; exact .inl ⟨_, ext_lst i hp, emp l⟩
  | dct hp l => cases ex; exact .inr (.inr ⟨_, i _ _ hp, by cases l <;> rfl⟩)
  | _ => cases ex
/-! ### or, and on values that are no truth values -/
def fOrU (a b : FE) : FE := FM.bind (fV a) fun x => match truD x with
  | some true => FM.pure (.val x)
  | some false => b
  | none => fFail
def fAndU (a b : FE) : FE := FM.bind (fV a) fun x => match truD x with
  | some true => b
  | some false => FM.pure (.val x)
  | none => fFail
theorem sim_orU (ha : SimE K W ta fa) (hb : SimE K W tb fb) : SimE K W (tOrT K ta tb) (fOrU fa fb) := fun P σ c G H Γ L s => by
  unfold fOrU
  refine Run.bind (R' := vrR) (t2 := fun x H1 (Q : VK) => ∃ k, TruV K x H1 k ∧ if k = true then Q x H1 else tb σ H1 Q) s.iv (sim_val ha P σ c G H Γ L s) fun x Γ1 u c1 G1 H1 L1 g1 s1 e1 r1 => ?_
  have r1 : At K G1 u x := r1
  intro r e Q post
  cases ex : truD x with
  | none => rw [ex] at e; cases e
  | some b =>
    rw [ex] at e
    refine ⟨b, tru_at s1.iv.i r1 ex, ?_⟩
    cases b with
    | true => cases e; rw [if_pos rfl]; exact post _ c1 G1 H1 L1 (.refl) s1 rfl r1
    | false => rw [if_neg (by simp)]; exact hb P σ c1 G1 H1 Γ1 L1 s1 r e Q post
theorem sim_andU (ha : SimE K W ta fa) (hb : SimE K W tb fb) : SimE K W (tAndT K ta tb) (fAndU fa fb) := fun P σ c G H Γ L s => by
  unfold fAndU
  refine Run.bind (R' := vrR) (t2 := fun x H1 (Q : VK) => ∃ k, TruV K x H1 k ∧ if k = true then tb σ H1 Q else Q x H1) s.iv (sim_val ha P σ c G H Γ L s) fun x Γ1 u c1 G1 H1 L1 g1 s1 e1 r1 => ?_
  have r1 : At K G1 u x := r1
  intro r e Q post
  cases ex : truD x with
  | none => rw [ex] at e; cases e
  | some b =>
    rw [ex] at e
    refine ⟨b, tru_at s1.iv.i r1 ex, ?_⟩
    cases b with
    | true => rw [if_pos rfl]; exact hb P σ c1 G1 H1 Γ1 L1 s1 r e Q post
    | false => cases e; rw [if_neg (by simp)]; exact post _ c1 G1 H1 L1 (.refl) s1 rfl r1
/-! ### x in a list -/
def anyIn (x : D) (ds : List D) : Option Bool := if okEq x = true ∧ okEq (.lst ds) = true then some ((pyL ds).any fun z => PyData.eqv z (py x)) else none
def inLD : D → D → Option D
  | x, .lst ds => (anyIn x ds).map D.bl
  | _, _ => none
def notInLD : D → D → Option D
  | x, .lst ds => (anyIn x ds).map fun b => D.bl !b
  | _, _ => none
theorem sim_inL : SimR2 K (L2.rInD K) inLD := by
  intro x y z e G H u v i hu hv Q q
  have bs := i
  have i := bs.i
  cases y with
  | lst ds =>
    have e : (anyIn x ds).map D.bl = some z := e
    simp only [Option.map_eq_some_iff] at e
    obtain ⟨b, eb, ez⟩ := e
    subst ez
    unfold anyIn at eb
    split at eb
    · rename_i h
      obtain ⟨p1, s1⟩ := okEq_and h.1
      obtain ⟨p2, s2⟩ := okEq_and h.2
      cases eb
      exact ⟨_, pyL ds, At.dp i x hu p1, At.dp i (.lst ds) hv p2, s1, s2, q _ G H (PG.refl i) (.bl _)⟩
    · cases eb
  | _ => cases e
theorem sim_notInL : SimR2 K (L2.rNotInD K) notInLD := by
  intro x y z e G H u v i hu hv Q q
  have bs := i
  have i := bs.i
  cases y with
  | lst ds =>
    have e : (anyIn x ds).map (fun b => D.bl !b) = some z := e
    simp only [Option.map_eq_some_iff] at e
    obtain ⟨b, eb, ez⟩ := e
    subst ez
    unfold anyIn at eb
    split at eb
    · rename_i h
      obtain ⟨p1, s1⟩ := okEq_and h.1
      obtain ⟨p2, s2⟩ := okEq_and h.2
      cases eb
      exact ⟨_, pyL ds, At.dp i x hu p1, At.dp i (.lst ds) hv p2, s1, s2, q _ G H (PG.refl i) (.bl _)⟩
    · cases eb
  | _ => cases e
/-! ### len and bool by one's own methods -/
structure LenC (K : PySem.W.Frag) (C f : Addr) : Prop where
  lnF : PySem.W.findIn K (.ref C) "__len__" = some (some (.ref f))
  isF : PySem.W.isFn K (.ref f) = true
def rLenI (C : Addr) (sp : Sp) : List V → Hp → VK → Prop := fun xs H Q => ∃ a dx fs, xs = [.ref a] ∧ H a = some (.ins C dx fs) ∧ sp [.ref a] H (fun v H' => ∃ n : Int, v = .int n ∧ (0 ≤ n ∧ n < 2 ^ 63) ∧ Q (.int n) H') fun _ _ _ => False
theorem call_lenI {X : Cx} {n : Nat} {C f : Addr} {fd : FuncData} {ps : List Str} {sp : Sp} (T : LenC X.K C f) (F : FnOk X.prog X.w X.K X.mg X.base CX0 n f fd ps sp) (hb : Binds X.K fd ps []) (hr : Room (n + 1) X.A) : CallR X (.builtin "len") (rLenI C sp) := by
  intro pins s σ H xs us Q I r h
  obtain ⟨a, dx, fs, rfl, ha, hsp⟩ := h
  obtain ⟨u, rfl, rx⟩ := vals1 r
  cases rx
  obtain ⟨mA, J, _⟩ := ins_get I.hok ha
  obtain ⟨od, J, _⟩ := J.look
  obtain ⟨m, Fr0⟩ := I.fr
  refine PySem.W.len_K Fr0 I.ok.mod.kin J T.lnF T.isF ?_
  refine own_run F hb (Room.in1 hr) rfl I (.cons (show RelV (V.ref a) (Value.ref a) from rfl) .nil) hsp fun w' u' s' H' I' rz ⟨z, ec, hz, q⟩ => ?_
  subst ec
  obtain ⟨t, rfl⟩ := rz
  exact ⟨hz, ⟨.int z, H', I'.tok _, ⟨_, rfl⟩, q⟩⟩
end
end DF

set_option linter.all false
set_option maxRecDepth 100000
set_option maxHeartbeats 4000000
namespace DF
open PySem PySem.Spec PyProof.Rows L2 TL NumText
variable [TbC]
section
variable {X : Cx} {K : PySem.W.Frag}
theorem pi_enumK (hK : X.K = K) {e : Expr} {ta : TA} {p pos tpos : Pos} {elts : List Expr} {kk : Nat} (hg : Gl X "enumerate") (hm : X.mg "enumerate" = none) (ha : PA X [e] ta) (hs : starEach [e] X.env = [(false, eval e X.env)] := by rfl) :
    PI X (.Tuple elts kk tpos) (.Call (.Name "enumerate" p) [e] [] pos) (iEnum K ta) := by subst hK; exact pi_enum hg hm ha hs
theorem pi_zipK (hK : X.K = K) {e e2 : Expr} {ta : TA} {p pos tpos : Pos} {elts : List Expr} {kk : Nat} (hg : Gl X "zip") (hm : X.mg "zip" = none) (ha : PA X [e, e2] ta)
    (hs : starEach [e, e2] X.env = (false, eval e X.env) :: starEach [e2] X.env := by rfl) (hpl : (backTo pos (starEach [e2] X.env)).any (·.1) = false := by rfl) :
    PI X (.Tuple elts kk tpos) (.Call (.Name "zip" p) [e, e2] [] pos) (iZip K ta) := by subst hK; exact pi_zip hg hm ha hs hpl
theorem inD_K (hK : X.K = K) (hu : X.A.units + 65 < cLine) : OpR X (compareOp .In) (L2.rInD K) := by subst hK; exact op_inD hu
theorem notInD_K (hK : X.K = K) (hu : X.A.units + 65 < cLine) : OpR X (compareOp .NotIn) (L2.rNotInD K) := by subst hK; exact op_notInD hu
end
section
variable {K : PySem.W.Frag} {G G' H H' H0 H1 G1 : Hp} {P : List Addr} {σ σ' : L2.St} {Γ Γ' Γ1 : EnvF} {L L' L1 : List (Addr × OD)} {c c' c1 : Ow} {W : WX}
variable {ta tb te to ti : TE} {t tr tk : TA} {fa fb fc fe fo fi : FE} {fs fr fk : FA} {tt tu : TT} {ft fu : FT} {E : XK} {ts tw : TS} {fS fT : FS}
def enumD (ds : List D) : List D := (List.range ds.length).map fun i => .tup [.int (i : Nat), ds.getD i .non]
def zipD (as bs : List D) : List D := (as.zip bs).map fun p => .tup [p.1, p.2]
/-- a list, a value -/
def lstOfD : D → Option (List D)
  | .lst ds => some ds
  | .scr ns => some (ns.map .int)
  | _ => none
theorem lst_at {u : V} {x : D} {ds : List D} (r : At K G u x) (e : lstOfD x = some ds) : ∃ a vs, u = .ref a ∧ (∀ H, Ext G H → SqL K H a vs) ∧ AtL K G vs ds := by
  cases r with
  | @lst p vs ds' hp l => cases e; exact ⟨p, vs, rfl, fun H e => ext_lst e hp, l⟩
  | @scr p ns hp => cases e; exact ⟨p, _, rfl, fun H e => (hp.ext e).seq, atl_ints ns⟩
  | _ => cases e
def wEnum (f : FA) : FW := FM.bind (fVs f) fun | [x] => fOf ((lstOfD x).map enumD) | _ => fFail
def wZip (f : FA) : FW := FM.bind (fVs f) fun | [x, y] => fOf ((lstOfD x).bind fun a => (lstOfD y).map fun b => zipD a b) | _ => fFail
theorem enum_w {a : Addr} {vs : List V} {ds : List D} (hs : ∀ H, Ext G H → SqL K H a vs) (l : AtL K G vs ds) : IsW K (Ite K a) (enumD ds) G := by
  have hl := l.length
  have hn : (enumD ds).length = vs.length := by unfold enumD; rw [List.length_map, List.length_range, hl]
  refine ⟨_, _, (by rw [hn]; exact walk_enum (xs := vs)), hs, fun i H' x H2 G' hi e1 e2 y => ?_⟩
  obtain ⟨T, u, v, ex, hT, eH, e3, e4⟩ := y
  subst ex eH
  cases e3
  obtain ⟨d, k1, k2⟩ := l.get' e4
  have gn := PG.new (G := G') (o := .tup [V.int (i : Nat), v]) e2 hT
  refine ⟨_, .tup [.int (i : Nat), d], gn, ?_, .tup (.inl (.inl upd_same)) (.cons (.int _) (.cons ((k2.mono e1).mono gn.g) .nil))⟩
  unfold enumD
  have hi' : i < ds.length := by rw [hn, hl] at hi; exact hi
  rw [List.getElem?_map, List.getElem?_range hi']
  simp [k1]
theorem zip_w {a b : Addr} {vs ws : List V} {ds es : List D} (hs : ∀ H, Ext G H → SqL K H a vs) (hs2 : ∀ H, Ext G H → SqL K H b ws) (l : AtL K G vs ds) (l2 : AtL K G ws es) : IsW K (Itz K a b) (zipD ds es) G := by
  have hl := l.length
  have hl2 := l2.length
  have hn : (zipD ds es).length = min vs.length ws.length := by unfold zipD; rw [List.length_map, List.length_zip, hl, hl2]
  refine ⟨_, _, walk_zip (xs := vs) (ys := ws) hn, fun H e => ⟨hs H e, hs2 H e⟩, fun i H' x H2 G' hi e1 e2 y => ?_⟩
  obtain ⟨T, u, v, ex, hT, eH, e3, e4⟩ := y
  subst ex eH
  obtain ⟨d, k1, k2⟩ := l.get' e3
  obtain ⟨d2, k3, k4⟩ := l2.get' e4
  have gn := PG.new (G := G') (o := .tup [u, v]) e2 hT
  refine ⟨_, .tup [d, d2], gn, ?_, .tup (.inl (.inl upd_same)) (.cons ((k2.mono e1).mono gn.g) (.cons ((k4.mono e1).mono gn.g) .nil))⟩
  unfold zipD
  rw [List.getElem?_map, show (ds.zip es)[i]? = some (d, d2) from List.getElem?_zip_eq_some.mpr ⟨k1, k3⟩]; rfl
theorem sim_wEnum (h : SimA K W t fs) : SimW K W (iEnum K t) (wEnum fs) := fun P σ c G H Γ L s => by
  unfold wEnum
  refine Run.bind (t2 := fun vs H1 R => ∃ a xs, vs = [V.ref a] ∧ SqL K H1 a xs ∧ R (Ite K a) H1) s.iv (sim_vals h P σ c G H Γ L s) fun ds Γ1 us c1 G1 H1 L1 g1 s1 e1 r1 => ?_
  have r1 : AtL K G1 us ds := r1
  intro r e Q post
  match ds, r1, e with
  | [x], r1, e =>
    obtain ⟨u, eu, hu⟩ := atl1 r1
    subst eu
    have e : fOf ((lstOfD x).map enumD) Γ1 = some r := e
    cases el : lstOfD x with
    | none => rw [el] at e; cases e
    | some ds =>
      rw [el] at e
      cases e
      obtain ⟨a, vs, eu, hs, l⟩ := lst_at hu el
      subst eu
      exact ⟨a, vs, rfl, hs _ s1.iv.i, post _ c1 G1 H1 L1 .refl s1 rfl (enum_w hs l)⟩
  | [], _, e => cases e
  | _ :: _ :: _, _, e => cases e
theorem sim_wZip (h : SimA K W t fs) : SimW K W (iZip K t) (wZip fs) := fun P σ c G H Γ L s => by
  unfold wZip
  refine Run.bind (t2 := fun vs H1 R => ∃ a b xs ys, vs = [V.ref a, V.ref b] ∧ SqL K H1 a xs ∧ SqL K H1 b ys ∧ R (Itz K a b) H1) s.iv (sim_vals h P σ c G H Γ L s) fun ds Γ1 us c1 G1 H1 L1 g1 s1 e1 r1 => ?_
  have r1 : AtL K G1 us ds := r1
  intro r e Q post
  match ds, r1, e with
  | [x, y], r1, e =>
    obtain ⟨u, v, eu, hu, hv⟩ := atl2 r1
    subst eu
    have e : fOf ((lstOfD x).bind fun a => (lstOfD y).map fun b => zipD a b) Γ1 = some r := e
    cases el : lstOfD x with
    | none => rw [el] at e; cases e
    | some ds =>
      cases el2 : lstOfD y with
      | none => rw [el, el2] at e; cases e
      | some es =>
        rw [el, el2] at e
        cases e
        obtain ⟨a, vs, eu, hs, l⟩ := lst_at hu el
        obtain ⟨b, ws, ev, hs2, l2⟩ := lst_at hv el2
        subst eu ev
        exact ⟨a, b, vs, ws, rfl, hs _ s1.iv.i, hs2 _ s1.iv.i, post _ c1 G1 H1 L1 .refl s1 rfl (zip_w hs hs2 l l2)⟩
  | [], _, e => cases e
  | [_], _, e => cases e
  | _ :: _ :: _ :: _, _, e => cases e
end
end DF

set_option linter.all false
set_option maxRecDepth 100000
set_option maxHeartbeats 4000000
namespace DF
open PySem PySem.Spec PyProof.Rows L2 TL NumText
variable [TbC]
open PySem.Sem (wp)
/-! ### bool by one's own __bool__ -/
structure BoOC (K : PySem.W.Frag) (C f : Addr) : Prop where
  b : PySem.W.findIn K (.ref C) "__bool__" = some (some (.ref f))
  isF : PySem.W.isFn K (.ref f) = true
theorem truthy_own {K : PySem.W.Frag} {s : Shared} {M : Model} {A : Around} {E : Value → Shared → Prop} {x C f : Addr} {ox : Obj} {od : Option Obj} {Q : Bool → Shared → Prop} (X : K.In s.heap) (I : PySem.W.InstAt s.heap x ox C od) (T : BoOC K C f)
    (h : wpAny M A (call (.ref f) [.ref x]) (fun v s' => ∃ b, v = .bool b ∧ Q b s') E s) : wpAny M A (truthy (.ref x)) Q E s := by
  unfold truthy
  refine wpAny_bind (m := callSpecial? (.ref x) (Str.ofString "__bool__")) (PySem.W.special_fn X I T.b (beq_iff_eq.mp T.isF) (wpAny_mono h (fun r s' hr => ?_) fun _ _ y => y))
  obtain ⟨b, rfl, q⟩ := hr
  exact wpAny_pure q
theorem bool_own {prog : Program} {w : World} {K : PySem.W.Frag} {s : Shared} {A : Around} {E : Value → Shared → Prop} {x C f : Addr} {ox : Obj} {od : Option Obj} {Q : Value → Shared → Prop} (X : K.In s.heap) (I : PySem.W.InstAt s.heap x ox C od) (T : BoOC K C f)
    (h : wpAny (model prog w) A.in1.in1 (call (.ref f) [.ref x]) (fun v s' => ∃ b, v = .bool b ∧ Q v s') E s) : wpAny (model prog w) A (call (.type "bool") [.ref x]) Q E s := by
  refine callType_codes (T := "bool") (Bi := Builtin.«object.__init__») (Q₁ := fun r s₁ => ∃ b, r = .bool b ∧ Q r s₁) PySem.F.called_bool (PySem.F.typeCall_bool_1 _) PySem.F.entry_object_init ?_ ?_
  · refine codeAny_of_tree ?_
    show wpAny _ A.in1.in1 (do checkBuiltinCall "bool.__new__" ⟨[.type "bool", .ref x], []⟩; again (.builtin "bool.__new__" ⟨[.type "bool", .ref x], []⟩)) _ _ s
    refine wpAny_bind (wpAny_of_eq (PySem.F.newCall_bool_1 _) (wpAny_pure ⟨plainId_quiet (by decide +kernel) _, codeAny_builtin PySem.F.entry_bool_new ?_⟩))
    rw [Around.under_plainId (by decide +kernel) _]
    unfold Builtin.«bool.__new__»
    obtain ⟨hp, g, d, tk, os⟩ := s
    have f1 := F.conv_sub_bool
    have key : wpAny (model prog w) A.in1.in1 (truthy (.ref x)) (fun b s' => Q (.bool b) s') E ⟨hp, g, d, tk, os⟩ := truthy_own X I T (wpAny_mono h (fun v s' hv => by obtain ⟨b, e, q⟩ := hv; subst e; exact ⟨b, rfl, q⟩) fun _ _ y => y)
    repeat (any_goals (first | assumption | (with_reducible refine wpAny_mono key (fun b s' hb => ?_) fun _ _ y => y) | wp_step))
    all_goals first | exact ⟨_, rfl, hb⟩ | trace_state
  · rintro obj s₁ ⟨b, rfl, hq⟩
    exact ⟨rfl, PySem.F.args_object_init_2 _ _, object_init_meets PySem.F.called_bool.init.lookup PySem.F.called_bool.made (by decide) prog w A.in1 _ s₁ ⟨rfl, rfl, hq⟩⟩
section
variable {X : Cx}
def rBoO (C : Addr) (sp : Sp) : List V → Hp → VK → Prop := fun xs H Q => ∃ a dx fs, xs = [.ref a] ∧ H a = some (.ins C dx fs) ∧ sp [.ref a] H (fun v H' => ∃ b, v = .bl b ∧ Q (.bl b) H') fun _ _ _ => False
theorem call_boolO {n : Nat} {C f : Addr} {fd : FuncData} {ps : List Str} {sp : Sp} (T : BoOC X.K C f) (F : FnOk X.prog X.w X.K X.mg X.base CX0 n f fd ps sp) (hb : Binds X.K fd ps []) (hr : Room (n + 2) X.A) : CallR X (.type "bool") (rBoO C sp) := by
  intro pins s σ H xs us Q I r h
  obtain ⟨a, dx, fs, rfl, ha, hsp⟩ := h
  obtain ⟨u, rfl, rx⟩ := vals1 r
  cases rx
  obtain ⟨mA, J, _⟩ := ins_get I.hok ha
  obtain ⟨od, J, _⟩ := J.look
  have hr1 : Room n X.A.in1.in1 := Room.in1 (Room.in1 hr)
  refine bool_own I.kIn J T ?_
  refine own_run F hb hr1 rfl I (.cons (show RelV (V.ref a) (Value.ref a) from rfl) .nil) hsp fun w' u' s' H' I' rz ⟨z, ec, q⟩ => ?_
  subst ec
  cases rz
  exact ⟨z, rfl, ⟨.bl z, H', I', rfl, q⟩⟩
end
section
variable {K : PySem.W.Frag} {G G' H H' H0 H1 G1 : Hp} {P : List Addr} {σ σ' : L2.St} {Γ Γ' Γ1 : EnvF} {L L' L1 : List (Addr × OD)} {c c' c1 : Ow} {W : WX}
/-- the answer of a def at an instance, as it was asked -/
theorem self_call {cn : Str} {C : Addr} {F : FF} {c : Str} {gs : List (Str × D)} {us : List V} {d : D} {Z : V → Hp → Prop} (ct : CT K cn C) (bs : Bs G H) (l : AtL K G us [.ins c gs]) (hc : c = cn) (eF : F [.val (.ins c gs)] = some (.ok (.val d) none))
    (q : ∀ w G' H', PG G H G' H' → At K G' w d → Z w H') : ∃ a dx fs, us = [.ref a] ∧ H a = some (.ins C dx fs) ∧ spF K F [.ref a] H Z fun _ _ _ => False := by
  subst hc
  have l0 := l
  obtain ⟨u, eu, hu⟩ := atl1 l
  subst eu
  cases hu with
  | @ins p C' dx _ fs _ ct' hp _ =>
    have := ct'.one ct
    subst this
    refine ⟨p, dx, fs, rfl, bs.i _ _ hp, G, fun _ => none, _, [], _, bs.iv, arg_vals l0, fun e he => (List.not_mem_nil he).elim, eF, ?_⟩
    intro u' c' G' H' g' iv' _ hr
    exact q _ G' H' (.ofGrow g' iv') hr
def lenI (cn : Str) (F : FF) : List D → Option D
  | [.ins c gs] => if c = cn then (match F [.val (.ins c gs)] with
    | some (.ok (.val (.int n)) none) => if 0 ≤ n ∧ n < 2 ^ 63 then some (.int n) else none
    | _ => none) else none
  | _ => none
def boolO (cn : Str) (F : FF) : List D → Option D
  | [.ins c gs] => if c = cn then (match F [.val (.ins c gs)] with
    | some (.ok (.val (.bl b)) none) => some (.bl b)
    | _ => none) else none
  | _ => none
theorem sim_lenI {cn : Str} {C : Addr} {F : FF} (ct : CT K cn C) : SimC K (rLenI C (spF K F)) (lenI cn F) := by
  intro xs z e G H us i l Q q
  have bs := i
  have i := bs.i
  unfold lenI at e
  split at e
  · rename_i c gs
    split at e
    · rename_i hc
      split at e
      · rename_i n eF
        split at e
        · rename_i hn
          cases e
          obtain ⟨a, dx, fs, e1, e2, e3⟩ := self_call (Z := fun v H' => ∃ n : Int, v = .int n ∧ (0 ≤ n ∧ n < 2 ^ 63) ∧ Q (.int n) H') ct bs l hc eF fun w G' H' g r => by cases r; exact ⟨n, rfl, hn, q _ G' H' g (.int _)⟩
          exact ⟨a, dx, fs, e1, e2, e3⟩
        · cases e
      · cases e
    · cases e
  · cases e
theorem sim_boolO {cn : Str} {C : Addr} {F : FF} (ct : CT K cn C) : SimC K (rBoO C (spF K F)) (boolO cn F) := by
  intro xs z e G H us i l Q q
  have bs := i
  have i := bs.i
  unfold boolO at e
  split at e
  · rename_i c gs
    split at e
    · rename_i hc
      split at e
      · rename_i b eF
        cases e
        obtain ⟨a, dx, fs, e1, e2, e3⟩ := self_call (Z := fun v H' => ∃ b, v = .bl b ∧ Q (.bl b) H') ct bs l hc eF fun w G' H' g r => by cases r; exact ⟨b, rfl, q _ G' H' g (.bl _)⟩
        exact ⟨a, dx, fs, e1, e2, e3⟩
      · cases e
    · cases e
  · cases e
/-! ### a text in a tuple of texts -/
def inTD : D → D → Option D
  | .str a, .tup ds => (joinD.strsOf ds).map fun bs => .bl (decide (a ∈ bs))
  | .str a, .lst ds => (joinD.strsOf ds).map fun bs => .bl (decide (a ∈ bs))
  | _, _ => none
theorem inV_str {a : Str} : ∀ bs : List Str, inV (.str a) (bs.map V.str) = decide (a ∈ bs)
  | [] => rfl
  | b :: bs => by
    show (eqV (.str b) (.str a) || inV (.str a) (bs.map V.str)) = _
    rw [inV_str bs]
    have : eqV (.str b) (.str a) = decide (a = b) := by
      by_cases h : a = b
      · subst h; simp [eqV]
      · rw [decide_eq_false h]; simp [eqV, Ne.symm h]
    rw [this]
    simp
theorem flat_str : ∀ bs : List Str, (bs.map V.str).all flatV = true
  | [] => rfl
  | b :: bs => by show (flatV (.str b) && (bs.map V.str).all flatV) = true; rw [flat_str bs]; rfl
theorem sim_inT : SimR2 K (rIn K false) inTD := by
  intro x y z e G H u v i hu hv Q q
  have bs := i
  have i := bs.i
  cases x with
  | str a =>
    cases y with
    | tup ds =>
      have e : (joinD.strsOf ds).map (fun bs => D.bl (decide (a ∈ bs))) = some z := e
      simp only [Option.map_eq_some_iff] at e
      obtain ⟨bs, eb, ez⟩ := e
      subst ez
      cases hu
      cases hv with
      | tup hp l =>
        have := strs_at l eb
        subst this
        refine ⟨_, _, rfl, .inr (sqT_ext hp i), rfl, flat_str bs, ?_⟩
        rw [inV_str]
        exact q _ G H (PG.refl i) (.bl _)
    | lst ds =>
      have e : (joinD.strsOf ds).map (fun bs => D.bl (decide (a ∈ bs))) = some z := e
      simp only [Option.map_eq_some_iff] at e
      obtain ⟨bs, eb, ez⟩ := e
      subst ez
      cases hu
      cases hv with
      | lst hp l =>
        have := strs_at l eb
        subst this
        refine ⟨_, _, rfl, .inl (ext_lst i hp), rfl, flat_str bs, ?_⟩
        rw [inV_str]
        exact q _ G H (PG.refl i) (.bl _)
    | _ => cases e
  | _ => cases e
end
section
variable {X : Cx} {K : PySem.W.Frag}
theorem in_K (hK : X.K = K) : OpR X (compareOp .In) (rIn K false) := by subst hK; exact op_in_seq
theorem pe_orTK (hK : X.K = K) {a b : Expr} {ta tb : TE} {rest : List Expr} {pos : Pos} (ha : PE X a ta) (hb : PE X (.BoolOp .Or (b :: rest) pos) tb) : PE X (.BoolOp .Or (a :: b :: rest) pos) (tOrT K ta tb) := by subst hK; exact pe_orT ha hb
theorem pe_andTK (hK : X.K = K) {a b : Expr} {ta tb : TE} {rest : List Expr} {pos : Pos} (ha : PE X a ta) (hb : PE X (.BoolOp .And (b :: rest) pos) tb) : PE X (.BoolOp .And (a :: b :: rest) pos) (tAndT K ta tb) := by subst hK; exact pe_andT ha hb
end
end DF

set_option linter.all false
set_option maxRecDepth 100000
set_option maxHeartbeats 4000000
namespace DF
open PySem PySem.Spec PyProof.Rows L2 TL NumText
variable [TbC]
/-! ### a text so many times, none or once too -/
section
variable {X : Cx}
theorem repS_zero (z : Str) : repS z 0 = Str.empty := rfl
theorem repS_one (z : Str) : repS z 1 = z := by
  obtain ⟨c⟩ := z
  show (⟨#[] ++ c⟩ : Str) = ⟨c⟩
  rw [Array.empty_append]
theorem op_mul_strA : OpR X (binaryOp .Mult) (fun x y H Q => ∃ z k, x = .str z ∧ y = .int k ∧ 0 ≤ k ∧ k ≤ 1000 ∧ z.length ≤ 4000 ∧ Q (.str (repS z k)) H) := by
  intro pins s σ H x y v u Q I rx ry h
  obtain ⟨z, k, rfl, rfl, h1, h2, h3, q⟩ := h
  by_cases hk : 2 ≤ k
  · exact op_mul_str pins s σ H _ _ v u Q I rx ry ⟨z, k, rfl, rfl, hk, h2, h3, q⟩
  obtain ⟨t, rfl⟩ := rx
  obtain ⟨t', rfl⟩ := ry
  have hs : (4000000 : Nat) ≤ sizeLine := by decide
  have hmul : z.length * k.toNat ≤ 4000000 := Nat.le_trans (Nat.mul_le_mul h3 (show k.toNat ≤ 1000 by omega)) (by decide)
  refine PySem.P.mul_str (x := z) (n := k) (t := t) (u := t') ?_ (fun h0 h4 => ?_) (fun h0 h4 => ?_) ?_
  · have e1 : decide (k < -(2 ^ 63 : Int)) = false := decide_eq_false (by omega)
    have e2 : decide (k ≥ 2 ^ 63) = false := decide_eq_false (by omega)
    rw [e1, e2]; rfl
  · exfalso
    simp at h4
    omega
  · exfalso
    simp at h4
    omega
  · by_cases hz : k = 0
    · subst hz
      rw [if_pos (by decide)]
      exact ⟨by decide, .str _, H, I.tok _, ⟨_, rfl⟩, q⟩
    · have : k = 1 := by omega
      subst this
      rw [repS_one] at q
      rw [if_neg (by decide), if_pos (by rfl)]
      exact ⟨.str z, H, I, ⟨_, rfl⟩, q⟩
end
section
variable {K : PySem.W.Frag}
def mulSA : D → D → Option D
  | .str z, .int k => if 0 ≤ k ∧ k ≤ 1000 ∧ z.length ≤ 4000 then some (.str (repS z k)) else none
  | _, _ => none
abbrev rMulSA : R2 := fun x y H Q => ∃ z k, x = .str z ∧ y = .int k ∧ 0 ≤ k ∧ k ≤ 1000 ∧ z.length ≤ 4000 ∧ Q (.str (repS z k)) H
theorem sim_mulSA : SimR2 K rMulSA mulSA := by
  intro x y z e G H u v i hu hv Q q
  have bs := i
  have i := bs.i
  unfold mulSA at e
  split at e
  · split at e
    · rename_i h; cases e; cases hu; cases hv; exact ⟨_, _, rfl, rfl, h.1, h.2.1, h.2.2, q _ G H (PG.refl i) (.str _)⟩
    · cases e
  · cases e
variable {x y z : D} {Φ : D → Prop}
theorem e_mulSA (e : mulSA x y = some z) (p : Φ z) : ∃ z, mulSA x y = some z ∧ Φ z := ⟨z, e, p⟩
theorem r_mulSA {z : Str} {k : Int} (h0 : 0 ≤ k) (h1 : k ≤ 1000) (h2 : z.length ≤ 4000) (p : Φ (.str (repS z k))) : ∃ w, mulSA (.str z) (.int k) = some w ∧ Φ w := ⟨_, by show (if _ then _ else none) = _; rw [if_pos ⟨h0, h1, h2⟩], p⟩
theorem r_fmtI {i : Int} {Φ : D → Prop} (h : i.natAbs.log2 < 1920) (p : Φ (.str (toString i))) : ∃ z, fmtD (.int i) = some z ∧ Φ z := ⟨_, by show (if i.natAbs.log2 < 1920 then _ else none) = _; rw [if_pos h], p⟩
theorem r_fmtS {z : Str} {Φ : D → Prop} (h : z.length ≤ 16777216) (p : Φ (.str z)) : ∃ w, fmtD (.str z) = some w ∧ Φ w := ⟨_, by show (if z.length ≤ 16777216 then _ else none) = _; rw [if_pos h], p⟩
theorem xv_orU {Γ : EnvF} {fa fb : FE} {Φ : D → EnvF → Prop} (h : X (fV fa) Γ fun x Γ' => ∃ k, truD x = some k ∧ (k = true → Φ x Γ') ∧ (k = false → X (fV fb) Γ' Φ)) : X (fV (fOrU fa fb)) Γ Φ := x_V (x_bind (h.imp fun x g p => by
  obtain ⟨k, e, p1, p2⟩ := p
  rw [e]
  cases k with
  | true => exact ⟨_, _, rfl, p1 rfl⟩
  | false => exact x_ofV (p2 rfl)))
end
end DF

set_option linter.all false
set_option maxRecDepth 100000
set_option maxHeartbeats 4000000
namespace DF
open PySem PySem.Spec PyProof.Rows L2 TL NumText
variable [TbC]
theorem units65 {A : Around} {k : Nat} (hr : Room k A) : A.units + 65 < cLine := by have := hr.un; omega
/-! ### != of lists and tuples whose items are equal by an own == -/
section
open PySem.SeqAt AutoSeq1 MeetsSeq MeetsSeq2 MeetsSeq3 SeqRoads2
variable {prog : Program} {w : World} {A : Around} {R : Result → Shared → Prop}
theorem neLoop (l b : Addr) (N : Nat) (I : Nat → Shared → Prop) (hl : GQ.ListI prog w A (fun e s' => R (.error e) s') l b N I) (fin : ∀ s, I N s → R (.ok (.ret (.bool false))) s) (k : Nat) :
    ∀ i : Nat, N - i = k → i ≤ N → ∀ s, I i s →
      wpAny (model prog w) A.in1 (Builtin.«list.__eq__.loop» ⟨[.ref l, .ref b, rawInt i, rawInt 3], []⟩) (GQ.FinOf prog w A R) (fun e s' => R (.error e) s') s := by
  induction k with
  | zero =>
    intro i hk hi s h
    obtain ⟨items, items2, n, n2, hl1, hb1, hs1, hs2, _⟩ := hl _ _ h
    have hi' : i = N := by omega
    have hR : R (.ok (.ret (.bool false))) s := fin s (hi' ▸ h)
    obtain ⟨hp, g, d, tk, os⟩ := s
    wp_walk using wpAny_loadPart' hl1, wpAny_loadPart' hb1
    have hi1 : items[((i : Nat) : Int).toNat]? = none := by simp; omega
    have hi2 : items2[((i : Nat) : Int).toNat]? = none := by simp; omega
    rw [hi1, hi2]
    wp_walk using wpAny_loadPart' hl1, wpAny_loadPart' hb1
    show R (.ok (.ret (.bool (items.size != items2.size)))) _
    rw [hs1, hs2]
    simpa using hR
  | succ k ih =>
    intro i hk hi s h
    obtain ⟨items, items2, n, n2, hl1, hb1, hs1, hs2, turn⟩ := hl _ _ h
    have hlt : i < items.size := by omega
    have hlt2 : i < items2.size := by omega
    have ht := turn hlt hlt2
    obtain ⟨hp, g, d, tk, os⟩ := s
    wp_walk using wpAny_loadPart' hl1, wpAny_loadPart' hb1
    have hi1 : items[((i : Nat) : Int).toNat]? = some items[i] := by simp [hlt]
    have hi2 : items2[((i : Nat) : Int).toNat]? = some items2[i] := by simp [hlt2]
    have hc : ((i : Int) + 1) = ((i + 1 : Nat) : Int) := by omega
    rw [hi1, hi2]
    refine wpAny_bind (wpAny_mono ht (fun r s2 h2 => ?_) fun _ _ x => x)
    obtain ⟨hr, h2⟩ := h2
    subst hr
    have hrec := ih (i + 1) (by omega) (by omega) s2 h2
    obtain ⟨hp2, g2, d2, tk2, os2⟩ := s2
    wp_walk
    rw [hc]
    exact ⟨plainId_quiet plain_eq_loop _, codeAny_builtin entry_eq_loop (by
      rw [Around.under_plainId plain_eq_loop _]
      exact hrec)⟩
theorem list_neG (l b : Addr) (N : Nat) (I : Nat → Shared → Prop) (hl : GQ.ListI prog w A (fun e s' => R (.error e) s') l b N I) (fin : ∀ s, I N s → R (.ok (.ret (.bool false))) s) {s : Shared} (h : I 0 s) :
    wpAny (model prog w) A.in1 (Builtin.«list.__ne__» ⟨[.ref l, .ref b], []⟩) (GQ.FinOf prog w A R) (fun e s' => R (.error e) s') s := by
  obtain ⟨items, items2, n, n2, hl1, hb1, hs1, hs2, _⟩ := hl _ _ h
  have hrec := neLoop (A := A) (R := R) l b N I hl fin _ 0 rfl (Nat.zero_le _) s h
  obtain ⟨hp, g, d, tk, os⟩ := s
  have f3 := AutoSeq1.sub_list_list
  have hne : ¬ (items.size != items2.size) = true := by simp [hs1, hs2]
  wp_walk using wpAny_loadPart' hl1, wpAny_loadPart' hb1
  exact ⟨plainId_quiet plain_eq_loop _, codeAny_builtin entry_eq_loop (by
    rw [Around.under_plainId plain_eq_loop _]
    exact hrec)⟩
theorem tuple_neG (l b : Addr) (items items2 : Array Value) (n n2 : Nat) (dd dd2 : Option Addr) (sl sl2 : Array (Option Value)) (hsz : items.size = items2.size) (I : Nat → Shared → Prop)
    (turn : ∀ i (h1 : i < items.size) (h2 : i < items2.size) s, I i s → wpAny (model prog w) A.in1 (eqBool items[i] items2[i]) (fun r s' => r = true ∧ I (i + 1) s') (fun e s' => R (.error e) s') s)
    (fin : ∀ s, I items.size s → R (.ok (.ret (.bool false))) s) {s : Shared} (hl1 : s.heap.get? l = some { cls := .type "tuple", dict := dd, data := .seq items n, slots := sl }) (hb1 : s.heap.get? b = some { cls := .type "tuple", dict := dd2, data := .seq items2 n2, slots := sl2 }) (h : I 0 s) :
    wpAny (model prog w) A.in1 (Builtin.«tuple.__ne__» ⟨[.ref l, .ref b], []⟩) (GQ.FinOf prog w A R) (fun e s' => R (.error e) s') s := by
  have f2 := AutoSeq1.sub_tuple_tuple
  have hZ : (items.toList.zip items2.toList).length = items.size := by simp [hsz]
  have h0 := h
  obtain ⟨hp, g, d, tk, os⟩ := s
  wp_walk using wpAny_loadPart' hl1, wpAny_loadPart' hb1, wpAny_forIn_list _ (fun rest b s' => b.1 = none ∧ ∃ i, rest = (items.toList.zip items2.toList).drop i ∧ i ≤ items.size ∧ I i s') _
  case turn =>
    rintro ⟨y, x⟩ rest b s' ⟨hb', i, hz, hi, hI⟩
    have hlt : i < (items.toList.zip items2.toList).length := by
      rcases Nat.lt_or_ge i (items.toList.zip items2.toList).length with h' | h'
      · exact h'
      · rw [List.drop_of_length_le h'] at hz; cases hz
    have h1 : i < items.size := hZ ▸ hlt
    have h2 : i < items2.size := hsz ▸ h1
    rw [List.drop_eq_getElem_cons hlt] at hz
    injection hz with hyx hrest
    have hy : y = items[i] := by have := congrArg Prod.fst hyx; simpa using this
    have hx : x = items2[i] := by have := congrArg Prod.snd hyx; simpa using this
    subst hy hx
    refine wpAny_bind (wpAny_mono (turn i h1 h2 s' hI) (fun r s2 q2 => ?_) fun _ _ x => x)
    obtain ⟨hr, q2⟩ := q2
    subst hr
    wp_walk
    exact ⟨rfl, i + 1, hrest, h1, q2⟩
  case fin =>
    rintro ⟨b1, b2⟩ s' ⟨hb', i, hz, hi, hI⟩
    simp only at hb'
    subst hb'
    have hge : items.size ≤ i := by
      rcases Nat.lt_or_ge i (items.toList.zip items2.toList).length with h' | h'
      · rw [List.drop_eq_getElem_cons h'] at hz; cases hz
      · exact hZ ▸ h'
    have hi' : i = items.size := by omega
    have hR : R (.ok (.ret (.bool false))) s' := fin s' (hi' ▸ hI)
    wp_walk
    simpa [Builtin.Tuple.tupleCompareSizes, hsz] using hR
  case h =>
    exact ⟨rfl, 0, rfl, Nat.zero_le _, h0⟩
end
section
open PySem.SeqAt AutoSeq1 MeetsSeq MeetsSeq2 MeetsSeq3 SeqRoads2
variable {prog : Program} {w : World} {A : Around} {E : Value → Shared → Prop} {s : Shared}
theorem ne_listG {l b : Addr} {N : Nat} {Q : Value → Shared → Prop} (hu : A.units < cLine) (I : Nat → Shared → Prop) (hl : GQ.ListI prog w A E l b N I)
    (fin : ∀ s, I N s → Q (.bool false) s) (h : I 0 s) : wpAny (model prog w) A (richCompare .NotEq (.ref l) (.ref b)) Q E s := by
  obtain ⟨items, items2, n, n2, hl1, hb1, _, _, _⟩ := hl _ _ h
  refine wpAny_richCompare_same_room (op := .NotEq) ⟨_, hl1, rfl⟩ ⟨_, hb1, rfl⟩ F.slot_list_ne (GQ.call_here F.slot_list_ne ⟨_, hl1, rfl⟩ F.entry_list_ne (F.args_list_ne_2 _ _) ?_) hu
  exact list_neG (R := wants (fun v s' => v ≠ .notImplemented ∧ Q v s') E) l b N I hl (fun s' q => ⟨(fun x => nomatch x), fin s' q⟩) h
theorem ne_tupG {l b : Addr} {items items2 : Array Value} {Q : Value → Shared → Prop} (hsz : items.size = items2.size) (hu : A.units < cLine) (I : Nat → Shared → Prop)
    (hl : s.heap.IsTuple l items) (hb : s.heap.IsTuple b items2)
    (turn : ∀ i (h1 : i < items.size) (h2 : i < items2.size) s, I i s → wpAny (model prog w) A.in1 (eqBool items[i] items2[i]) (fun r s' => r = true ∧ I (i + 1) s') E s)
    (fin : ∀ s, I items.size s → Q (.bool false) s) (h : I 0 s) : wpAny (model prog w) A (richCompare .NotEq (.ref l) (.ref b)) Q E s := by
  obtain ⟨⟨cls, dd, data, sl⟩, ho, hc, n, hd⟩ := id hl
  obtain ⟨⟨cls2, dd2, data2, sl2⟩, ho2, hc2, n2, hd2⟩ := id hb
  simp only at hc hd hc2 hd2
  subst hc hd hc2 hd2
  refine wpAny_richCompare_same_room (op := .NotEq) ⟨_, ho, rfl⟩ ⟨_, ho2, rfl⟩ F.slot_tuple_ne (GQ.call_here F.slot_tuple_ne ⟨_, ho, rfl⟩ F.entry_tuple_ne (F.args_tuple_ne_2 _ _) ?_) hu
  exact tuple_neG (R := wants (fun v s' => v ≠ .notImplemented ∧ Q v s') E) l b items items2 n n2 dd dd2 sl sl2 hsz I turn (fun s' q => ⟨(fun x => nomatch x), fin s' q⟩) ho ho2 h
end
/-! ### data that is equal item by item, instances by their own == -/
def flatD : D → Option V
  | .non => some .non | .bl b => some (.bl b) | .int i => some (.int i) | .str z => some (.str z) | _ => none
def flatE (x y : D) : Bool := match flatD x, flatD y with
  | some a, some b => L2.flatV a && L2.flatV b && L2.eqV a b
  | _, _ => false
def insE (cn : Str) (F : FF) (x y : D) : Bool := match x, y with
  | .ins c gs, .ins c' gs' => decide (c = cn) && decide (c' = cn) && (match F [.val (.ins c gs), .val (.ins c' gs')] with
    | some (.ok (.val (.bl true)) none) => true
    | _ => false)
  | _, _ => false
def allE (f : D → D → Bool) : List D → List D → Bool
  | [], [] => true
  | x :: xs, y :: ys => f x y && allE f xs ys
  | _, _ => false
def deepS (f : D → D → Bool) (x y : D) : Bool := match x, y with
  | .lst xs, .lst ys => allE f xs ys
  | .tup xs, .tup ys => allE f xs ys
  | _, _ => false
def deepE (cn : Str) (F : FF) : Nat → D → D → Bool
  | 0, x, y => flatE x y || insE cn F x y
  | m + 1, x, y => deepE cn F m x y || deepS (deepE cn F m) x y
theorem insE_of {cn : Str} {F : FF} {x y : D} (e : insE cn F x y = true) : ∃ gs gs', x = .ins cn gs ∧ y = .ins cn gs' ∧ F [.val (.ins cn gs), .val (.ins cn gs')] = some (.ok (.val (.bl true)) none) := by
  cases x with
  | ins c gs =>
    cases y with
    | ins c' gs' =>
      have e : (decide (c = cn) && decide (c' = cn) && (match F [.val (.ins c gs), .val (.ins c' gs')] with
        | some (.ok (.val (.bl true)) none) => true
        | _ => false)) = true := e
      rw [Bool.and_eq_true, Bool.and_eq_true] at e
      obtain ⟨⟨e1, e2⟩, e3⟩ := e
      have e1 := of_decide_eq_true e1
      have e2 := of_decide_eq_true e2
      subst e1
      subst e2
      refine ⟨gs, gs', rfl, rfl, ?_⟩
      split at e3
      · assumption
      · cases e3
    | _ => cases e
  | _ => cases e
theorem deepS_of {f : D → D → Bool} {x y : D} (e : deepS f x y = true) : (∃ xs ys, x = .lst xs ∧ y = .lst ys ∧ allE f xs ys = true) ∨ ∃ xs ys, x = .tup xs ∧ y = .tup ys ∧ allE f xs ys = true := by
  cases x with
  | lst xs => cases y with
    | lst ys => exact .inl ⟨xs, ys, rfl, rfl, e⟩
    | _ => cases e
  | tup xs => cases y with
    | tup ys => exact .inr ⟨xs, ys, rfl, rfl, e⟩
    | _ => cases e
  | _ => cases e
/-- == and != where all is equal -/
def eqS (cn : Str) (F : FF) (neg : Bool) (x y : D) : Option D := match x, y with
  | .lst xs, .lst ys => if allE (deepE cn F 2) xs ys = true then some (.bl !neg) else none
  | .tup xs, .tup ys => if allE (deepE cn F 2) xs ys = true then some (.bl !neg) else none
  | _, _ => none
section
variable {K : PySem.W.Frag} {G G' H H' H0 H1 G1 : Hp}
def insR (K : PySem.W.Frag) (cn : Str) (F : FF) (a b : Addr) (H : Hp) : Prop := ∃ G gs gs', Ext G H ∧ NoT G ∧ At K G (.ref a) (.ins cn gs) ∧ At K G (.ref b) (.ins cn gs') ∧ F [.val (.ins cn gs), .val (.ins cn gs')] = some (.ok (.val (.bl true)) none)
def EqvD (K : PySem.W.Frag) (C : Addr) (cn : Str) (F : FF) : Nat → Eqv
  | 0 => fun x y H => DFlat x y H ∨ DIns C (insR K cn F) x y H
  | m + 1 => fun x y H => EqvD K C cn F m x y H ∨ (DList (EqvD K C cn F m) x y H ∨ DTup K (EqvD K C cn F m) x y H)
theorem mon_eqv {C : Addr} {cn : Str} {F : FF} : ∀ m, Mon (EqvD K C cn F m)
  | 0 => Mon.or mon_flat (mon_ins fun a b H H' e ⟨G, gs, gs', i, h⟩ => ⟨G, gs, gs', i.trans e, h⟩)
  | m + 1 => Mon.or (mon_eqv m) (Mon.or (mon_list (mon_eqv m)) (mon_tup (mon_eqv m)))
theorem flatV_at {v : V} {d : D} {a : V} (h : At K G v d) (e : flatD d = some a) : v = a := by
  cases h <;> cases e <;> rfl
theorem prs_of {D' : Eqv} {f : D → D → Bool} (hf : ∀ x y u v, f x y = true → At K G u x → At K G v y → D' u v H) : ∀ {xs ys : List D} {us vs : List V}, allE f xs ys = true → AtL K G us xs → AtL K G vs ys → Prs D' us vs H
  | [], [], _, _, _, .nil, .nil => Prs.nil
  | x :: xs, y :: ys, _, _, e, .cons a l, .cons b k => by
    have e : (f x y && allE f xs ys) = true := e
    rw [Bool.and_eq_true] at e
    exact Prs.cons (hf x y _ _ e.1 a b) (prs_of hf e.2 l k)
  | [], _ :: _, _, _, e, _, _ => by cases e
  | _ :: _, [], _, _, e, _, _ => by cases e
theorem eqv_of {C : Addr} {cn : Str} {F : FF} (ct : CT K cn C) (i : Ext G H) (nt : NoT G) : ∀ (m : Nat) (x y : D) (u v : V), deepE cn F m x y = true → At K G u x → At K G v y → EqvD K C cn F m u v H
  | 0, x, y, u, v, e, a, b => by
    have e : (flatE x y || insE cn F x y) = true := e
    rw [Bool.or_eq_true] at e
    rcases e with e | e
    · refine .inl ?_
      unfold flatE at e
      cases ex : flatD x with
      | none => rw [ex] at e; cases e
      | some p =>
        cases ey : flatD y with
        | none => rw [ex, ey] at e; cases e
        | some q =>
          rw [ex, ey] at e
          simp only [Bool.and_eq_true] at e
          rw [flatV_at a ex, flatV_at b ey]
          exact ⟨e.1.1, e.1.2, e.2⟩
    · refine .inr ?_
      obtain ⟨gs, gs', rfl, rfl, eF⟩ := insE_of e
      have a0 := a
      have b0 := b
      cases a with
      | @ins p C1 dx _ fs _ ct1 hp _ =>
        cases b with
        | @ins q C2 dy _ fs2 _ ct2 hq _ =>
          have z1 := ct1.one ct
          have z2 := ct2.one ct
          subst z1
          subst z2
          exact ⟨p, q, dx, dy, fs, fs2, rfl, rfl, i _ _ hp, i _ _ hq, G, gs, gs', i, nt, a0, b0, eF⟩
  | m + 1, x, y, u, v, e, a, b => by
    have e : (deepE cn F m x y || deepS (deepE cn F m) x y) = true := e
    rw [Bool.or_eq_true] at e
    rcases e with e | e
    · exact .inl (eqv_of ct i nt m x y u v e a b)
    · rcases deepS_of e with ⟨xs, ys, rfl, rfl, e⟩ | ⟨xs, ys, rfl, rfl, e⟩
      · cases a with
        | lst h1 l1 =>
          cases b with
          | lst h2 l2 => exact .inr (.inl ⟨_, _, _, _, rfl, rfl, i _ _ h1, i _ _ h2, prs_of (fun x y u v e a b => eqv_of ct i nt m x y u v e a b) e l1 l2⟩)
      · cases a with
        | tup h1 l1 =>
          cases b with
          | tup h2 l2 => exact .inr (.inr ⟨_, _, _, _, rfl, rfl, sqT_ext h1 i, sqT_ext h2 i, prs_of (fun x y u v e a b => eqv_of ct i nt m x y u v e a b) e l1 l2⟩)
abbrev rEqS (K : PySem.W.Frag) (C : Addr) (cn : Str) (F : FF) (neg : Bool) : R2 := fun x y H Q => (DList (EqvD K C cn F 2) x y H ∨ DTup K (EqvD K C cn F 2) x y H) ∧ ∀ H', Ext H H' → Q (.bl !neg) H'
theorem sim_eqS {cn : Str} {C : Addr} {F : FF} {neg : Bool} (ct : CT K cn C) : SimR2 K (rEqS K C cn F neg) (eqS cn F neg) := by
  intro x y z e G H u v i hu hv Q q
  have bs := i
  have i := bs.i
  unfold eqS at e
  split at e
  · split at e
    · rename_i h
      cases e
      cases hu with
      | lst h1 l1 =>
        cases hv with
        | lst h2 l2 => exact ⟨.inl ⟨_, _, _, _, rfl, rfl, i _ _ h1, i _ _ h2, prs_of (fun x y u v e a b => eqv_of ct i bs.nt 2 x y u v e a b) h l1 l2⟩, fun H' eH => q _ G H' (.of Ext.rfl' eH (i.trans eH) (fun _ h => .inl h) id) (.bl _)⟩
    · cases e
  · split at e
    · rename_i h
      cases e
      cases hu with
      | tup h1 l1 =>
        cases hv with
        | tup h2 l2 => exact ⟨.inr ⟨_, _, _, _, rfl, rfl, sqT_ext h1 i, sqT_ext h2 i, prs_of (fun x y u v e a b => eqv_of ct i bs.nt 2 x y u v e a b) h l1 l2⟩, fun H' eH => q _ G H' (.of Ext.rfl' eH (i.trans eH) (fun _ h => .inl h) id) (.bl _)⟩
    · cases e
  · cases e
end
section
variable {X : Cx} {n : Nat} {D' : Eqv}
theorem RcG.or {D1 D2 : Eqv} (h : RcG X n D1) (k : RcG X n D2) : RcG X n (fun x y H => D1 x y H ∨ D2 x y H) := fun A pins s σ H x y u v sb I rx ry d => by
  rcases d with d | d
  · exact h A pins s σ H x y u v sb I rx ry d
  · exact k A pins s σ H x y u v sb I rx ry d
/-- != gives False -/
def RnG (X : Cx) (n : Nat) (D : Eqv) : Prop :=
  ∀ (A : Around) (pins : List (Addr × Obj)) (s : Shared) (σ : L2.St) (H : Hp) (x y : V) (u v : Value), Sub X n A → Inv X pins σ H s → RelV x u → RelV y v → D x y H →
    wpAny (model X.prog X.w) A (richCompare .NotEq u v) (fun r s' => r = .bool false ∧ ∃ H', Inv X pins σ H' s' ∧ Ext H H') X.xe s
theorem RnG.or {D1 D2 : Eqv} (h : RnG X n D1) (k : RnG X n D2) : RnG X n (fun x y H => D1 x y H ∨ D2 x y H) := fun A pins s σ H x y u v sb I rx ry d => by
  rcases d with d | d
  · exact h A pins s σ H x y u v sb I rx ry d
  · exact k A pins s σ H x y u v sb I rx ry d
theorem rnG_list (hD : Mon D') (h : EqG X n D') : RnG X (n + 1) (DList D') := by
  intro A pins s σ H x y u v sb I rx ry d
  obtain ⟨a, b, xs, ys, rfl, rfl, ha, hb, p⟩ := d
  cases rx
  cases ry
  refine ne_listG (N := xs.length) sb.room.units0 (fun _ s' => LoopI X pins σ H s') (fun i s' q => ?_) (fun s' q => ⟨rfl, q⟩) ⟨H, I, Ext.rfl'⟩
  obtain ⟨H1, I1, e1⟩ := id q
  obtain ⟨z, its, k, r, e⟩ := I1.hok a _ (e1 _ _ ha)
  obtain ⟨z2, its2, k2, r2, e2⟩ := I1.hok b _ (e1 _ _ hb)
  refine ⟨its.toArray, its2.toArray, k, k2, e, e2, by rw [List.size_toArray, ← r.length], by rw [List.size_toArray, ← r2.length, ← p.1], fun h1 h2 => ?_⟩
  exact turnG hD h sb p r r2 i h1 h2 s' q
theorem rnG_tup (hD : Mon D') (h : EqG X n D') : RnG X (n + 1) (DTup X.K D') := by
  intro A pins s σ H x y u v sb I rx ry d
  obtain ⟨a, b, xs, ys, rfl, rfl, ha, hb, p⟩ := d
  cases rx
  cases ry
  obtain ⟨its, r, e, z⟩ := I.tuple ha
  obtain ⟨its2, r2, e2, z2⟩ := I.tuple hb
  have hsz : its.toArray.size = its2.toArray.size := by rw [List.size_toArray, List.size_toArray, ← r.length, ← r2.length]; exact p.1
  exact ne_tupG hsz sb.room.units0 (fun _ s' => LoopI X pins σ H s') e e2 (fun i h1 h2 s' q => turnG hD h sb p r r2 i h1 h2 s' q) (fun s' q => ⟨rfl, q⟩) ⟨H, I, Ext.rfl'⟩
variable {C f : Addr} {fd : FuncData} {ps : List Str} {F : FF} {cn : Str}
theorem sp_eq {K : PySem.W.Frag} {vs : List V} {H : Hp} {Q : VK} {E : XK} (h : spEq (insR K cn F) vs H Q E) : @spF TbC.off K F vs H Q E := by
  obtain ⟨a, b, rfl, ⟨G, gs, gs', i, nt, ha, hb, eF⟩, q⟩ := h
  refine ⟨G, fun _ => none, _, [], _, @Iv.mk TbC.off _ _ _ _ i (fun _ _ z => by cases z) nt (fun x hx => (List.not_mem_nil hx).elim) trivial, (by letI : TbC := TbC.off; exact arg_vals (.cons ha (.cons hb .nil))), fun e he => (List.not_mem_nil he).elim, eF, ?_⟩
  intro u' c' G' H' g' iv' _ hr
  cases hr
  exact q H' fun b o e => @Grow.h TbC.off _ _ _ _ _ _ _ g' b o rfl (.inr rfl) e
theorem eqG_eqv (T : EqC X.K C f) (F0 : FnOk X.prog X.w X.K X.mg X.base CX0 n f fd ps (@spF TbC.off X.K F)) (hb : Binds X.K fd ps []) : ∀ m, EqG X (n + m) (EqvD X.K C cn F m)
  | 0 => EqG.or (eqG_flat.mono (Nat.zero_le _)) (eqG_ins (E := fun _ _ _ => False) (F0.imp fun vs H Q E h => sp_eq h) T.eqF T.isF hb pass0)
  | m + 1 => EqG.or ((eqG_eqv T F0 hb m).mono (by omega)) (EqG.or (eqG_list (mon_eqv m) (eqG_eqv T F0 hb m)) (eqG_tup (mon_eqv m) (eqG_eqv T F0 hb m)))
theorem op_eqS (T : EqC X.K C f) (F0 : FnOk X.prog X.w X.K X.mg X.base CX0 n f fd ps (@spF TbC.off X.K F)) (hb : Binds X.K fd ps []) (hr : Room (n + 3) X.A) : OpR X (compareOp .Eq) (rEqS X.K C cn F false) :=
  op_eqG (RcG.or (rcG_list (mon_eqv 2) (eqG_eqv T F0 hb 2)) (rcG_tup (mon_eqv 2) (eqG_eqv T F0 hb 2))) hr
theorem op_neS (T : EqC X.K C f) (F0 : FnOk X.prog X.w X.K X.mg X.base CX0 n f fd ps (@spF TbC.off X.K F)) (hb : Binds X.K fd ps []) (hr : Room (n + 3) X.A) : OpR X (compareOp .NotEq) (rEqS X.K C cn F true) := by
  intro pins s σ H x y v u Q I rx ry hq
  obtain ⟨d, q⟩ := hq
  show wpAny (model X.prog X.w) X.A (richCompare .NotEq v u) (EP X pins σ Q) X.xe s
  refine wpAny_mono ((RnG.or (rnG_list (mon_eqv 2) (eqG_eqv T F0 hb 2)) (rnG_tup (mon_eqv 2) (eqG_eqv T F0 hb 2))) X.A pins s σ H x y v u ⟨hr, rfl⟩ I rx ry d) (fun r s' z => ?_) fun _ _ x => x
  obtain ⟨hr', H', I', e⟩ := z
  subst hr'
  exact ⟨.bl false, H', I', rfl, q H' e⟩
theorem eqS_K {K : PySem.W.Frag} (hK : X.K = K) (T : EqC X.K C f) (F0 : FnOk X.prog X.w X.K X.mg X.base CX0 n f fd ps (@spF TbC.off X.K F)) (hb : Binds X.K fd ps []) (hr : Room (n + 3) X.A) : OpR X (compareOp .Eq) (rEqS K C cn F false) := by subst hK; exact op_eqS T F0 hb hr
theorem neS_K {K : PySem.W.Frag} (hK : X.K = K) (T : EqC X.K C f) (F0 : FnOk X.prog X.w X.K X.mg X.base CX0 n f fd ps (@spF TbC.off X.K F)) (hb : Binds X.K fd ps []) (hr : Room (n + 3) X.A) : OpR X (compareOp .NotEq) (rEqS K C cn F true) := by subst hK; exact op_neS T F0 hb hr
end
end DF

set_option linter.all false
set_option maxRecDepth 100000
set_option maxHeartbeats 4000000
namespace DF
open PySem PySem.Spec PyProof.Rows L2 TL NumText
variable [TbC]
section
variable {K : PySem.W.Frag} {G G' H H' H0 H1 G1 : Hp} {P : List Addr} {σ σ' : L2.St} {Γ Γ' Γ1 : EnvF} {L L' L1 : List (Addr × OD)} {c c' c1 : Ow} {W : WX}
variable {t : TA} {fs : FA}
/-! ### x, y = a, [..]: the second one's own -/
def fParO (i j : Nat) (f : FA) : FS := FM.bind f fun vs Γ => match vs with
  | [.val x, .own o] => some (.ok .nx ((Γ.set i (.val x)).set j (.own 0 o)))
  | _ => none
theorem sim_parO {i j : Nat} (h : SimA K W t fs) : SimS K W (tPar i j t) (fParO i j fs) := fun P σ c G H Γ L s r e Dn post => by
  rcases FM.bind_some e with ⟨vs, Γ1, e1, e2⟩ | ⟨cn, f, d, Γ1, e1, er⟩
  · refine h P σ c G H Γ L s _ e1 _ ?_
    intro b c1 G1 H1 L1 g1 s1 e1' r1
    split at e2
    · rename_i x o
      cases e2
      cases r1 with
      | @cons u _ us _ h1 l =>
        cases l with
        | @cons v _ us _ h2 l =>
          cases l
          obtain ⟨La, sa, na⟩ := s1.val i h1
          obtain ⟨p, q1, q2, q3, q4⟩ := h2
          obtain ⟨L2, s2, n2⟩ := sa.put (H0 := H) (v := .own o) (i := j) ⟨p, q1, q2, fun z => q3 ((na.map _).subset z), q4⟩ (fun b hb => s.pa b (by simpa using hb)) rfl
          exact ⟨u, v, rfl, post.nx _ rfl _ c1 G1 H1 L2 g1 s2 fun x hx => (n2 x hx).elim (fun z => .inl (by
            have z : x.1 ∈ La.map (·.1) := z
            have := (na.map _).subset z
            unfold TL at *
            rwa [e1'] at this)) .inr⟩
    · cases e2
  · subst er
    exact h P σ c G H Γ L s _ e1 _ (post.ex cn f d Γ1 rfl)
/-! ### min of a list, sorted texts, find -/
def minL : List Int → Int
  | [] => 0
  | [a] => a
  | a :: b :: r => min a (minL (b :: r))
theorem minL_mem : ∀ {l : List Int}, l ≠ [] → minL l ∈ l
  | [], h => absurd rfl h
  | [a], _ => List.mem_singleton.mpr rfl
  | a :: b :: r, _ => by
    have ih := minL_mem (l := b :: r) (by simp)
    show min a (minL (b :: r)) ∈ a :: b :: r
    rw [Int.min_def]
    split
    · exact List.mem_cons_self
    · exact List.mem_cons_of_mem _ ih
theorem minL_le : ∀ {l : List Int} {y : Int}, y ∈ l → minL l ≤ y
  | [a], y, h => by rw [List.mem_singleton.mp h]; exact Int.le_refl _
  | a :: b :: r, y, h => by
    show min a (minL (b :: r)) ≤ y
    rcases List.mem_cons.mp h with rfl | h
    · exact Int.min_le_left _ _
    · exact Int.le_trans (Int.min_le_right _ _) (minL_le h)
def minOf : List D → Option D
  | [.lst ds] => (intsOf ds).bind fun bs => if bs = [] then none else some (.int (minL bs))
  | _ => none
theorem sim_minOf : SimC K (rMin K) minOf := by
  intro xs z e G H us i l Q q
  have bs := i
  have i := bs.i
  unfold minOf at e
  split at e
  · simp only [Option.bind_eq_some_iff] at e
    obtain ⟨bs, eb, ez⟩ := e
    split at ez
    · cases ez
    · rename_i hb
      cases ez
      obtain ⟨u, eu, h⟩ := atl1 l; subst eu
      cases h with
      | lst hp l =>
        have := ints_at l eb
        subst this
        refine ⟨_, bs, rfl, ext_lst i hp, List.length_pos_iff.mpr hb, fun m hm hle => ?_⟩
        have : m = minL bs := Int.le_antisymm (hle _ (minL_mem hb)) (minL_le hm)
        rw [this]
        exact q _ G H (PG.refl i) (.int _)
  · cases e
theorem min_K {X : Cx} (hK : X.K = K) (hc : X.calm = true) : CallR X (.builtin "min") (rMin K) := by subst hK; exact cr_min hc
/-- texts in order -/
def leS (a b : Str) : Bool := !(decide (b.cps.toList < a.cps.toList))
def sortS (l : List Str) : List Str := l.mergeSort leS
theorem leS_iff {a b : Str} : leS a b = true ↔ a.cps.toList ≤ b.cps.toList := by
  unfold leS
  rw [Bool.not_eq_true', decide_eq_false_iff_not, List.not_lt]
theorem str_ext {a b : Str} (h : a.cps.toList = b.cps.toList) : a = b := by
  cases a; cases b; simp at h; rw [h]
theorem leS_anti {a b : Str} (h : leS a b = true) (k : leS b a = true) : a = b := str_ext (List.le_antisymm (leS_iff.mp h) (leS_iff.mp k))
theorem leS_trans {a b c : Str} (h : leS a b = true) (k : leS b c = true) : leS a c = true := leS_iff.mpr (List.le_trans (leS_iff.mp h) (leS_iff.mp k))
theorem leS_total (a b : Str) : (leS a b || leS b a) = true := by
  rw [Bool.or_eq_true, leS_iff, leS_iff]
  exact List.le_total _ _
theorem rising_pair : ∀ {p : Str} {l : List Str}, risingS p l = true → List.Pairwise (fun a b => leS a b = true) (p :: l)
  | p, [], _ => List.pairwise_singleton _ _
  | p, x :: r, h => by
    rw [risingS.eq_2, Bool.and_eq_true, ltCps_eq] at h
    have ih := rising_pair h.2
    have h1 : leS p x = true := h.1
    refine List.pairwise_cons.mpr ⟨fun y hy => ?_, ih⟩
    rcases List.mem_cons.mp hy with rfl | hy
    · exact h1
    · exact leS_trans h1 ((List.pairwise_cons.mp ih).1 y hy)
theorem sorted_pair {l : List Str} (h : sortedS l = true) : List.Pairwise (fun a b => leS a b = true) l := by
  cases l with
  | nil => exact .nil
  | cons p r => exact rising_pair h
theorem sort_pair (l : List Str) : List.Pairwise (fun a b => leS a b = true) (sortS l) := List.pairwise_mergeSort (le := leS) (fun a b c => leS_trans) leS_total l
theorem sort_perm (l : List Str) : (sortS l).Perm l := List.mergeSort_perm l _
theorem sort_uniq {l m : List Str} (h : l.Perm m) (s : List.Pairwise (fun a b => leS a b = true) l) : l = sortS m :=
  List.Perm.eq_of_pairwise (fun a b _ _ => leS_anti) s (sort_pair m) (h.trans (sort_perm m).symm)
def sortSD : List D → Option D
  | [.lst ds] => (joinD.strsOf ds).bind fun bs => if bs.length < 64 then some (.lst ((sortS bs).map .str)) else none
  | _ => none
theorem sim_sortS : SimC K (rSortedS K) sortSD := by
  intro xs z e G H us i l Q q
  have bs := i
  have i := bs.i
  unfold sortSD at e
  split at e
  · simp only [Option.bind_eq_some_iff] at e
    obtain ⟨bs, eb, ez⟩ := e
    split at ez
    · rename_i hb
      cases ez
      obtain ⟨u, eu, h⟩ := atl1 l; subst eu
      cases h with
      | lst hp l =>
        have := strs_at l eb
        subst this
        refine ⟨_, bs, rfl, ext_lst i hp, hb, fun ys p h1 h2 hn => ?_⟩
        have : ys = sortS bs := sort_uniq h1 (sorted_pair h2)
        subst this
        have gn := PG.new (G := G) (o := .lst ((sortS bs).map V.str)) i hn
        exact q _ _ _ gn (.lst upd_same (atl_strs _))
    · cases ez
  · cases e
theorem sortS_K {X : Cx} (hK : X.K = K) : CallR X (.builtin "sorted") (rSortedS K) := by subst hK; exact cr_sortedS
def findD : D → List D → Option D := s1D fun a b => .int (Txt.find a b)
theorem sim_find : SimM K (fun x xs H Q => ∃ a b, x = .str a ∧ xs = [.str b] ∧ Q (.int (Txt.find a b)) H) findD := sim_s1 fun _ _ _ => .int _
end
/-- where a text stands first in another one -/
theorem find_or (x y : Str) : (Txt.find x y = -1 ∧ ∀ i, i + (tl y).length ≤ (tl x).length → ((tl x).drop i).take (tl y).length ≠ tl y) ∨
    ∃ i : Nat, Txt.find x y = i ∧ i + (tl y).length ≤ (tl x).length ∧ ((tl x).drop i).take (tl y).length = tl y := by
  have ex : x.length = (tl x).length := len_tl x
  have ey : y.length = (tl y).length := len_tl y
  have hA : ∀ i, StrLaws.At x y x.length i ↔ i + (tl y).length ≤ (tl x).length ∧ ((tl x).drop i).take (tl y).length = tl y := fun i => by
    unfold StrLaws.At
    rw [StrLaws.subAt_eq, ex, ey, beq_iff_eq]
  unfold Txt.find
  rcases StrLaws.occ_head x y 1 (Nat.le_refl _) with ⟨e, h⟩ | ⟨i, r, e, h, _⟩
  · left
    rw [e]
    exact ⟨rfl, fun i h1 h2 => h i ((hA i).mpr ⟨h1, h2⟩)⟩
  · right
    rw [e]
    exact ⟨i, rfl, (hA i).mp h⟩
/-! ### texts in lists: equal, in -/
theorem okL_str : ∀ {L : List Str}, (∀ z ∈ L, ∀ c ∈ tl z, c < 1114112) → okL (L.map D.str)
  | [], _ => trivial
  | z :: L, h => ⟨h z List.mem_cons_self, okL_str fun x hx => h x (List.mem_cons_of_mem _ hx)⟩
theorem depL_str : ∀ L : List Str, depL (L.map D.str) = 0
  | [] => rfl
  | z :: L => by show max 0 (depL (L.map D.str)) = 0; rw [depL_str L]; rfl
theorem okEq_strs {L : List Str} (h : ∀ z ∈ L, ∀ c ∈ tl z, c < 1114112) : okEq (.lst (L.map D.str)) = true :=
  eq_okD (okL_str h : okD (.lst (L.map D.str))) (by show depL (L.map D.str) + 1 ≤ 64; rw [depL_str]; decide)
theorem okEq_str {z : Str} (h : ∀ c ∈ tl z, c < 1114112) : okEq (.str z) = true := eq_okD (x := .str z) h (by show 0 ≤ 64; decide)
theorem eqv_str {a b : Str} : PyData.eqv (.str a) (.str b) = decide (a = b) := by
  show (a == b) = _
  rw [Bool.eq_iff_iff, beq_iff_eq, decide_eq_true_iff]
theorem eqv_strs : ∀ {A B : List Str}, PyData.eqv (.list (pyL (A.map D.str))) (.list (pyL (B.map D.str))) = decide (A = B)
  | [], [] => rfl
  | [], _ :: _ => rfl
  | _ :: _, [] => rfl
  | a :: A, b :: B => by
    have ih := eqv_strs (A := A) (B := B)
    have e : PyData.eqv (.list (pyL ((a :: A).map D.str))) (.list (pyL ((b :: B).map D.str))) = (PyData.eqv (.str a) (.str b) && PyData.eqv (.list (pyL (A.map D.str))) (.list (pyL (B.map D.str)))) := rfl
    rw [e, ih, eqv_str]
    by_cases h : a = b <;> by_cases k : A = B <;> simp [h, k]
theorem r_eqStrs {A B : List Str} {Φ : D → Prop} (h : ∀ z ∈ A, ∀ c ∈ tl z, c < 1114112) (k : ∀ z ∈ B, ∀ c ∈ tl z, c < 1114112) (p : Φ (.bl (decide (A = B)))) : ∃ z, eqD (.lst (A.map D.str)) (.lst (B.map D.str)) = some z ∧ Φ z :=
  r_eq (okEq_strs h) (okEq_strs k) eqv_strs p
theorem any_strs {a : Str} {L : List Str} (ha : ∀ c ∈ tl a, c < 1114112) (h : ∀ z ∈ L, ∀ c ∈ tl z, c < 1114112) : anyIn (.str a) (L.map D.str) = some (decide (a ∈ L)) := by
  have e : ∀ L : List Str, ((pyL (L.map D.str)).any fun z => PyData.eqv z (py (.str a))) = decide (a ∈ L) := fun L => by
    induction L with
    | nil => rfl
    | cons x l ih =>
      show (PyData.eqv (.str x) (.str a) || (pyL (l.map D.str)).any fun z => PyData.eqv z (py (.str a))) = _
      rw [ih, eqv_str]
      by_cases h : x = a
      · subst h; simp
      · have : a ≠ x := fun z => h z.symm
        simp [h, this]
  unfold anyIn
  rw [if_pos ⟨okEq_str ha, okEq_strs h⟩, e L]
theorem r_notInStrs {a : Str} {L : List Str} {Φ : D → Prop} (ha : ∀ c ∈ tl a, c < 1114112) (h : ∀ z ∈ L, ∀ c ∈ tl z, c < 1114112) (p : Φ (.bl !(decide (a ∈ L)))) : ∃ z, notInLD (.str a) (.lst (L.map D.str)) = some z ∧ Φ z :=
  ⟨_, by show (anyIn _ _).map _ = _; rw [any_strs ha h]; rfl, p⟩
/-! ### steps -/
section
variable {Γ : EnvF} {fa : FE} {fs : FA} {fS : FS} {ΦS : Fl → EnvF → Prop} {Φ : D → Prop}
theorem x_parO {i j : Nat} (h : X fs Γ fun vs Γ' => ∃ x o, vs = [.val x, .own o] ∧ ∃ Γ2, (Γ'.set i (.val x)).set j (.own 0 o) = Γ2 ∧ ΦS .nx Γ2) : X (fParO i j fs) Γ ΦS := x_bind (h.imp fun d g p => by
  obtain ⟨x, y, e, Γ2, e2, p⟩ := p; subst e e2; exact ⟨_, _, rfl, p⟩)
theorem x_frz {i : Nat} {Γ' : EnvF} (e : frz i Γ = some Γ') (h : X fS Γ' ΦS) : X (fFrz i fS) Γ ΦS := by
  obtain ⟨v, g, e2, p⟩ := h
  exact ⟨v, g, by unfold fFrz; rw [e]; exact e2, p⟩
theorem ints_map : ∀ l : List Int, intsOf (l.map D.int) = some l
  | [] => rfl
  | i :: l => by show (intsOf (l.map D.int)).map (i :: ·) = _; rw [ints_map l]; rfl
theorem e_minOf {l : List Int} (h : l ≠ []) (p : Φ (.int (minL l))) : ∃ z, minOf [.lst (l.map D.int)] = some z ∧ Φ z :=
  ⟨_, by show (intsOf (l.map D.int)).bind _ = _; rw [ints_map]; exact if_neg h, p⟩
theorem strs_map : ∀ l : List Str, joinD.strsOf (l.map D.str) = some l
  | [] => rfl
  | i :: l => by show (joinD.strsOf (l.map D.str)).map (i :: ·) = _; rw [strs_map l]; rfl
theorem e_sortS {l : List Str} (h : l.length < 64) (p : Φ (.lst ((sortS l).map D.str))) : ∃ z, sortSD [.lst (l.map D.str)] = some z ∧ Φ z :=
  ⟨_, by show (joinD.strsOf (l.map D.str)).bind _ = _; rw [strs_map]; exact if_pos h, p⟩
end
end DF

set_option linter.all false
set_option maxRecDepth 100000
set_option maxHeartbeats 4000000
/-! except (A, B, ..) as e: clauses that name several classes, several such clauses -/
namespace TX
open PySem PySem.Spec PyProof.Rows L2
inductive EachX (K : PySem.W.Frag) (cls : Value) : List Value → List Bool → Prop
  | nil : EachX K cls [] []
  | cons {c : Value} {b : Bool} {cs : List Value} {bs : List Bool} : PySem.W.exmOne K cls c = some b → EachX K cls cs bs → EachX K cls (c :: cs) (b :: bs)
section
variable {M : Model} {A : Around} {E : Value → Shared → Prop} {s : Shared} {K : PySem.W.Frag} {h : Heap} {cls : Value}
theorem loop_cls (X : K.In h) (k : ∀ (b : Addr) (o : Obj), h.get? b = some o → s.heap.get? b = some o) : ∀ {cs : List Value} {bs : List Bool} {Q : PUnit → Shared → Prop}, EachX K cls cs bs → Q PUnit.unit s →
    wpAny M A (forIn cs PUnit.unit fun c __s => do
        let __do_lift ← isExcClass c
        if (!__do_lift) = true then do
            rule "try.except-non-exception-class"
            raiseErrorWords "TypeError" "catching classes that do not inherit from BaseException is not allowed"
            pure (ForInStep.yield PUnit.unit)
          else pure (ForInStep.yield PUnit.unit)) Q E s
  | _, _, Q, .nil, q => by
    rw [List.forIn_nil]
    exact wpAny_pure q
  | _, _, Q, .cons e l, q => by
    rw [List.forIn_cons]
    refine wpAny_bind ?_
    refine wpAny_bind ((PySem.W.exm_cls X e).1 _ _ _ _ k ?_)
    simp only [Bool.not_true, Bool.false_eq_true, if_false]
    refine wpAny_pure ?_
    exact loop_cls X k l q
theorem loop_sub (X : K.In h) (k : ∀ (b : Addr) (o : Obj), h.get? b = some o → s.heap.get? b = some o) : ∀ {cs : List Value} {bs : List Bool} {Q : Option Bool × Unit → Shared → Prop}, EachX K cls cs bs → Q (if bs.any id = true then (some true, ()) else (none, ())) s →
    wpAny M A (forIn cs ((none, ()) : Option Bool × Unit) fun c __s => do
        let __do_lift ← isSubtype cls c
        if __do_lift = true then pure (ForInStep.done (some true, ())) else pure (ForInStep.yield (none, ()))) Q E s
  | _, _, Q, .nil, q => by
    rw [List.forIn_nil]
    exact wpAny_pure q
  | _, _, Q, @EachX.cons _ _ c b cs bs e l, q => by
    rw [List.forIn_cons]
    refine wpAny_bind ?_
    refine wpAny_bind ((PySem.W.exm_cls X e).2 _ _ _ _ k ?_)
    cases b with
    | true =>
      rw [if_pos rfl]
      refine wpAny_pure ?_
      refine wpAny_pure ?_
      simpa using q
    | false =>
      rw [if_neg (by simp)]
      refine wpAny_pure ?_
      refine loop_sub X k l ?_
      simpa using q
theorem looks_tup {e p : Addr} {cs : List Value} {bs : List Bool} (X : K.In h) (LT : PySem.W.Looks M h (typeOf (.ref e)) cls) (ht : PyProof.Rows.IsTup h p cs.toArray) (hx : EachX K cls cs bs) :
    PySem.W.Looks M h (excMatches (.ref e) (.ref p)) (bs.any id) := by
  intro A Q E s k q
  obtain ⟨o, ho, hc, n, hd⟩ := ht
  unfold excMatches
  refine wpAny_bind ?_
  unfold isInstance
  refine wpAny_bind (wpAny_typeOf_ref (k p o ho) ?_)
  rw [hc, show isSubtype (.type "tuple") (.type "tuple") = pure true from rfl]
  refine wpAny_pure ?_
  rw [if_pos rfl]
  refine wpAny_bind (wpAny_seqItems (k p o ho) hd ?_)
  refine wpAny_bind (wpAny_pure ?_)
  refine wpAny_bind (loop_cls X k (by simpa using hx) ?_)
  refine wpAny_bind (LT _ _ _ _ k ?_)
  refine wpAny_bind (loop_sub X k (by simpa using hx) ?_)
  generalize bs.any id = b at q
  cases b with
  | true => exact wpAny_pure q
  | false => exact wpAny_pure q
end
/-- what flies stays so while the heap grows -/
theorem fly_keep {B h h' : Heap} {l : List Env} {a : Addr} {Z : Obj → Prop} (fl : HandSPX.FlyingZ B l a Z h) (k : ∀ (b : Addr) (o : Obj), h.get? b = some o → h'.get? b = some o) : HandSPX.FlyingZ B l a Z h' := by
  obtain ⟨k1, k2, k3, oe, vs, T, oT, ts, he, hz, hd, h1, h2, h3, h4, h5, h6⟩ := fl
  exact ⟨fun b o e => k b o (k1 b o e), k2, k3.of_keeps fun b o e _ => ⟨o, k b o e, rfl⟩, oe, vs, T, oT, ts, k _ _ he, hz, hd, h1, h2, h3, k _ _ h4, h5, h6⟩
/-- the expressions of clauses: a name, or a tuple of names -/
inductive NamesL (X : Cx) : List Expr → List Value → Prop
  | nil : NamesL X [] []
  | cons {x : Str} {c : Value} {np : Pos} {es : List Expr} {cs : List Value} : Names X x c → NamesL X es cs → NamesL X (.Name x np :: es) (c :: cs)
inductive ClsE (X : Cx) : Expr → List Value → Prop
  | one {x : Str} {c : Value} {np : Pos} : Names X x c → ClsE X (.Name x np) [c]
  | tup {es : List Expr} {cs : List Value} {k : Nat} {pos : Pos} : NamesL X es cs → cs.length ≤ 100 → ClsE X (.Tuple es k pos) cs
section
variable {X : Cx}
theorem ld_name {E : Value → Shared → Prop} {pins : List (Addr × Obj)} {s : Shared} {σ : L2.St} {H : Hp} {x : Str} {c : Value} {pos : Pos} {Q : Value → Shared → Prop} (S : L2.Inv X pins σ H s) (hc : Names X x c) (q : Q c s) :
    wpAny (model X.prog X.w) X.A (eval (.Name x pos) X.env) Q E s := by
  obtain ⟨hg, hd, hm | ⟨hm, hv, hn⟩⟩ := hc
  · exact ld_glob S hg hm q hd
  · exact ld_blt S hg hm hv q hn hd
theorem names_in {Y : Cx} (e1 : Y.mg = X.mg) (e2 : ∀ x, Gl X x → Gl Y x) : ∀ {es : List Expr} {cs : List Value}, NamesL X es cs → NamesL Y es cs
  | _, _, .nil => .nil
  | _, _, .cons ⟨h1, h2, h3⟩ l => .cons ⟨e2 _ h1, h2, by rw [e1]; exact h3⟩ (names_in e1 e2 l)
theorem ld_names {E : Value → Shared → Prop} {pins : List (Addr × Obj)} {s : Shared} {σ : L2.St} {H : Hp} {pos : Pos} (S : L2.Inv X pins σ H s) : ∀ {es : List Expr} {cs : List Value} {Q : List Value → Shared → Prop}, NamesL X es cs → Q cs s →
    wpAny (model X.prog X.w) X.A (spliced (backTo pos (starEach es X.env))) Q E s
  | _, _, Q, .nil, q => PyProof.Rows.spliced_none q
  | _, _, Q, .cons hc l, q => PyProof.Rows.spliced_more (ld_name S hc (ld_names S l q))
/-- the test of a clause -/
theorem cls_test {E : Value → Shared → Prop} {pins : List (Addr × Obj)} {s : Shared} {σ : L2.St} {H : Hp} {e : Expr} {cs : List Value} {bs : List Bool} {cls : Value} {a : Addr} {Q : Bool → Shared → Prop}
    (S : L2.Inv X pins σ H s) (hc : ClsE X e cs) (hx : EachX X.K cls cs bs) (LT : PySem.W.Looks (model X.prog X.w) s.heap (typeOf (.ref a)) cls)
    (q : ∀ s' : Shared, (∀ (b : Addr) (o : Obj), s.heap.get? b = some o → s'.heap.get? b = some o) → s'.os = s.os → s'.gens = s.gens → Q (bs.any id) s') {E' : Value → Shared → Prop} :
    wpAny (model X.prog X.w) X.A (eval e X.env) (fun c s₁ => wpAny (model X.prog X.w) X.A (excMatches (.ref a) c) Q E' s₁) E s := by
  cases hc with
  | one hn =>
    refine ld_name S hn ?_
    cases hx with
    | cons hb l =>
      cases l
      refine PySem.W.exm_one S.kIn LT hb _ _ _ _ (fun _ _ h => h) ?_
      have := q s (fun _ _ h => h) rfl rfl
      simpa using this
  | tup hn hl =>
    refine wpAny_Tuple (ld_names S hn ⟨Nat.le_trans hl (by rw [sizeLine_eq]; decide), ?_⟩)
    have kp : ∀ (b : Addr) (o : Obj), s.heap.get? b = some o → (s.heap.push { cls := .type "tuple", data := .seq cs.toArray }).get? b = some o := fun b o h => Heap.get?_push_of_some _ h
    have ht : PyProof.Rows.IsTup (s.heap.push { cls := .type "tuple", data := .seq cs.toArray }) s.heap.objs.size cs.toArray := ⟨_, Heap.get?_push_size _ rfl, rfl, _, rfl⟩
    refine looks_tup (h := s.heap.push { cls := .type "tuple", data := .seq cs.toArray }) (fun b o h => kp b o (S.kIn b o h)) (LT.keeps kp) ht hx _ _ _ _ (fun _ _ h => h) ?_
    exact q _ kp rfl rfl
end
/-! ### clauses -/
abbrev Hd := List Value × Nat × (Addr → Value → Option Addr → TS)
def wHd (K : PySem.W.Frag) (Wout : WX) (D : Ends) : List Hd → WX
  | [] => Wout
  | (cs, i, ts) :: r => fun cls d σ H => ∃ bs, EachX K cls cs bs ∧
    (bs.any id = true → ∀ a, H a = none → ts a cls d { nx := fun σ' H' => D.nx (List.set σ' i none) H', rt := D.rt, bk := fun σ' H' => D.bk (List.set σ' i none) H', ct := fun σ' H' => D.ct (List.set σ' i none) H' } (List.set σ i (some (V.ref a))) H) ∧
    (bs.any id = false → wHd K Wout D r cls d σ H)
inductive HdT (X : Cx) : List ExceptHandler → List Hd → Prop
  | nil : HdT X [] []
  | cons {e : Expr} {cs : List Value} {n : Str} {i : Nat} {ts : Addr → Value → Option Addr → TS} {b₀ : Stmt} {suite : List Stmt} {pos' : Pos} {hds : List ExceptHandler} {l : List Hd} :
      ClsE X e cs → X.N[i]? = some n → X.env.kindOf n = some .local →
      (∀ (a : Addr) (oe : Obj) (cls : Value) (d : Option Addr) (pn : List (Addr × Obj)), Zc cls d oe → (∃ vs, oe.data = Data.fields vs) → X.base.get? a = none → PSs (X.suite a ((a, oe) :: pn)) (b₀ :: suite) (ts a cls d)) →
      HdT X hds l → HdT X (ExceptHandler.ExceptHandler (some e) (some n) (b₀ :: suite) pos' :: hds) ((cs, i, ts) :: l)
theorem clsE_suite {X : Cx} {a : Addr} {pn : List (Addr × Obj)} : ∀ {e : Expr} {cs : List Value}, ClsE X e cs → ClsE (X.suite a pn) e cs
  | _, _, .one h => .one h
  | _, _, .tup h k => .tup (names_in (X := X) (Y := X.suite a pn) rfl (fun _ h => h) h) k
section
variable {X : Cx} {Wout : WX} {D : Ends} {pins : List (Addr × Obj)} {σ : L2.St} {H : Hp} {sI : Shared} {B : Heap} {a : Addr} {cls : Value} {d : Option Addr}
theorem no_clause (hs : X.stack = X.env :: X.outer) (hf : X.env.frame = some X.env.locals) (tk : Takes X Wout) (J : L2.Inv X pins σ H sI) (nb : ∀ (b : Addr) (o : Obj), sI.heap.get? b = some o → ¬b ∈ frs X.stack → B.get? b = some o) (na : H a = none)
    {s' : Shared} (up : sI.heap.UpToSlots s'.heap) (fl : HandSPX.FlyingZ B (X.env :: X.outer) a (Zc cls d) s'.heap) (os : s'.os = sI.os) (ag : AllBare s'.gens) (h : Wout cls d σ H) :
    wpAny (model X.prog X.w) X.A (handleBy (.ref a) X.env []) (SP X pins D) X.xe s' := by
  refine wpAny_handleBy_nil ?_
  have fl0 := fl
  obtain ⟨k1, k2, k3, oe, vs, T, oT, ts', he, hz, hd, h1, hr⟩ := fl0
  unfold PySem.passOn
  refine wpAny_bind (wpAny_field he hd h1 ?_)
  rw [if_neg (by simp)]
  have fin : wpAny (model X.prog X.w) X.A (setFlight (.ref a) X.env.frame) (fun x s4 => wpAny (model X.prog X.w) X.A (throw (Value.ref a)) (SP X pins D) X.xe s4) X.xe s' := by
    rw [hf]
    refine HandSPX.setFlight_upZ fl fun h4 hh4 up4 => wpAny_throw (tk _ _ ⟨a, B, sI, pins, σ, H, cls, d, rfl, J, nb, Heap.UpToSlots.trans up up4, .inr (.inr (by rw [hs]; exact hh4)), na, os, ag, h⟩)
  exact wpAny_bind fin
theorem hd_run (ok : X.Ok) (hs : X.stack = X.env :: X.outer) (hfr : X.A.frames = some (X.env :: X.outer)) (hf : X.env.frame = some X.env.locals) (hN : X.N.Nodup) (tk : Takes X Wout) (J0 : L2.Inv X pins σ H sI)
    (nb : ∀ (b : Addr) (o : Obj), sI.heap.get? b = some o → ¬b ∈ frs X.stack → B.get? b = some o) (na : H a = none) : ∀ {hds : List ExceptHandler} {l : List Hd}, HdT X hds l → ∀ {s' : Shared}, sI.heap.UpToSlots s'.heap → HandSPX.FlyingZ B (X.env :: X.outer) a (Zc cls d) s'.heap → s'.os = sI.os → AllBare s'.gens → wHd X.K Wout D l cls d σ H →
    wpAny (model X.prog X.w) X.A (handleBy (.ref a) X.env hds) (SP X pins D) X.xe s'
  | _, _, .nil, s', up, fl, os, ag, h => no_clause hs hf tk J0 nb na up fl os ag h
  | _, _, @HdT.cons _ e cs n i ts b₀ suite pos' hds l hc hi hln hsu hr, s', up, fl, os, ag, h => by
    obtain ⟨bs, hx, hyes, hno⟩ := h
    have J := Inv.landed J0 nb fl.1 up os ag
    obtain ⟨oe, vs, he, hz, hd⟩ := HandSPX.FlyingZ.there fl
    have nfr : ¬ a ∈ List.filterMap (fun x => x.frame) (X.env :: X.outer) := fun hm => by
      obtain ⟨_, o', e', hnf⟩ := Heap.FunFrames.mem fl.2.2.1 hm
      rw [he] at e'
      cases e'
      exact hnf vs hd
    have nL : a ≠ X.env.locals := fun z => nfr (List.mem_filterMap.mpr ⟨X.env, List.mem_cons_self, by rw [hf, z]⟩)
    have nF : ¬ a ∈ X.fs := fun hm => by
      obtain ⟨e, he', q⟩ := List.mem_filterMap.mp hm
      exact nfr (List.mem_filterMap.mpr ⟨e, List.mem_cons_of_mem _ he', q⟩)
    have nB : X.base.get? a = none := by
      cases e : X.base.get? a with
      | none => rfl
      | some o =>
        have z := nb a o (J0.bs a o e).1 (by rw [hs]; exact nfr)
        rw [fl.2.1] at z
        cases z
    have S3 := Inv.suite J he hd na nL nF
    refine wpAny_handleBy_cons (codeAny_handlers_test ?_) (by intro z; cases z)
    have LT : PySem.W.Looks (model X.prog X.w) s'.heap (typeOf (.ref a)) cls := fun A Q E s k q => wpAny_typeOf_ref (k a oe he) (by rw [hz.1]; exact q)
    refine cls_test (X := X.suite a ((a, oe) :: (X.pn ++ pins))) S3 (clsE_suite hc) hx LT fun s1 kp os1 gn1 => ?_
    have fl1 := fly_keep fl kp
    have up1 : sI.heap.UpToSlots s1.heap := Heap.UpToSlots.trans up (Heap.UpToSlots.of_keeps kp)
    have os1' : s1.os = sI.os := os1.trans os
    have ag1 : AllBare s1.gens := by rw [gn1]; exact ag
    cases hb : bs.any id with
    | false => exact hd_run ok hs hfr hf hN tk J0 nb na hr up1 fl1 os1' ag1 (hno hb)
    | true =>
      refine codeAny_handlers_suite_as (HandSPX.lands_againZ fl1 fun h4 fl4 up4 => ?_)
      have J4 : L2.Inv X pins σ H { heap := h4, gens := s1.gens, drawn := s1.drawn, toks := s1.toks, os := s1.os } := Inv.landed J0 nb fl4.1 (Heap.UpToSlots.trans up1 up4) os1' ag1
      obtain ⟨oe4, vs4, he4, hz4, hd4⟩ := HandSPX.FlyingZ.there fl4
      have S4 := Inv.suite J4 he4 hd4 na nL nF
      refine store_ok (X := X.suite a ((a, oe4) :: (X.pn ++ pins))) (i := i) (v := V.ref a) S4 hN hi (.inl hln) rfl (fun s5 S5 => ?_) (.inr hln)
      refine wpAny_mono ((hsu a oe4 cls d (X.pn ++ pins) hz4 ⟨vs4, hd4⟩ nB).run [] s5 _ H _ S5 (hyes hb a na)) (fun f s6 hsp => ?_) (fun _ _ z => z.elim)
      have end_ : ∀ {σ6 : L2.St} {H6 : Hp} {Q : Unit → Shared → Prop}, L2.Inv (X.suite a ((a, oe4) :: (X.pn ++ pins))) [] σ6 H6 s6 → (∀ s7, L2.Inv X pins (List.set σ6 i none) H6 s7 → Q () s7) →
          wpAny (model X.prog X.w) X.A (do bindName X.env n Value.none; unbindBehindTheSuite X.env n pos') Q X.xe s6 := fun S6 hq => gone_ok (Inv.unsuite S6 ok) hN hi hln hq
      cases f with
      | next => 
        obtain ⟨σ6, H6, S6, q⟩ := hsp
        exact end_ S6 fun s7 S7 => ⟨_, _, S7, q⟩
      | brk =>
        obtain ⟨σ6, H6, S6, q⟩ := hsp
        exact end_ S6 fun s7 S7 => ⟨_, _, S7, q⟩
      | cont =>
        obtain ⟨σ6, H6, S6, q⟩ := hsp
        exact end_ S6 fun s7 S7 => ⟨_, _, S7, q⟩
      | ret u =>
        obtain ⟨v, σ6, H6, S6, r, q⟩ := hsp
        exact end_ S6 fun s7 S7 => ⟨v, _, _, S7, r, q⟩
end
/-- try: .. except (A, B) as e: .. except C as e: .. -/
theorem ps_try_T {X : Cx} {body : List Stmt} {h₀ : ExceptHandler} {hds : List ExceptHandler} {l : List Hd} {pos : Pos} {tb : WX → TS} {Wout : WX}
    (hs : X.stack = X.env :: X.outer) (hf : X.env.frame = some X.env.locals) (hN : X.N.Nodup) (tk : Takes X Wout)
    (hb : ∀ (W : WX) (pn : List (Addr × Obj)) (xe : Value → Shared → Prop), Takes (X.tr pn xe) W → PassesOwn (model X.prog X.w) X.A X.env xe → PSs (X.tr pn xe) body (tb W))
    (hh : HdT X (h₀ :: hds) l) : PS X (Stmt.Try body (h₀ :: hds) [] [] pos) fun D σ H => tb (wHd X.K Wout D l) D σ H := by
  refine ⟨fun pins s σ H D I h => ?_⟩
  have ok := I.ok
  have hfr : X.A.frames = some (X.env :: X.outer) := by rw [ok.frames, hs]
  refine wpAny_Try_except (wpAny_mono ((hb (wHd X.K Wout D l) (X.pn ++ pins) _ (fun u s' xx => ?_) PassesOwn.looking).run [] s σ H D (Inv.toTry I _) h) (fun f s1 hsp => ?_) (fun _ _ z => z))
  · obtain ⟨a, B, sI, pins', σ', H', cls, d, rfl, J', nb, up, sky, na, os, ag, hW⟩ := xx
    have J := Inv.ofTry J' ok
    have sky' : Sky B (X.env :: X.outer) a (Zc cls d) X.env.locals s'.heap := by rw [← hs]; exact sky
    exact Sky.land Zc.steady hfr hf sky' fun h3 fl3 up3 => hd_run ok hs hfr hf hN tk J nb na hh (Heap.UpToSlots.trans up up3) fl3 os ag hW
  · cases f with
    | next =>
      obtain ⟨σ', H', J', q⟩ := hsp
      exact wpAny_execs_nil ⟨σ', H', Inv.ofTry J' ok, q⟩
    | brk =>
      obtain ⟨σ', H', J', q⟩ := hsp
      exact ⟨σ', H', Inv.ofTry J' ok, q⟩
    | cont =>
      obtain ⟨σ', H', J', q⟩ := hsp
      exact ⟨σ', H', Inv.ofTry J' ok, q⟩
    | ret u =>
      obtain ⟨v, σ', H', J', r, q⟩ := hsp
      exact ⟨v, σ', H', Inv.ofTry J' ok, r, q⟩
end TX

set_option linter.all false
set_option maxRecDepth 100000
set_option maxHeartbeats 4000000
namespace TX
open PySem PySem.Spec PyProof.Rows L2
section
variable {X : Cx}
/-- isinstance of a caught error that has a dict of its own -/
theorem call_isEd {a D dd : Addr} {oe : Obj} {pn : List (Addr × Obj)} (C : ExcC X.K D) (ci : (PySem.W.clsIn X.K D).isSome = true) (hz : Zc (.ref D) (some dd) oe) (hf : ∃ vs, oe.data = Data.fields vs) :
    CallR (X.suite a ((a, oe) :: pn)) (.builtin "isinstance") (fun xs H Q => ∃ (c : V) (cv : Value) (b : Bool) (fs : List (Str × V)), xs = [.ref a, c] ∧ (∀ u, L2.RelV c u → u = cv) ∧ PySem.W.kitOne X.K (.ref D) cv = some b ∧ H dd = some (.xd fs) ∧ Q (.bl b) H) := by
  rintro pins s σ H xs us Q I r ⟨c, cv, b, fs, rfl, hcv, e, hd, q⟩
  cases r with
  | cons rx rr =>
    cases rr with
    | cons rt rn =>
      cases rn
      cases rx
      have := hcv _ rt
      subst this
      obtain ⟨hget, _⟩ := I.pin (a, oe) (List.mem_append_left _ List.mem_cons_self)
      obtain ⟨vs, hv⟩ := hf
      have ho := I.hok dd _ hd
      obtain ⟨od, hod⟩ : ∃ od, s.heap.get? dd = some od := by
        unfold ObjOk at ho
        obtain ⟨mA, hns, _⟩ := ho
        obtain ⟨o, es, ep, e, _⟩ := hns
        exact ⟨o, e⟩
      have J : PySem.W.InstAt s.heap a oe D (some od) := by
        obtain ⟨h1, h2⟩ := hz
        refine ⟨hget, h1, ?_, ?_⟩
        · unfold PySem.W.notCls
          rw [hv]
        · rw [h2]; exact hod
      refine PySem.W.kia_one (PySem.W.kitx_exc (od := some od) ci C.hg C.hk C.hs C.ha C.hn C.ht C.hm) I.kIn J e (fun z => nomatch z) fun tk => ⟨.bl b, H, Inv.kept I fun x x_1 z => z, rfl, q⟩
end
end TX

set_option linter.all false
set_option maxRecDepth 100000
set_option maxHeartbeats 4000000
/-! exceptions of one's own over ValueError, LookupError or ArithmeticError, made with an __init__ that stores -/
namespace TX
open PySem PySem.Spec PyProof.Rows L2
/-- over which built-in class an exception stands -/
inductive TlE : String → String → String → List Value → Prop
  | ve : TlE "ValueError" "ValueError.__new__" "ValueError.__init__" [.type "ValueError", .type "Exception", .type "BaseException", .type "object"]
  | le : TlE "LookupError" "LookupError.__new__" "LookupError.__init__" [.type "LookupError", .type "Exception", .type "BaseException", .type "object"]
  | ae : TlE "ArithmeticError" "ArithmeticError.__new__" "ArithmeticError.__init__" [.type "ArithmeticError", .type "Exception", .type "BaseException", .type "object"]
section
variable {B n i : String} {tl : List Value}
theorem TlE.base (h : TlE B n i tl) : ExcBaseFacts B n i tl := match h with
  | .ve => F.excBase_ValueError
  | .le => F.excBase_LookupError
  | .ae => F.excBase_ArithmeticError
theorem TlE.store (h : TlE B n i tl) : StoreFacts B tl "object.__setattr__" "object" := match h with
  | .ve => F.store_ValueError
  | .le => F.store_LookupError
  | .ae => F.store_ArithmeticError
end
structure OexT (K : PySem.W.Frag) (C : Addr) : Prop where
  t : ∃ B n i tl, TlE B n i tl ∧ PySem.W.excInitIn K C tl n = true ∧ PySem.W.excOver K C tl = true
  dct : PySem.W.hasDictIn K C = true
  set : PySem.W.findIn K (.ref C) "__setattr__" = some (some (.builtin "object.__setattr__"))
  sub : PySem.W.subIn K (.ref C) (.type "BaseException") = some true
  typ : PySem.W.typeIn K (.ref C) = some (.type "type")
  kept : PySem.W.keepIn K (.ref C) = true
section
variable {X : Cx} {pins : List (Addr × Obj)} {σ : L2.St} {H : Hp} {s : Shared} {a C : Addr} {f : Str} {y : V} {u : Value} {Q : Unit → Shared → Prop} {E : Value → Shared → Prop} {A : Around}
/-- the abstract heap behind the first store into the exception at a -/
def xo1 (H : Hp) (a C dx : Addr) (f : Str) (y : V) : Hp := upd (upd H dx (exd dx [(f, y)])) a (exo a C (some dx))
theorem xo1_inv {hp h2 : Heap} {g : Array GenState} {dr : Drawn} {tk tk2 : Nat} {os : OsState} {dx t1 : Addr} (I : Inv X pins σ H ⟨hp, g, dr, tk, os⟩) (e : H a = some (exo a C none)) (ry : RelV y u)
    (far : hp.objs.size ≤ dx) (keep : ∀ b o, b ≠ a → hp.get? b = some o → h2.get? b = some o) (at_a : h2.get? a = some { cls := .ref C, dict := some dx, data := .fields #[.ref t1, .none, .none, .none, .bool false, .none] })
    (dic : h2.Ns1 dx fun z => if z = f then some u else none) : Inv X pins σ (xo1 H a C dx f y) ⟨h2, g, dr, tk2, os⟩ := by
  have free : H dx = none := I.hok.fresh far
  have low : ∀ {b : Addr} {o : Obj}, hp.get? b = some o → b ≠ dx := fun q z => absurd (Heap.lt_size q) (by rw [z]; exact Nat.not_lt.mpr far)
  have off : ∀ {b : Addr}, H b = none → b ≠ a := fun q z => by rw [z, e] at q; cases q
  have same : ∀ {b : Addr} {o : HO}, H b = some o → exo a C none ≠ o → xo1 H a C dx f y b = some o := fun {b o} q d => by
    unfold xo1
    rw [upd_ne (at_ne e q d), upd_ne (ne_of_none q free), q]
  have hu : Un X.fs [] H (xo1 H a C dx f y) hp h2 := by
    constructor
    · exact fun b o q z _ _ => keep b o (off z) q
    · exact fun b o q z _ _ => ⟨_, keep b o (off z) q⟩
    · intro b o q z _
      unfold xo1
      rw [upd_ne (off z), upd_ne (low q), z]
    · intro b o q _
      by_cases hb : b = a
      · subst hb; exact ⟨_, at_a⟩
      · exact ⟨o, keep b o hb q⟩
    · exact fun b xs q => same q exo_tup
    · exact fun b o v q => same q exo_frz
    · exact fun b ps q => ⟨#[], by rw [Array.append_empty]; exact same q exo_tbl⟩
  refine I.un (t' := tk2) hu fun b o q => ?_
  unfold xo1 at q
  by_cases hb : b = a
  · subst hb; rw [upd_same] at q; cases q; exact exo_ok at_a
  rw [upd_ne hb] at q
  by_cases hd : b = dx
  · subst hd; rw [upd_same] at q; cases q; exact exd_ok dic (relO_put (fs := []) ry fun _ => True.intro)
  rw [upd_ne hd] at q
  have stays := I.hok b o q
  refine stays.stay (fun c v hc => keep c v ?_) (fun c hc => same hc exo_own) fun c xs hc => same hc exo_tup
  exact hc.elim (fun z => z ▸ hb) fun z => at_ne e z exo_own
/-- self.f = y, the first store -/
theorem ost_newT (T : OexT X.K C) (I : Inv X pins σ H s) (e : H a = some (exo a C none)) (free : PySem.W.takerIn X.K C f = some none) (ry : RelV y u)
    (h : ∀ dx s', H dx = none → dx ≠ a → Inv X pins σ (xo1 H a C dx f y) s' → Q () s') : wpAny (model X.prog X.w) A (setAttr (.ref a) f u) Q E s := by
  obtain ⟨B, n, i, tl, TT, _, over⟩ := T.t
  obtain ⟨t1, at_a⟩ := exo_at I.hok e
  obtain ⟨cd, ecd, hasD⟩ := PySem.W.any_some T.dct
  obtain ⟨hp, gs, dr, tk, os⟩ := s
  have ne : a ≠ hp.objs.size := Nat.ne_of_lt (Heap.lt_size at_a)
  refine PySem.W.set_plain (od := none) I.kIn ⟨at_a, rfl, rfl, trivial⟩ T.set (PySem.W.osa_openX (od := none) TT.store I.kIn ⟨at_a, rfl, rfl, trivial⟩ over free fun b => ?_)
  refine wpAny_bind (wpAny_pure (wpAny_bind (PySem.W.instanceDict_exc at_a (PySem.W.looks_clsIn I.kIn ecd) hasD ?_)))
  refine HandSPX.store_in_new ⟨_, #[], _, (Heap.get?_update_ne _ _ _ _ ne.symm).trans (Heap.get?_push_at rfl rfl), rfl, fun _ z => absurd z (by simp), fun _ => rfl⟩ fun h2 tk2 dic but => ?_
  have made := Heap.get?_push_of_some { cls := .type "dict", data := .dict #[] } at_a
  refine h _ _ (I.hok.fresh (Nat.le_refl _)) ne.symm (xo1_inv (t1 := t1) (tk2 := tk2) I e ry (Nat.le_refl _) (fun b o hb q => ?_) ?_ dic)
  · have := Heap.get?_push_of_some { cls := .type "dict", data := .dict #[] } q
    exact (but.2 b (Nat.ne_of_lt (Heap.lt_size q))).trans ((Heap.get?_update_ne _ _ _ _ hb).trans this)
  · exact (but.2 a ne).trans (Heap.get?_update_self _ made rfl)
end
/-- what an __init__ that stores its one argument under f does -/
def spIni (K : PySem.W.Frag) (f : Str) : Sp := fun vs H Q _ => ∃ a C y, vs = [.ref a, y] ∧ OexT K C ∧ PySem.W.takerIn K C f = some none ∧ H a = some (exo a C none) ∧ ∀ dx, H dx = none → dx ≠ a → Q .non (xo1 H a C dx f y)
/-- .. and the statement in it -/
def tOstT (K : PySem.W.Frag) (f : Str) (to te : TE) : TS := fun D σ H => te σ H fun y H1 => to σ H1 fun x H2 => ∃ a C : Addr, x = .ref a ∧ OexT K C ∧ PySem.W.takerIn K C f = some none ∧
  H2 a = some (exo a C none) ∧ ∀ dx, H2 dx = none → dx ≠ a → D.nx σ (xo1 H2 a C dx f y)
section
variable {X : Cx} {o e : Expr} {to te : TE} {f : Str} {p' pos : Pos}
theorem len_ini {K : PySem.W.Frag} {vs : List V} {H : Hp} {Q : VK} {E : XK} (h : spIni K f vs H Q E) : vs.length = 2 := by
  obtain ⟨a, C, y, rfl, _⟩ := h
  rfl
theorem body_ini {K : PySem.W.Frag} {N : List Str} {vs : List V} {H : Hp} {Q : VK} {E : XK} (h : spIni K f vs H Q E) : tOstT K f (tVar 0) (tVar 1) { nx := fun _ H' => Q .non H', rt := Q } (start N vs) H := by
  obtain ⟨a, C, y, rfl, T, free, at_a, want⟩ := h
  exact ⟨y, rfl, .ref a, rfl, a, C, rfl, T, free, at_a, want⟩
theorem ps_ostT (ho : PE X o to) (he : PE X e te) (hs : swapsWith e (some (.Attribute o f p')) pos.line X.env = pure false := by rfl) : PS X (.Assign [.Attribute o f p'] e pos) (tOstT X.K f to te) := by
  constructor
  intro pins s σ H D I want
  refine plainObj_wpAny_Assign_Attribute (thn (he.run pins s σ H _ I want) ?_) hs
  rintro v s1 ⟨y, H1, I1, ry, want⟩
  refine thn (ho.run pins s1 σ H1 _ I1 want) ?_
  rintro w s2 ⟨x, H2, I2, rx, a, C, rfl, T, free, at_a, want⟩
  cases (show w = Value.ref a from rx)
  exact ost_newT T I2 at_a free ry fun dx s' z n J => ⟨σ, _, J, want dx z n⟩
end
/-- C(e), and what the exception then is -/
def tMkT (C : Addr) (f : Str) (te : TE) : L2.St → Hp → XK → Prop := fun σ H Q => te σ H fun y H1 => ∀ dx, H1 dx = none → Q (.ref C) (some dx) (upd H1 dx (.xd [(f, y)]))
section
variable {X : Cx} {x : Str} {C fI : Addr} {k : Nat} {fd : FuncData} {ps : List Str} {f : Str} {p pos : Pos} {e : Expr} {te : TE}
theorem xo1_xd {H : Hp} {a C dx : Addr} {y : V} (ha : H a = none) (hd : dx ≠ a) : upd (del (xo1 (upd H a (exo a C none)) a C dx f y) a) dx (.xd [(f, y)]) = upd H dx (.xd [(f, y)]) := by
  funext b
  by_cases h1 : b = dx
  · rw [h1, upd_same, upd_same]
  · rw [upd_ne h1, upd_ne h1]
    by_cases h2 : b = a
    · rw [h2, del_same, ha]
    · rw [del_ne h2]; unfold xo1; rw [upd_ne h2, upd_ne h1, upd_ne h2]
theorem pmk_T (T : OexT X.K C) (free : PySem.W.takerIn X.K C f = some none) (iC : PySem.W.findIn X.K (.ref C) "__init__" = some (some (.ref fI))) (tI : PySem.W.typeIn X.K (.ref fI) = some (.type "function"))
    (ini : FnOk X.prog X.w X.K X.mg X.base CX0 k fI fd ps (spIni X.K f)) (room : Room (k + 1) X.A) (bi : L2.Binds X.K fd ps []) (g : Gl X x) (m : X.mg x = some (.ref C)) (ha : PA X [e] (tCons te tNil))
    (db : (x == ("__debug__" : Str)) = false := by decide) (st : starEach [e] X.env = (false, eval e X.env) :: starEach [] X.env := by rfl) (pl : (backTo pos (starEach [] X.env)).any (·.1) = false := by rfl) :
    PMk X (.Call (.Name x p) [e] [] pos) (tMkT C f te) := by
  intro pins s σ H Q I want
  obtain ⟨B, n, i, tl, TT, made, _⟩ := T.t
  have want : tCons te tNil σ H fun vs H1 => match vs with
      | [y] => ∀ dx, H1 dx = none → Q (.ref C) (some dx) (upd H1 dx (.xd [(f, y)]))
      | _ => False := want
  refine wpAny_Call_Name_kw (ld_glob I g m (PySem.W.callWith_K (h₀ := X.base) I.ok.mod.kin T.kept (thn (ha.run pos pins s σ H _ I want) ?_) st pl) db)
  rintro us s1 ⟨vs, H1, I1, rv, want⟩
  obtain ⟨y, rfl⟩ : ∃ y, vs = [y] := by
    match vs, want with
    | [y], _ => exact ⟨y, rfl⟩
  refine ⟨I1.kIn, ?_⟩
  obtain ⟨nm, ns, qn, bs, bm, hdct, sn, sb, ab, col, dd, k0, k1, k2, k3, k5, at_C, conts⟩ := PySem.W.excInit_of I1.kIn made
  obtain ⟨hp, gs, dr, tk, os⟩ := s1
  have line : us.length ≤ sizeLine := by rw [← rv.length]; rw [sizeLine_eq]; exact Nat.le_of_ble_eq_true rfl
  -- the object lies at a, its args before it
  let a : Addr := hp.objs.size + 1
  have far : hp.objs.size ≤ a := Nat.le_succ _
  have ha0 : H1 a = none := I1.hok.fresh far
  let h2 := (hp.push (PySem.W.kdv_tup us)).push (HandSPX.excO C hp.objs.size)
  have grows : ∀ b o, hp.get? b = some o → h2.get? b = some o := fun b o q => Heap.get?_push_of_some _ (Heap.get?_push_of_some _ q)
  have at_a : h2.get? a = some (HandSPX.excO C hp.objs.size) := by show Heap.get? ((hp.push _).push _) (hp.objs.size + 1) = _; heap_get
  have I2 : Inv X pins σ (upd H1 a (exo a C none)) ⟨h2, gs, dr, tk, os⟩ := I1.laid (t' := tk) grows far (exo_ok at_a)
  have r2 : Vals [V.ref a, y] (Value.ref a :: us) := .cons rfl rv
  have asks : spIni X.K f [V.ref a, y] (upd H1 a (exo a C none)) (fun v H2 => v = .non ∧ ∃ dx, H2 = xo1 (upd H1 a (exo a C none)) a C dx f y ∧ H1 dx = none ∧ dx ≠ a) (fun _ _ _ => False) :=
    ⟨a, C, y, rfl, T, free, upd_same, fun dx z n => ⟨rfl, dx, rfl, by rwa [upd_ne n] at z, n⟩⟩
  have len : (Value.ref a :: us ++ []).length = ps.length := by rw [List.append_nil, ← r2.length]; exact ini.len _ _ _ _ asks
  have bind := bi ⟨h2, gs, dr, tk, os⟩ (Value.ref a :: us) I2.kIn len
  rw [List.append_nil] at bind
  refine wpAny_call (HandSPX.call_own TT.base conts at_C (PySem.W.looks_findIn I1.kIn iC) (fun self => PySem.W.bind_fn I1.kIn self tI) line (codeAny_mono (ini.run _ X.stack _ _ _ _ _ _ _ (room.make C us []) (I2.env0.make C us []) bind r2 asks) ?_))
  rintro (er | fl) s' z
  · exact False.elim z
  cases fl with
  | ret v =>
    obtain ⟨v', H2, o2, bare, un, hok, rv2, rfl, dx, rfl, new, ne⟩ := z
    obtain ⟨h3, g3, d3, t3, o3⟩ := s'
    refine ⟨rv2, mk_end (raises_own T.sub T.typ) I1 far grows un hok o2 bare (d := dx) (fs := [(f, y)]) upd_same ?_ new ?_⟩
    · unfold xo1; rw [upd_ne ne, upd_same]
    · rw [xo1_xd ha0 ne]; exact want dx new
  | next => cases z
  | brk => cases z
  | cont => cases z
end
end TX

set_option linter.all false
set_option maxRecDepth 100000
set_option maxHeartbeats 4000000
/-! f(lambda: e), f a def of one parameter: what stays of the heap is told, tables too -/
namespace TX
open PySem PySem.Spec PyProof.Rows L2 LamX
/-- all stays; tables stay tables -/
def ExtY (H H1 : Hp) : Prop := ∀ b o, H b = some o → H1 b = some o ∨ ∃ ps more, o = .tbl ps ∧ H1 b = some (.tbl more)
abbrev lamQ (X : Cx) : Str := X.env.qual ++ "<lambda>"
abbrev lamO (X : Cx) (params : Arguments) (body : Expr) (scope : Scope) (pm : Value) (c' : Addr) (ctv : Value) : Obj := PySem.W.kla_obj "<lambda>" (lamQ X) params body scope (cloFrom X.env.cells scope.names []) pm c' ctv
section
variable {X : Cx} {pins : List (Addr × Obj)} {σ : L2.St} {H : Hp} {s : Shared} {T : List (Addr × Str)} {c P : Addr} {params : Arguments} {body : Expr} {scope : Scope} {pos : Pos} {E Q : Value → Shared → Prop}
theorem far_frs (I : Inv X pins σ H s) {f : Addr} (far : s.heap.objs.size ≤ f) : f ∉ frs X.stack := fun z =>
  (List.mem_cons.mp (I.stkSub _ z)).elim (fun e => absurd (Nat.lt_of_lt_of_le I.lt far) (by rw [e]; exact Nat.lt_irrefl _)) fun e => I.nofs far e
theorem lam_makeY (I : Inv X pins σ H s) (TB : TabB X.base X.mg c P) (code : X.env.code = .ref c) (mem : (P, lamQ X) ∈ T) (one : ∀ p ∈ T, p.1 = P → p.2 = lamQ X) (tabs : Tabs T H)
    (nodef : defaultsOf params X.env = ([], [])) (caught : ∀ y ∈ scope.names, y.2 = .free → ∃ c, X.env.cells.lookup y.1 = some c)
    (h : ∀ (f c' : Addr) (pm ctv : Value) (H1 : Hp) (s1 : Shared), Inv X pins σ H1 s1 → ExtY H H1 → Tabs T H1 → s1.heap.get? f = some (lamO X params body scope pm c' ctv) → H1 f = none → f ∉ frs X.stack → H1 c' = some (CodeO c' (lamQ X)) → Q (.ref f) s1) :
    wpAny (model X.prog X.w) X.A (eval (.Lambda params body scope pos) X.env) Q E s := by
  obtain ⟨ps, at_P, triples, known⟩ := tabs _ mem
  have real : s.heap.get? P = some (PySem.W.tabObj ps) := I.hok P _ at_P
  have blt : s.heap.BuiltinsAt X.mg P := TB.bm.keeps I.bk
  have glb : s.heap.Ns mainGlobals X.mg := I.mod.glob.keeps I.bk
  have hd := TB.code.keeps I.bk
  refine PySem.W.kla_eval nodef ?_
  match hit : codeAmong pos ps.toList with
  | some cv =>
    obtain ⟨c', rfl, at_c⟩ := known pos cv hit
    refine PySem.W.kla_makeFunctionHit (mg := X.mg) (closure_ok caught) I.ok.glob glb code hd real triples hit blt ?_
    intro ctv h1 tk grows size
    have J : Inv X pins σ H { s with heap := h1.push (lamO X params body scope ((X.mg "__name__").getD .none) c' ctv), toks := tk } := I.kept fun b o e => Heap.get?_push_of_some _ (grows b o e)
    exact h _ c' _ ctv H _ J (fun b o e => .inl e) tabs (Heap.get?_push_size _ rfl) (I.hok.fresh size) (far_frs I size) at_c
  | none =>
    refine PySem.W.kla_makeFunction (mg := X.mg) (closure_ok caught) I.ok.glob glb code hd real triples hit TB.gP blt ?_
    rintro c' ctv h1 tk but low high ⟨_, oc, vs, t, ⟨⟩, got, dat, nam⟩ new
    have size : s.heap.objs.size ≤ h1.objs.size := Nat.le_trans low (Nat.le_of_lt high)
    have no_c : H c' = none := I.hok.fresh low
    let more : Array Value := #[rawInt pos.line, rawInt pos.col, .ref c']
    let H1 := upd (upd H P (.tbl (ps ++ more))) c' (CodeO c' (lamQ X))
    have at_P1 : H1 P = some (.tbl (ps ++ more)) := by show upd _ _ _ _ = _; rw [upd_ne (ne_of_none at_P no_c), upd_same]
    have off : ∀ {b : Addr} {o : HO}, H b = some o → b ≠ P → H1 b = some o := fun {b o} e n => by show upd _ _ _ _ = _; rw [upd_ne (ne_of_none e no_c), upd_ne n]; exact e
    have step := inv_table (q := lamQ X) (t' := tk) (more := more) (h' := h1.push (lamO X params body scope ((X.mg "__name__").getD .none) c' ctv)) I at_P (fun b o n e => Heap.get?_push_of_some _ (but b o n e)) (Heap.get?_push_of_some _ new) low ⟨oc, vs, t, Heap.get?_push_of_some _ got, dat, nam⟩
    have codes : ∀ {b : Addr} {q : Str}, H b = some (CodeO b q) → H1 b = some (CodeO b q) := fun {b q} e => off e fun z => by
      rw [z, at_P] at e
      exact codeO_ne ps (Option.some.inj e).symm
    have no_f : H1 h1.objs.size = none := by
      show upd _ _ _ _ = _
      rw [upd_ne (Nat.ne_of_gt high), upd_ne (Nat.ne_of_gt (Nat.lt_of_lt_of_le (Heap.lt_size real) size))]
      exact I.hok.fresh size
    refine h _ c' _ ctv H1 _ step (fun b o e => ?_) (fun p hp => ?_) (Heap.get?_push_size _ rfl) no_f (far_frs I size) upd_same
    · by_cases hb : b = P
      · subst hb; rw [at_P] at e; exact .inr ⟨ps, _, (Option.some.inj e).symm, at_P1⟩
      · exact .inl (off e hb)
    · by_cases hb : p.1 = P
      · rw [one p hp hb, hb]
        refine ⟨_, at_P1, by rw [Array.toList_append]; exact PySem.TriplesOk_snoc _ _ _ _ triples, fun p' cv e => ?_⟩
        rw [Array.toList_append] at e
        rcases among_app _ triples e with z | z
        · obtain ⟨c0, e1, e2⟩ := known p' cv z
          exact ⟨c0, e1, codes e2⟩
        · exact ⟨c', z, upd_same⟩
      · obtain ⟨ps', q1, q2, q3⟩ := tabs p hp
        refine ⟨ps', off q1 hb, q2, fun p' cv e => ?_⟩
        obtain ⟨c0, e1, e2⟩ := q3 p' cv e
        exact ⟨c0, e1, codes e2⟩
end
/-- a def that is called with a lambda: its body, as a term of rules over what act() does, and its function -/
structure LamD (P : Program) (w : World) (K : PySem.W.Frag) (mg : Str → Option Value) (base : Heap) (gd : Bool) (k : Nat) (x : Str) (sg : Scope) (g : Addr) (cdg : Value) (Ng : List Str) (bg : List Stmt) (a : Str) (B : DF.FE → DF.FS) : Prop where
  run : ∀ (A : Around) (out : List Env) (s : Shared) (H : Hp) (actT : WX → TE), Room k (A.deeper (envOfC x sg s.heap.objs.size g cdg)) → (gd = true → A.guards = some []) →
    (∀ (W : WX) (pn : List (Addr × Obj)) (xe : Value → Shared → Prop) (p1 p2 : Pos), Takes ((cxOf C8.CX0 P w K mg base Ng x sg g cdg A out s H C8.E0).nox.tr pn xe) W → PE ((cxOf C8.CX0 P w K mg base Ng x sg g cdg A out s H C8.E0).nox.tr pn xe) (.Call (.Name a p1) [] [] p2) (actT W)) →
    ∃ t : TS, PSs (cxOf C8.CX0 P w K mg base Ng x sg g cdg A out s H C8.E0).nox bg t ∧ ∀ (t1 : DF.TbC) (act : DF.FE), (∀ W, @DF.SimE t1 K W (actT W) act) → @DF.SimS t1 K DF.W0 t (B act)
/-- what is wanted of an error, at slots of whatever content -/
def EL (n : Nat) (W : WX) : XK := fun cls d H => ∀ σ : L2.St, σ.length = n → W cls d σ H
def actT (Ng : List Str) (q : Str) (f c' : Addr) (tl : XK → Hp → VK → Prop) : WX → TE := fun W σ H Q => σ[0]? = some (some (.ref f)) ∧ H c' = some (CodeO c' q) ∧ tl (EL Ng.length W) H Q
def tLamY (K : PySem.W.Frag) (T : List (Addr × Str)) (B : DF.FE → DF.FS) (Ng : List Str) (q : Str) (t : XK → TE) : TE := fun σ H Q => Tabs T H ∧ ∀ H1 f c', ExtY H H1 → Tabs T H1 → H1 f = none → H1 c' = some (CodeO c' q) →
  ∀ tS : TS, (∀ (t1 : DF.TbC) (act : DF.FE), (∀ W, @DF.SimE t1 K W (actT Ng q f c' (fun E H' Q' => t E σ H' Q') W) act) → @DF.SimS t1 K DF.W0 tS (B act)) → tS { nx := fun _ H' => Q .non H', rt := Q } (L2.start Ng [.ref f]) H1
theorem takes_len {X : Cx} {W : WX} (tk : Takes X W) : Takes X (fun cls d σ H => σ.length = X.N.length → W cls d σ H) := by
  rintro u s' ⟨a, B, sI, pins, σ, H, cls, d, e, I, nb, up, sky, na, os, ag, want⟩
  exact tk u s' ⟨a, B, sI, pins, σ, H, cls, d, e, I, nb, up, sky, na, os, ag, want I.len⟩
section
variable {X : Cx}
/-- x(lambda: body) -/
theorem pe_lamY {T : List (Addr × Str)} {B : DF.FE → DF.FS} {gd : Bool} {x a : Str} {g c P : Addr} {k : Nat} {pg : Arguments} {bg : List Stmt} {sg : Scope} {kV doc pm cdv ct oc : Value} {an od : Option Addr} {osl : Array (Option Value)} {Ng : List Str}
    {params : Arguments} {body : Expr} {scope : Scope} {t : XK → TE} {p lpos pos : Pos} (D : LamD X.prog X.w X.K X.mg X.base gd (k + 1) x sg g cdv Ng bg a B) (calm : gd = true → X.A.guards = some [])
    (gl : Gl X x) (mgx : X.mg x = some (.ref g)) (keep : PySem.W.keepIn X.K (.ref g) = true) (at_g : X.K.lookup g = some ⟨oc, od, .func (PySem.W.fnOf x x pg bg sg .none kV doc pm an cdv ct), osl⟩) (code_g : PySem.W.codeIn X.K cdv x = true)
    (bi : L2.Binds X.K (PySem.W.fnOf x x pg bg sg .none kV doc pm an cdv ct) [a] []) (Sg : FnScope Ng [a] sg) (first : Ng[0]? = some a) (seen : Vis sg a)
    (TB : TabB X.base X.mg c P) (code : X.env.code = .ref c) (mem : (P, lamQ X) ∈ T) (one : ∀ p ∈ T, p.1 = P → p.2 = lamQ X) (room : Room (k + 2) X.A) (L : LamS X.env.scope scope) (nodef : defaultsOf params X.env = ([], []))
    (binds : ∀ (q : Str) (cl : List (Str × Addr)) (pm cv ctv : Value), bindArgs (PySem.W.kla_fn "<lambda>" q params body scope cl pm cv ctv) ⟨[], []⟩ = pure [])
    (hbody : ∀ (A : Around) (out : List Env) (s : Shared) (H : Hp) (E : XK) (f c' : Addr), Room k (A.deeper (lamEnv X scope s.heap.objs.size f c')) → PE (lamCx X A out s H E scope f c') body (t E))
    (db : (x == ("__debug__" : Str)) = false := by decide) (da : (a == ("__debug__" : Str)) = false := by decide) (dc : (a == ("__classdict__" : Str)) = false := by decide) :
    PE X (.Call (.Name x p) [.Lambda params body scope lpos] [] pos) (tLamY X.K T B Ng (lamQ X) t) := by
  constructor
  rintro pins s σ H Q I ⟨tabs, want⟩
  refine wpAny_Call_Name_kw (ld_glob I gl mgx (PySem.W.callWith_K (h₀ := X.base) I.ok.mod.kin keep ?_ (by rfl) (by rfl)) db)
  show wpAny _ _ (spliced ((false, eval (.Lambda params body scope lpos) X.env) :: backTo pos (starEach [] X.env))) _ _ s
  refine Calls.spliced_cons (lam_makeY I TB code mem one tabs nodef (L.has I.ok) fun f c' pm' ctv H1 s1 I1 ext tabs1 at_f no_f nofr at_c => Calls.spliced_nil ⟨I1.kIn, ?_⟩)
  have asks := want H1 f c' ext tabs1 no_f at_c
  have run : codeAny (model X.prog X.w) X.A (.call (.ref g) ⟨[.ref f], []⟩) (CR C8.CX0 X.stack X.prog X.w H1 s1 Q C8.E0) s1 := by
    refine run_ofS (vs := [.ref f]) at_g code_g Sg room I1.env0 (bi s1 [.ref f] I1.kIn rfl) (.cons rfl .nil) rfl fun room' => ?_
    obtain ⟨tS, rules, sims⟩ := D.run X.A X.stack s1 H1 (actT Ng (lamQ X) f c' fun E H' Q' => t E σ H' Q') room' calm fun W pn xe p1 p2 tk => by
      have tk' : Takes ((cxOf C8.CX0 X.prog X.w X.K X.mg X.base Ng x sg g cdv X.A X.stack s1 H1 C8.E0).tr pn xe) (fun cls d σ H => σ.length = Ng.length → W cls d σ H) := takes_len (X := (cxOf C8.CX0 X.prog X.w X.K X.mg X.base Ng x sg g cdv X.A X.stack s1 H1 C8.E0).tr pn xe) tk
      exact pe_act (CXg := C8.CX0) (Eg := C8.E0) (Ng := Ng) (i := 0) I1 L at_f no_f nofr (binds _ _ _ _ _) tk' (fun cls d σ' H' z hl => z σ' hl) room' (fun A out s H room2 => hbody A out s H _ f c' room2) first seen da dc
    exact ⟨tS, rules.nox, asks tS sims⟩
  refine wpAny_call (codeAny_mono run ?_)
  rintro (e | fl) s2 z
  · exact False.elim z
  cases fl with
  | ret u => exact I1.after z
  | next => cases z
  | brk => cases z
  | cont => cases z
end
end TX

set_option linter.all false
set_option maxRecDepth 100000
set_option maxHeartbeats 4000000
/-! raise, try and f(lambda: e) as functions on data -/
namespace DF
open PySem PySem.Spec PyProof.Rows L2 TX
section
variable [TbC]
variable {K : PySem.W.Frag} {G G' H H' H0 H1 G1 : Hp} {P : List Addr} {σ σ' : L2.St} {Γ Γ' Γ1 : EnvF} {L L' L1 : List (Addr × OD)} {c c' c1 : Ow} {W : WX} {te : TE} {fa : FE}
/-! raise C(e) -/
def fRaise (cn f : Str) (a : FE) : FS := FM.bind (fV a) fun d Γ => some (.ex cn f d Γ)
theorem sim_raise {cn f : Str} {C : Addr} (ct : CT K cn C) (h : SimE K W te fa) : SimS K W (fun _ σ H => tMkT C f te σ H fun cls d H' => W cls d σ H') (fRaise cn f fa) := fun P σ c G H Γ L s r e Dn post => by
  rcases FM.bind_some e with ⟨d, Γ1, e1, e2⟩ | ⟨cn', fl, d, Γ1, e1, er⟩
  · refine sim_val h P σ c G H Γ L s _ e1 _ ?_
    intro u c1 G1 H1 L1 g1 s1 e1' r1 dx hdx
    cases e2
    have pg := PG.hid (o := .xd [(f, u)]) s1.iv.i hdx
    exact post.ex cn f d Γ1 rfl C dx u σ c1 G1 _ L1 (g1.trans' s.iv (pg.grow (T := TL L1) s1.iv) (fun _ z => z) fun b z => .inl (by unfold TL at z ⊢; rwa [e1'] at z)) (s1.pg pg) (tl_of e1') ct upd_same r1
  · subst er
    exact sim_val h P σ c G H Γ L s _ e1 _ (post.ex cn' fl d Γ1 rfl)
end
/-! ### from one set of lasting facts to another -/
def unX : Sl → Sl
  | .exc => .no
  | x => x
section
variable {K : PySem.W.Frag} {G G' H H' H0 H1 G1 : Hp} {P : List Addr} {σ σ' : L2.St} {Γ Γ' Γ1 : EnvF} {L L' L1 : List (Addr × OD)} {c c' c1 : Ow} {W : WX} {T : Addr → Prop}
theorem Sta.putX [TbC] (s : Sta K P c G H σ Γ L) (i : Nat) : ∃ L1, Sta K P c G H (σ.set i (some (.ref TbC.xa))) (Γ.set i .exc) L1 ∧ L1.Sublist L := by
  obtain ⟨L1, r1, sub⟩ := s.r.setX i
  exact ⟨L1, ⟨r1, s.nd.sublist (sub.map _), fun e he => s.ow e (sub.subset he), s.iv, s.pa⟩, sub⟩
theorem Sta.putNo [TbC] (s : Sta K P c G H σ Γ L) (i : Nat) (o : Option V) : ∃ L1, Sta K P c G H (σ.set i o) (Γ.set i .no) L1 ∧ L1.Sublist L := by
  obtain ⟨L1, r1, sub⟩ := s.r.setNo i o
  exact ⟨L1, ⟨r1, s.nd.sublist (sub.map _), fun e he => s.ow e (sub.subset he), s.iv, s.pa⟩, sub⟩
theorem envR_un {t t' : TbC} (h : @EnvR t K G P σ Γ L) : @EnvR t' K G P σ (Γ.map unX) L := by
  induction h with
  | nil => exact .nil
  | no l ih => exact .no ih
  | exc l ih => exact .no ih
  | val a l ih => exact .val a ih
  | own a l ih => exact .own a ih
theorem grow_to {t t' : TbC} (e : t'.T = t.T) (g : @Grow t T c G H c' G' H') : @Grow t' T c G H c' G' H' := by
  obtain ⟨g1, g2, g3, g4, g5, g6⟩ := g
  exact ⟨g1, fun b o hc ho => g2 b o hc (by rwa [e] at ho), g3, g4, g5, g6⟩
theorem iv_to {t t' : TbC} (e : t'.T = t.T) (z : t'.Z G H) (v : @Iv t K c G H) : @Iv t' K c G H := by
  obtain ⟨v1, v2, v3, v4, v5⟩ := v
  exact ⟨v1, v2, v3, by rw [e]; exact v4, z⟩
theorem sta_to {t t' : TbC} (e : t'.T = t.T) (z : t'.Z G H) (s : @Sta t K P c G H σ Γ L) : @Sta t' K P c G H σ (Γ.map unX) L := by
  obtain ⟨s1, s2, s3, s4, s5⟩ := s
  exact ⟨envR_un s1, s2, s3, iv_to e z s4, s5⟩
theorem sta_z {t : TbC} (s : @Sta t K P c G H σ Γ L) : t.Z G H := s.iv.z
/-- the facts of an error that is caught: its object at a, its dict -/
@[reducible] def TbC.ex (t : TbC) (K : PySem.W.Frag) (a dd : Addr) (f : Str) (fv : V) (d : D) : TbC := ⟨t.T, a, fun G H => t.Z G H ∧ H dd = some (.xd [(f, fv)]) ∧ At K G fv d,
  fun h e k => ⟨t.zm h.1 e k, k _ _ trivial h.2.1, h.2.2.mono e⟩⟩
end
/-! ### try -/
/-- clauses: the classes' names, the slot of the error, the suite by the error's class, field and value -/
abbrev Hf := List Str × Nat × (Str → Str → D → FS)
def isX (tb : List (Str × Str × Bool)) (c : Str) (x : Str) : Option Bool := (tb.find? fun e => e.1 == c && e.2.1 == x).map (·.2.2)
def isXs (tb : List (Str × Str × Bool)) (c : Str) : List Str → Option (List Bool)
  | [] => some []
  | x :: xs => match isX tb c x, isXs tb c xs with | some b, some bs => some (b :: bs) | _, _ => none
def handF (tb : List (Str × Str × Bool)) : List Hf → Str → Str → D → FS
  | [], c, f, d => fun Γ => some (.ex c f d Γ)
  | (cs, i, g) :: r, c, f, d => match isXs tb c cs with
    | none => fFail
    | some bs => if bs.any id = true then (fun Γ => match g c f d ((Γ.map unX).set i .exc) with
        | some (.ok (.rt v) Γ') => some (.ok (.rt v) (Γ'.map unX))
        | some (.ok fl Γ') => some (.ok fl ((Γ'.map unX).set i .no))
        | _ => none) else handF tb r c f d
def fTry (tb : List (Str × Str × Bool)) (hs : List Hf) (b : FS) : FS := fun Γ => match b Γ with
  | some (.ex c f d Γ') => handF tb hs c f d Γ'
  | r => r
section
variable {K : PySem.W.Frag}
def XTab (K : PySem.W.Frag) (tb : List (Str × Str × Bool)) : Prop := ∀ e ∈ tb, ∀ C D, CT K e.1 C → CT K e.2.1 D → PySem.W.exmOne K (.ref C) (.ref D) = some e.2.2
inductive NamedL (K : PySem.W.Frag) : List Str → List Value → Prop
  | nil : NamedL K [] []
  | cons {x : Str} {D : Addr} {xs : List Str} {vs : List Value} : CT K x D → NamedL K xs vs → NamedL K (x :: xs) (.ref D :: vs)
theorem isX_at {tb : List (Str × Str × Bool)} {c x : Str} {b : Bool} {C D : Addr} (ht : XTab K tb) (cc : CT K c C) (cd : CT K x D) (e : isX tb c x = some b) : PySem.W.exmOne K (.ref C) (.ref D) = some b := by
  unfold isX at e
  obtain ⟨p, hp, e2⟩ := Option.map_eq_some_iff.mp e
  have m := List.mem_of_find?_eq_some hp
  have q := List.find?_some hp
  simp only [Bool.and_eq_true, beq_iff_eq] at q
  rw [← e2]
  exact ht p m C D (by rw [q.1]; exact cc) (by rw [q.2]; exact cd)
theorem isXs_at {tb : List (Str × Str × Bool)} {c : Str} {C : Addr} (ht : XTab K tb) (cc : CT K c C) : ∀ {xs : List Str} {vs : List Value} {bs : List Bool}, NamedL K xs vs → isXs tb c xs = some bs → EachX K (.ref C) vs bs
  | _, _, _, .nil, e => by cases e; exact .nil
  | _, _, _, @NamedL.cons _ x D xs vs h l, e => by
    unfold isXs at e
    split at e
    · rename_i b bs e1 e2
      cases e
      exact .cons (isX_at ht cc h e1) (isXs_at ht cc l e2)
    · cases e
/-- a suite and its function -/
def SimH (K : PySem.W.Frag) (ts : Addr → Value → Option Addr → TS) (g : Str → Str → D → FS) : Prop :=
  ∀ (t : TbC) (C dd : Addr) (cn f : Str) (fv : V) (d : D), CT K cn C → (∀ G H, t.Z G H → H dd = some (.xd [(f, fv)]) ∧ At K G fv d) → @SimS t K W0 (ts t.xa (.ref C) (some dd)) (g cn f d)
inductive SimHs (K : PySem.W.Frag) : List Hd → List Hf → Prop
  | nil : SimHs K [] []
  | cons {xs : List Str} {vs : List Value} {i : Nat} {ts : Addr → Value → Option Addr → TS} {g : Str → Str → D → FS} {l : List Hd} {hs : List Hf} : NamedL K xs vs → SimH K ts g → SimHs K l hs → SimHs K ((vs, i, ts) :: l) ((xs, i, g) :: hs)
theorem hand_at [t : TbC] {tb : List (Str × Str × Bool)} {Wout : WX} {Dn : Ends} (ht : XTab K tb) : ∀ {l : List Hd} {hs : List Hf}, SimHs K l hs → ∀ {P : List Addr} {σ : L2.St} {c : Ow} {G H : Hp} {Γ : EnvF} {L : List (Addr × OD)} {cn f : Str} {d : D} {C dd : Addr} {fv : V} {r : Rt Fl},
    Sta K P c G H σ Γ L → CT K cn C → H dd = some (.xd [(f, fv)]) → At K G fv d → handF tb hs cn f d Γ = some r → PostS K P Wout c G H L r Dn → wHd K Wout Dn l (.ref C) (some dd) σ H
  | _, _, .nil, P, σ, c, G, H, Γ, L, cn, f, d, C, dd, fv, r, s, ct, hd, av, e, post => by
    cases e
    exact post.ex cn f d Γ rfl C dd fv σ c G H L .refl s tl_self ct hd av
  | _, _, @SimHs.cons _ xs vs i ts g l hs nl hg hr, P, σ, c, G, H, Γ, L, cn, f, d, C, dd, fv, r, s, ct, hd, av, e, post => by
    unfold handF at e
    cases ex : isXs tb cn xs with
    | none => rw [ex] at e; cases e
    | some bs =>
      rw [ex] at e
      refine ⟨bs, isXs_at ht ct nl ex, fun any a na => ?_, fun no => ?_⟩
      · have e : (match g cn f d ((Γ.map unX).set i .exc) with
          | some (.ok (.rt v) Γ') => some (Rt.ok (Fl.rt v) (Γ'.map unX))
          | some (.ok fl Γ') => some (Rt.ok fl ((Γ'.map unX).set i .no))
          | _ => none) = some r := by
          have e' := e
          simp only [any, if_true] at e'
          exact e'
        have s' : @Sta (t.ex K a dd f fv d) K P c G H σ (Γ.map unX) L := sta_to (t := t) (t' := t.ex K a dd f fv d) rfl ⟨s.iv.z, hd, av⟩ s
        obtain ⟨L1, s1, sub⟩ := @Sta.putX _ _ _ _ _ _ _ _ (t.ex K a dd f fv d) s' i
        have nL : ∀ x ∈ L1, TL L x.1 ∨ H x.1 = none := tl_sub sub
        have tL : ∀ b, TL L1 b → TL L b ∨ H b = none := tl_fresh nL
        cases eg : g cn f d ((Γ.map unX).set i .exc) with
        | none => rw [eg] at e; cases e
        | some r0 =>
          rw [eg] at e
          have back : ∀ {σ' : L2.St} {c' : Ow} {G' H' : Hp} {Γ' : EnvF} {L' : List (Addr × OD)}, @Grow (t.ex K a dd f fv d) (TL L1) c G H c' G' H' → @Sta (t.ex K a dd f fv d) K P c' G' H' σ' Γ' L' → (∀ e ∈ L', TL L1 e.1 ∨ H e.1 = none) → Grow (TL L) c G H c' G' H' ∧ Sta K P c' G' H' σ' (Γ'.map unX) L' ∧ ∀ e ∈ L', TL L e.1 ∨ H e.1 = none := fun g' s2 n2 =>
            ⟨Grow.trans' s.iv Grow.refl (grow_to (t := t.ex K a dd f fv d) (t' := t) rfl g') (fun _ z => z) tL, sta_to (t := t.ex K a dd f fv d) (t' := t) rfl (sta_z s2).1 s2, fun x hx => (n2 x hx).elim (fun z => tL _ z) .inr⟩
          refine hg (t.ex K a dd f fv d) C dd cn f fv d ct (fun G H z => z.2) P _ c G H _ L1 s1 r0 eg _ ?_
          cases r0 with
          | ex _ _ _ _ => cases e
          | ok fl Γ' =>
            cases fl with
            | nx =>
              cases e
              refine @PostS.mk (t.ex K a dd f fv d) _ _ _ _ _ _ _ _ _ (fun Γ2 e2 σ' c' G' H' L' g' s2 n2 => ?_) (fun _ e2 => by cases e2) (fun _ e2 => by cases e2) (fun _ _ e2 => by cases e2) (fun _ _ _ _ e2 => by cases e2)
              cases e2
              obtain ⟨b1, b2, b3⟩ := back g' s2 n2
              obtain ⟨L2', q1, q2⟩ := b2.putNo i none
              exact post.nx _ rfl _ c' G' H' L2' b1 q1 fun x hx => b3 x (q2.subset hx)
            | bk =>
              cases e
              refine @PostS.mk (t.ex K a dd f fv d) _ _ _ _ _ _ _ _ _ (fun _ e2 => by cases e2) (fun Γ2 e2 σ' c' G' H' L' g' s2 n2 => ?_) (fun _ e2 => by cases e2) (fun _ _ e2 => by cases e2) (fun _ _ _ _ e2 => by cases e2)
              cases e2
              obtain ⟨b1, b2, b3⟩ := back g' s2 n2
              obtain ⟨L2', q1, q2⟩ := b2.putNo i none
              exact post.bk _ rfl _ c' G' H' L2' b1 q1 fun x hx => b3 x (q2.subset hx)
            | ct =>
              cases e
              refine @PostS.mk (t.ex K a dd f fv d) _ _ _ _ _ _ _ _ _ (fun _ e2 => by cases e2) (fun _ e2 => by cases e2) (fun Γ2 e2 σ' c' G' H' L' g' s2 n2 => ?_) (fun _ _ e2 => by cases e2) (fun _ _ _ _ e2 => by cases e2)
              cases e2
              obtain ⟨b1, b2, b3⟩ := back g' s2 n2
              obtain ⟨L2', q1, q2⟩ := b2.putNo i none
              exact post.ct _ rfl _ c' G' H' L2' b1 q1 fun x hx => b3 x (q2.subset hx)
            | rt v =>
              cases e
              refine @PostS.mk (t.ex K a dd f fv d) _ _ _ _ _ _ _ _ _ (fun _ e2 => by cases e2) (fun _ e2 => by cases e2) (fun _ e2 => by cases e2) (fun w Γ2 e2 u σ' c' G' H' L' g' s2 n2 a2 => ?_) (fun _ _ _ _ e2 => by cases e2)
              cases e2
              obtain ⟨b1, b2, b3⟩ := back g' s2 n2
              exact post.rt _ _ rfl u _ c' G' H' L' b1 b2 b3 a2
      · have e : handF tb hs cn f d Γ = some r := by
          have e' := e
          simp only [no, if_false, Bool.false_eq_true] at e'
          exact e'
        exact hand_at ht hr s ct hd av e post
theorem sim_try [TbC] {tb : List (Str × Str × Bool)} {l : List Hd} {hs : List Hf} {Wout : WX} {tB : WX → TS} {fb : FS} (ht : XTab K tb) (hh : SimHs K l hs) (hb : ∀ W, SimS K W (tB W) fb) : SimS K Wout (fun D σ H => tB (wHd K Wout D l) D σ H) (fTry tb hs fb) := fun P σ c G H Γ L s r e Dn post => by
  unfold fTry at e
  cases ef : fb Γ with
  | none => rw [ef] at e; cases e
  | some r0 =>
    rw [ef] at e
    cases r0 with
    | ok fl Γ' =>
      cases e
      exact hb _ P σ c G H Γ L s _ ef Dn ⟨post.nx, post.bk, post.ct, post.rt, fun _ _ _ _ e2 => by cases e2⟩
    | ex cn f d Γ' =>
      refine hb _ P σ c G H Γ L s _ ef Dn ⟨fun _ e2 => (by cases e2), fun _ e2 => (by cases e2), fun _ e2 => (by cases e2), fun _ _ e2 => (by cases e2), fun cn2 f2 d2 Γ2 e2 => ?_⟩
      cases e2
      intro C dd fv σ' c' G' H' L' g' s' n' ct hd av
      exact hand_at ht hh s' ct hd av e (post.trans s.iv g' n')
end
end DF

set_option linter.all false
set_option maxRecDepth 100000
set_option maxHeartbeats 4000000
/-! f(lambda: e) as a function on data -/
namespace DF
open PySem PySem.Spec PyProof.Rows L2 TX LamX
def hideO : Sl → Sl
  | .val d => .val d
  | _ => .no
def hasX : EnvF → Bool
  | .exc :: _ => true
  | _ => false
/-- act(), by what the lambda's body gave -/
def fAct (n : Nat) (r : Option (Rt Vr)) : FE := fun Γ => if hasX Γ = true then (match r with
  | some (.ok (.val d) _) => some (.ok (.val d) Γ)
  | some (.ex c f d _) => some (.ex c f d (List.replicate n .no))
  | _ => none) else none
def fLam (B : FE → FS) (n : Nat) (e : FE) : FE := fun Γ => match B (fAct n (e (Γ.map hideO))) (.exc :: List.replicate (n - 1) .no) with
  | some (.ok (.rt (.val d)) _) => some (.ok (.val d) Γ)
  | some (.ok .nx _) => some (.ok (.val .non) Γ)
  | _ => none
section
variable {K : PySem.W.Frag} {G G' H H' H0 H1 G1 : Hp} {P : List Addr} {σ σ' : L2.St} {Γ Γ' Γ1 : EnvF} {L L' L1 : List (Addr × OD)} {c c' c1 : Ow} {W : WX} {T : Addr → Prop}
theorem envR_hide {t t' : TbC} (h : @EnvR t K G P σ Γ L) : @EnvR t' K G [] σ (Γ.map hideO) [] := by
  induction h with
  | nil => exact .nil
  | no l ih => exact .no ih
  | exc l ih => exact .no ih
  | val a l ih => exact .val a ih
  | own a l ih => exact .no ih
theorem envR_nos [TbC] : ∀ σ : L2.St, EnvR K G P σ (List.replicate σ.length .no) []
  | [] => .nil
  | _ :: σ => .no (envR_nos σ)
theorem grow_stay [TbC] (v : Iv K c G H) (g : Grow T c G H c' G' H') : ∀ b o, Stay o → H b = some o → H' b = some o := fun b o st e => g.h b o (by
  cases q : c b with
  | none => rfl
  | some u => exact absurd rfl ((v.ow b u q).2.nxd st e)) (.inl st.nt) e
/-- the facts in the def that got the lambda -/
@[reducible] def TbC.lam (t : TbC) (K : PySem.W.Frag) (σ : L2.St) (Γ : EnvF) (f c' : Addr) (q : Str) : TbC := ⟨t.T, f, fun G H => t.Z G H ∧ H c' = some (CodeO c' q) ∧ @EnvR t K G [] σ Γ [],
  fun h e k => ⟨t.zm h.1 e k, k _ _ (by unfold CodeO; trivial) h.2.1, h.2.2.mono e⟩⟩
theorem Sta.lend [TbC] (s : Sta K P c G H σ Γ L) (g : Grow (TL []) c G H c' G' H') (v : Iv K c' G' H') : Sta K P c' G' H' σ Γ L :=
  ⟨s.r.mono g.g, s.nd, fun e he => by rw [(g.f e.1 (by simp [TL]) (by rw [s.ow e he]; simp)).1]; exact s.ow e he, v, fun p hp => g.n p (s.pa p hp)⟩
theorem grow_nil [TbC] (g : Grow (TL []) c G H c' G' H') : Grow T c G H c' G' H' := g.mono fun b z => by simp [TL] at z
theorem sim_act {t : TbC} {te : XK → TE} {fe : FE} {Ng : List Str} {q : Str} {f c0 : Addr} (he : ∀ E : XK, @SimE t K (fun cls d _ H => E cls d H) (te E) fe) (W : WX) :
    @SimE (t.lam K σ (Γ.map hideO) f c0 q) K W (actT Ng q f c0 (fun E H' Q' => te E σ H' Q') W) (fAct Ng.length (fe (Γ.map hideO))) := fun Pz σz cz Gz Hz Γz Lz sz r er Q post => by
  have z := sta_z sz
  unfold fAct at er
  split at er
  · rename_i hx
    have e0 : Γz[0]? = some .exc := by
      unfold hasX at hx
      split at hx
      · rfl
      · cases hx
    have at0 : σz[0]? = some (some (.ref f)) := by
      obtain ⟨r1, _⟩ := sz
      exact @EnvR.getX (t.lam K σ (Γ.map hideO) f c0 q) _ _ _ _ _ _ r1 0 e0
    refine ⟨at0, z.2.1, ?_⟩
    have iv0 : @Iv t K cz Gz Hz := by
      obtain ⟨_, _, _, v, _⟩ := sz
      exact iv_to (t := t.lam K σ (Γ.map hideO) f c0 q) (t' := t) rfl z.1 v
    have s0 : @Sta t K [] cz Gz Hz σ (Γ.map hideO) [] := @Sta.mk t _ _ _ _ _ _ _ _ z.2.2 List.nodup_nil (fun e he => (List.not_mem_nil he).elim) iv0 (fun p hp => (List.not_mem_nil hp).elim)
    -- behind the body's run
    have grown : ∀ {c' : Ow} {G' H' : Hp} {σ2 : L2.St} {Γ2 : EnvF} {L2' : List (Addr × OD)}, @Grow t (TL []) cz Gz Hz c' G' H' → @Sta t K [] c' G' H' σ2 Γ2 L2' → @Grow (t.lam K σ (Γ.map hideO) f c0 q) (TL []) cz Gz Hz c' G' H' ∧ @Iv (t.lam K σ (Γ.map hideO) f c0 q) K c' G' H' := fun g' s2 => by
      refine ⟨grow_to (t := t) (t' := t.lam K σ (Γ.map hideO) f c0 q) rfl g', ?_⟩
      have gs := @grow_stay _ _ _ _ _ _ _ _ t iv0 g'
      have gg := @Grow.g t _ _ _ _ _ _ _ g'
      obtain ⟨_, _, _, v, _⟩ := s2
      exact iv_to (t := t) (t' := t.lam K σ (Γ.map hideO) f c0 q) rfl ((t.lam K σ (Γ.map hideO) f c0 q).zm z gg gs) v
    cases ee : fe (Γ.map hideO) with
    | none => rw [ee] at er; cases er
    | some r0 =>
      rw [ee] at er
      refine he (EL Ng.length W) [] σ cz Gz Hz _ [] s0 r0 ee Q ?_
      cases r0 with
      | ok v Γ2 =>
        cases v with
        | val d =>
          cases er
          intro b c' G' H' L' g' s2 e2 a2
          obtain ⟨g1, v1⟩ := grown g' s2
          exact post b c' G' H' Lz (@grow_nil _ _ _ _ _ _ _ (t.lam K σ (Γ.map hideO) f c0 q) g1) (@Sta.lend _ _ _ _ _ _ _ _ _ _ _ (t.lam K σ (Γ.map hideO) f c0 q) sz g1 v1) rfl a2
        | slot i => cases er
        | own o => cases er
      | ex cn fl d Γ2 =>
        cases er
        intro C dd fv σ2 c' G' H' L' g' s2 n2 ct hd av σ3 h3
        obtain ⟨g1, v1⟩ := grown g' s2
        refine post C dd fv σ3 c' G' H' [] (@grow_nil _ _ _ _ _ _ _ (t.lam K σ (Γ.map hideO) f c0 q) g1) ?_ (fun x hx => (List.not_mem_nil hx).elim) ct hd av
        have en : @EnvR (t.lam K σ (Γ.map hideO) f c0 q) K G' Pz σ3 (List.replicate Ng.length .no) [] := by rw [← h3]; exact @envR_nos _ _ _ (t.lam K σ (Γ.map hideO) f c0 q) σ3
        have pa : ∀ p ∈ Pz, H' p ≠ none := by
          obtain ⟨_, _, _, _, q⟩ := sz
          obtain ⟨_, _, _, _, _, n⟩ := g1
          exact fun p hp => n p (q p hp)
        exact @Sta.mk (t.lam K σ (Γ.map hideO) f c0 q) _ _ _ _ _ _ _ _ en List.nodup_nil (fun e he => (List.not_mem_nil he).elim) v1 pa
  · cases er
end
section
variable {K : PySem.W.Frag} {W : WX}
theorem sim_lam [t : TbC] {B : FE → FS} {te : XK → TE} {fe : FE} {Ng : List Str} {q : Str} (hT : TbC.T ≠ []) (hn : 0 < Ng.length)
    (he : ∀ E : XK, SimE K (fun cls d _ H => E cls d H) (te E) fe) :
    SimE K W (tLamY K TbC.T B Ng q te) (fLam B Ng.length fe) := fun P σ c G H Γ L s r e Q post => by
  refine ⟨s.iv.tb, fun H1 f c0 ext tabs no_f at_c tS hB => ?_⟩
  have pg : PG G H G H1 := by
    have stays : ∀ b o, (∀ ps, o ≠ HO.tbl ps) → H b = some o → H1 b = some o := fun b o n z => (ext b o z).elim id fun ⟨ps, _, w, _⟩ => absurd w (n ps)
    refine ⟨Ext.rfl', fun b o n z => stays b o (n.elim id fun w => absurd w hT) z, fun b o z => stays b o (s.iv.nt.ne z) (s.iv.i b o z), fun b h => .inl h, fun b h => ?_, id, fun _ => tabs⟩
    cases z : H b with
    | none => exact absurd z h
    | some o => rcases ext b o z with w | ⟨_, _, _, w⟩ <;> rw [w] <;> simp
  have s1 := s.pg pg
  have z1 : (t.lam K σ (Γ.map hideO) f c0 q).Z G H1 := ⟨s1.iv.z, at_c, envR_hide s1.r⟩
  have iv1 := iv_to (t := t) (t' := t.lam K σ (Γ.map hideO) f c0 q) rfl z1 s1.iv
  have st1 : @Sta (t.lam K σ (Γ.map hideO) f c0 q) K P c G H1 (L2.start Ng [.ref f]) (.exc :: List.replicate (Ng.length - 1) .no) [] := by
    have en : @EnvR (t.lam K σ (Γ.map hideO) f c0 q) K G P (L2.start Ng [.ref f]) (.exc :: List.replicate (Ng.length - 1) .no) [] := by
      unfold L2.start
      show @EnvR (t.lam K σ (Γ.map hideO) f c0 q) K G P (some (V.ref f) :: List.replicate (Ng.length - 1) none) _ []
      exact @EnvR.exc (t.lam K σ (Γ.map hideO) f c0 q) _ _ _ _ _ _ (@envR_rep (t.lam K σ (Γ.map hideO) f c0 q) _ _ _ _)
    exact @Sta.mk (t.lam K σ (Γ.map hideO) f c0 q) _ _ _ _ _ _ _ _ en List.nodup_nil (fun e he => (List.not_mem_nil he).elim) iv1 s1.pa
  have sim := hB (t.lam K σ (Γ.map hideO) f c0 q) _ (sim_act (σ := σ) (Γ := Γ) (Ng := Ng) (q := q) (f := f) (c0 := c0) he)
  unfold fLam at e
  have fin : ∀ {u : V} {d : D} {σ' : L2.St} {c' : Ow} {G' H' : Hp} {Γ' : EnvF} {L' : List (Addr × OD)}, r = .ok (.val d) Γ → @Grow (t.lam K σ (Γ.map hideO) f c0 q) (TL []) c G H1 c' G' H' → @Sta (t.lam K σ (Γ.map hideO) f c0 q) K P c' G' H' σ' Γ' L' → At K G' u d → Q u H' := fun {u d σ' c' G' H' Γ' L'} er g' s2 a2 => by
    subst er
    have g2 : Grow (TL []) c G H1 c' G' H' := grow_to (t := t.lam K σ (Γ.map hideO) f c0 q) (t' := t) rfl g'
    have v2 : Iv K c' G' H' := by
      have z := sta_z s2
      obtain ⟨_, _, _, v, _⟩ := s2
      exact iv_to (t := t.lam K σ (Γ.map hideO) f c0 q) (t' := t) rfl z.1 v
    exact post _ _ _ _ L ((pg.grow s.iv).trans s.iv (grow_nil g2)) (s1.lend g2 v2) rfl a2
  cases eB : B (fAct Ng.length (fe (Γ.map hideO))) (.exc :: List.replicate (Ng.length - 1) .no) with
  | none => rw [eB] at e; cases e
  | some r0 =>
    rw [eB] at e
    refine sim P _ c G H1 _ [] st1 r0 eB _ ?_
    cases r0 with
    | ex _ _ _ _ => cases e
    | ok fl Γ' =>
      cases fl with
      | nx =>
        cases e
        exact @PostS.mk (t.lam K σ (Γ.map hideO) f c0 q) _ _ _ _ _ _ _ _ _ (fun Γ2 e2 σ' c' G' H' L' g' s2 n2 => fin rfl g' s2 .non) (fun _ e2 => by cases e2) (fun _ e2 => by cases e2) (fun _ _ e2 => by cases e2) (fun _ _ _ _ e2 => by cases e2)
      | rt v =>
        cases v with
        | val d =>
          cases e
          refine @PostS.mk (t.lam K σ (Γ.map hideO) f c0 q) _ _ _ _ _ _ _ _ _ (fun _ e2 => by cases e2) (fun _ e2 => by cases e2) (fun _ e2 => by cases e2) (fun w Γ2 e2 u σ' c' G' H' L' g' s2 n2 a2 => ?_) (fun _ _ _ _ e2 => by cases e2)
          cases e2
          exact fin rfl g' s2 a2
        | slot i => cases e
        | own o => cases e
      | bk => cases e
      | ct => cases e
end
end DF

set_option linter.all false
set_option maxRecDepth 100000
set_option maxHeartbeats 4000000
/-! a caught error asked; defs that raise; defs that make lambdas -/
namespace TX
open PySem PySem.Spec PyProof.Rows L2 LamX
/-- isinstance(e, c) of the error that a suite holds -/
def rIsX (K : PySem.W.Frag) (a : Addr) (cls : Value) (d : Option Addr) : List V → Hp → VK → Prop := fun xs H Q => ∃ (D dd : Addr) (c : V) (cv : Value) (b : Bool) (fs : List (Str × V)), cls = .ref D ∧ d = some dd ∧ ExcC K D ∧ (PySem.W.clsIn K D).isSome = true ∧
  xs = [.ref a, c] ∧ (∀ u, L2.RelV c u → u = cv) ∧ PySem.W.kitOne K (.ref D) cv = some b ∧ H dd = some (.xd fs) ∧ Q (.bl b) H
theorem call_isX {X : Cx} {K : PySem.W.Frag} {a : Addr} {cls : Value} {d : Option Addr} {oe : Obj} {pn : List (Addr × Obj)} (hK : X.K = K) (hz : Zc cls d oe) (hf : ∃ vs, oe.data = Data.fields vs) : CallR (X.suite a ((a, oe) :: pn)) (.builtin "isinstance") (rIsX K a cls d) := by
  subst hK
  rintro pins s σ H xs us Q I r ⟨D, dd, c, cv, b, fs, rfl, rfl, C, ci, rfl, hcv, e, hd, q⟩
  exact call_isEd C ci hz hf pins s σ H _ us Q I r ⟨c, cv, b, fs, rfl, hcv, e, hd, q⟩
/-- e.f of it -/
def tXfE (K : PySem.W.Frag) (a : Addr) (cls : Value) (d : Option Addr) (n : Str) (i : Nat) : TE := fun σ H Q => σ[i]? = some (some (.ref a)) ∧ ∃ (C dd : Addr) (fs : List (Str × V)) (v : V), cls = .ref C ∧ XfC K C ∧ PySem.W.findIn K (.ref C) n = some none ∧ d = some dd ∧ H dd = some (.xd fs) ∧ fs.lookup n = some v ∧ Q v H
theorem pe_xfE {X : Cx} {K : PySem.W.Frag} {a : Addr} {oe : Obj} {cls : Value} {d : Option Addr} {pn : List (Addr × Obj)} {e : Expr} {pos : Pos} {n : Str} {i : Nat} (hK : X.K = K) (hz : Zc cls d oe) (hf : ∃ vs, oe.data = Data.fields vs) (he : PE (X.suite a ((a, oe) :: pn)) e (tVar i))
    (hb : attributeBase e n X.env (eval e X.env) = eval e X.env := by rfl) : PE (X.suite a ((a, oe) :: pn)) (.Attribute e n pos) (tXfE K a cls d n i) := by
  subst hK
  constructor
  rintro pins s σ H Q I ⟨at_i, C, dd, fs, v, rfl, xf, no, rfl, at_d, look, q⟩
  exact (pe_xf (C := C) xf no hz hf he hb).run pins s σ H Q I ⟨_, at_i, rfl, rfl, dd, fs, v, rfl, at_d, look, q⟩
/-! what reaches whom -/
theorem passZ {X : Cx} {E : XK} : Passes CX0 X E := fun _ _ _ _ _ _ _ z => z.elim
section
variable {P : Program} {w : World} {K : PySem.W.Frag} {mg : Str → Option Value} {base : Heap} {N : List Str} {q : Str} {sc : Scope} {f : Addr} {cd : Value} {A : Around} {out : List Env} {s : Shared} {H : Hp} {E : XK}
theorem takesX : Takes (cxOf (L2.CX P w) P w K mg base N q sc f cd A out s H E) (fun cls d _ H => E cls d H) := takes_of rfl rfl rfl rfl
theorem passX : Passes (L2.CX P w) (cxOf (L2.CX P w) P w K mg base N q sc f cd A out s H E) E := passes_call takesX fun _ _ _ _ z => z
theorem passLm {X : Cx} {scope : Scope} {c' : Addr} : Passes (L2.CX X.prog X.w) (lamCx X A out s H E scope f c') E := passes_call (X := lamCx X A out s H E scope f c') (takes_of rfl rfl rfl rfl) fun _ _ _ _ z => z
end
/-! defs whose code object is known -/
structure FunC (K : PySem.W.Frag) (x qual : Str) (st : Stmt) (f : Addr) (fd : FuncData) (c : Addr) : Prop where
  ex : ∃ (oc : Value) (od : Option Addr) (kV doc pm : Value) (an : Option Addr) (ct : Value) (osl : Array (Option Value)),
    fd = PySem.W.fnOf x qual (defArgs st) (defBody st) (defScope st) .none kV doc pm an (.ref c) ct ∧ K.lookup f = some ⟨oc, od, .func fd, osl⟩ ∧ PySem.W.codeIn K (.ref c) qual = true
  kp : PySem.W.keepIn K (.ref f) = true
theorem FunC.fun {K : PySem.W.Frag} {x qual : Str} {st : Stmt} {f : Addr} {fd : FuncData} {c : Addr} (F : FunC K x qual st f fd c) : Fun K x qual st f fd := by
  obtain ⟨oc, od, kV, doc, pm, an, ct, osl, e1, e2, e3⟩ := F.ex
  exact ⟨⟨oc, od, kV, doc, pm, an, .ref c, ct, osl, e1, e2, e3⟩, F.kp⟩
section
variable {P : Program} {w : World} {K : PySem.W.Frag} {mg : Str → Option Value} {base : Heap}
theorem FunC.ok {x qual : Str} {st : Stmt} {f c : Addr} {fd : FuncData} {N ps : List Str} {k : Nat} {sp : Sp} (F : FunC K x qual st f fd c) (S : FnScope N ps (defScope st)) (len : ∀ vs H Q E, sp vs H Q E → vs.length = ps.length)
    (body : ∀ (A : Around) (out : List Env) (s : Shared) (H : Hp) (vs : List V) (Q : VK) (E : XK), Room k (A.deeper (envOfC qual (defScope st) s.heap.objs.size f (.ref c))) → sp vs H Q E →
      ∃ t, PSs (cxOf CX0 P w K mg base N qual (defScope st) f (.ref c) A out s H E).nox (defBody st) t ∧ t { nx := fun _ H' => Q .non H', rt := Q } (start N vs) H) : FnOk P w K mg base CX0 (k + 1) f fd ps sp := by
  obtain ⟨oc, od, kV, doc, pm, an, ct, osl, rfl, at_f, code⟩ := F.ex
  refine fn_of at_f code S len fun A out s H vs Q E room want => ?_
  obtain ⟨t, rules, reading⟩ := body A out s H vs Q E room want
  exact ⟨t, rules.nox, reading⟩
end
/-- f(lambda: e), the def told by what the top holds -/
theorem pe_lamF {X : Cx} {T : List (Addr × Str)} {B : DF.FE → DF.FS} {gd : Bool} {x a : Str} {g c P : Addr} {k : Nat} {st : Stmt} {fd : FuncData} {Ng : List Str} {params : Arguments} {body : Expr} {scope : Scope} {t : XK → TE} {p lpos pos : Pos} {q0 : Str}
    (F : Fun X.K x x st g fd) (D : ∀ cdv, LamD X.prog X.w X.K X.mg X.base gd (k + 1) x (defScope st) g cdv Ng (defBody st) a B) (calm : gd = true → X.A.guards = some [])
    (gl : Gl X x) (mgx : X.mg x = some (.ref g)) (bi : L2.Binds X.K fd [a] []) (Sg : FnScope Ng [a] (defScope st)) (first : Ng[0]? = some a) (seen : Vis (defScope st) a)
    (TB : TabB X.base X.mg c P) (code : X.env.code = .ref c) (eq : X.env.qual = q0) (mem : (P, q0 ++ "<lambda>") ∈ T) (one : ∀ p ∈ T, p.1 = P → p.2 = q0 ++ "<lambda>") (room : Room (k + 2) X.A) (L : LamS X.env.scope scope) (nodef : defaultsOf params X.env = ([], []))
    (binds : ∀ (q : Str) (cl : List (Str × Addr)) (pm cv ctv : Value), bindArgs (PySem.W.kla_fn "<lambda>" q params body scope cl pm cv ctv) ⟨[], []⟩ = pure [])
    (hbody : ∀ (A : Around) (out : List Env) (s : Shared) (H : Hp) (E : XK) (f c' : Addr), Room k (A.deeper (lamEnv X scope s.heap.objs.size f c')) → PE (lamCx X A out s H E scope f c') body (t E))
    (db : (x == ("__debug__" : Str)) = false := by decide) (da : (a == ("__debug__" : Str)) = false := by decide) (dc : (a == ("__classdict__" : Str)) = false := by decide) :
    PE X (.Call (.Name x p) [.Lambda params body scope lpos] [] pos) (tLamY X.K T B Ng (q0 ++ "<lambda>") t) := by
  subst eq
  obtain ⟨oc, od, kV, doc, pm, an, cdv, ct, osl, rfl, at_g, code_g⟩ := F.ex
  exact pe_lamY (D cdv) calm gl mgx F.kp at_g code_g bi Sg first seen TB code mem one room L nodef binds hbody db da dc
end TX
namespace DF
open PySem PySem.Spec PyProof.Rows L2 TX LamX
section
variable {P : Program} {w : World} {K : PySem.W.Frag} {mg : Str → Option Value} {base : Heap} [TbC]
/-- of a def that may raise: where it doesn't -/
theorem ok_of {k : Nat} {f : Addr} {fd : FuncData} {ps : List Str} {F : FF} (h : FnOk P w K mg base (L2.CX P w) k f fd ps (spF K F)) : FnOk P w K mg base CX0 k f fd ps (spF K (okF F)) := by
  have calm : ∀ {vs H Q E}, spF K (okF F) vs H Q E → spF K F vs H Q E0 := by
    rintro vs H Q E ⟨G, c, as, L, r, iv, ar, ow, er, post⟩
    obtain ⟨v, o, rfl, e⟩ := okF_some er
    exact ⟨G, c, as, L, _, iv, ar, ow, e, post⟩
  refine ⟨fun vs H Q E z => h.len vs H Q E0 (calm z), fun A out s H ar us vs Q E room e0 bind vals want => ?_⟩
  refine codeAny_mono (h.run A out s H ar us vs Q E0 room e0 bind vals (calm want)) fun r s1 z => ?_
  cases r with
  | ok fl => cases fl <;> exact z
  | error e =>
    obtain ⟨_, _, _, _, _, _, _, _, _, _, _, _, no⟩ := z
    exact no.elim
/-! the error that a suite holds -/
def KTab (K : PySem.W.Frag) (tb : List (Str × Str × Bool)) : Prop := ∀ e ∈ tb, ∀ C D, CT K e.1 C → CT K e.2.1 D → PySem.W.kitOne K (.ref C) (.ref D) = some e.2.2
structure ExF (K : PySem.W.Frag) (C : Addr) (f : Str) : Prop where
  ec : ExcC K C
  ci : (PySem.W.clsIn K C).isSome = true
  xf : XfC K C
  no : PySem.W.findIn K (.ref C) f = some none
/-- classes of errors and their fields -/
def LTab (K : PySem.W.Frag) (lv : List (Str × Str)) : Prop := ∀ e ∈ lv, ∀ C, CT K e.1 C → ExF K C e.2
def atX (i : Nat) (Γ : EnvF) : Bool := match Γ[i]? with
  | some .exc => true
  | _ => false
omit [TbC] in
theorem atX_at {i : Nat} {Γ : EnvF} (h : atX i Γ = true) : Γ[i]? = some .exc := by
  unfold atX at h
  split at h
  · assumption
  · cases h
def isC (tb : List (Str × Str × Bool)) (lv : List (Str × Str)) (c f x : Str) (i : Nat) : FE := fun Γ => if (c, f) ∈ lv ∧ atX i Γ = true then (isX tb c x).map fun b => .ok (.val (.bl b)) Γ else none
def gvC (lv : List (Str × Str)) (c f n : Str) (d : D) (i : Nat) : FE := fun Γ => if (c, f) ∈ lv ∧ n = f ∧ atX i Γ = true then some (.ok (.val d) Γ) else none
variable {W : WX} {tb : List (Str × Str × Bool)} {lv : List (Str × Str)} {cn f x n : Str} {C D0 dd : Addr} {i : Nat} {fv : V} {d : D}
theorem isK_at (ht : KTab K tb) (cc : CT K cn C) (cd : CT K x D0) {b : Bool} (e : isX tb cn x = some b) : PySem.W.kitOne K (.ref C) (.ref D0) = some b := by
  unfold isX at e
  obtain ⟨p, hp, e2⟩ := Option.map_eq_some_iff.mp e
  have q := List.find?_some hp
  simp only [Bool.and_eq_true, beq_iff_eq] at q
  rw [← e2]
  exact ht p (List.mem_of_find?_eq_some hp) C D0 (by rw [q.1]; exact cc) (by rw [q.2]; exact cd)
theorem sim_isC (ht : KTab K tb) (hl : LTab K lv) (cc : CT K cn C) (cd : CT K x D0) (hz : ∀ G H, TbC.Z G H → H dd = some (.xd [(f, fv)]) ∧ At K G fv d) :
    SimE K W (tCB (rIsX K TbC.xa (.ref C) (some dd)) (tCons (tVar i) (tCons (tC (.ref D0)) tNil))) (isC tb lv cn f x i) := fun P σ c G H Γ L s r e Q post => by
  unfold isC at e
  split at e
  · rename_i hc
    obtain ⟨b, eb, er⟩ := Option.map_eq_some_iff.mp e
    subst er
    have z := hz G H s.iv.z
    have live := hl _ hc.1 C cc
    exact ⟨_, s.r.getX (atX_at hc.2), C, dd, .ref D0, .ref D0, b, _, rfl, rfl, live.ec, live.ci, rfl, fun u h => h, isK_at ht cc cd eb, z.1, post _ c G H L .refl s rfl (.bl b)⟩
  · cases e
theorem sim_gvC (hl : LTab K lv) (cc : CT K cn C) (hz : ∀ G H, TbC.Z G H → H dd = some (.xd [(f, fv)]) ∧ At K G fv d) :
    SimE K W (tXfE K TbC.xa (.ref C) (some dd) n i) (gvC lv cn f n d i) := fun P σ c G H Γ L s r e Q post => by
  unfold gvC at e
  split at e
  · rename_i hc
    cases e
    have z := hz G H s.iv.z
    have live := hl _ hc.1 C cc
    refine ⟨s.r.getX (atX_at hc.2.2), C, dd, _, fv, rfl, live.xf, by rw [hc.2.1]; exact live.no, rfl, z.1, by rw [hc.2.1]; simp [List.lookup], post _ c G H L .refl s rfl z.2⟩
  · cases e
end
end DF
namespace TX
open PySem PySem.Spec PyProof.Rows L2 LamX
theorem LamD.mono {P : Program} {w : World} {K : PySem.W.Frag} {mg : Str → Option Value} {base : Heap} {gd : Bool} {k k' : Nat} {x : Str} {sg : Scope} {g : Addr} {cdg : Value} {Ng : List Str} {bg : List Stmt} {a : Str} {B : DF.FE → DF.FS}
    (h : LamD P w K mg base gd k x sg g cdg Ng bg a B) (le : k ≤ k') : LamD P w K mg base gd k' x sg g cdg Ng bg a B := ⟨fun A out s H aT room => h.run A out s H aT (room.mono le)⟩
theorem fun_mkC {K : PySem.W.Frag} {x qual : Str} {st : Stmt} {f c : Addr} {oc : Value} {od an : Option Addr} {osl : Array (Option Value)} {kV doc pm ct : Value} (l : K.lookup f = some ⟨oc, od, .func (PySem.W.fnOf x qual (defArgs st) (defBody st) (defScope st) .none kV doc pm an (.ref c) ct), osl⟩)
    (i : PySem.W.codeIn K (.ref c) qual = true) (k : PySem.W.keepIn K (.ref f) = true) : FunC K x qual st f (PySem.W.fnOf x qual (defArgs st) (defBody st) (defScope st) .none kV doc pm an (.ref c) ct) c := ⟨⟨_, _, _, _, _, _, _, _, rfl, l, i⟩, k⟩
end TX

set_option linter.all false
set_option maxRecDepth 100000
set_option maxHeartbeats 4000000
/-! the end of a law whose defs make lambdas: their tables are told -/
namespace DF
open PySem PySem.Spec PyProof.Rows L2 TX LamX
section
variable {P : Program} {w : World} {K : PySem.W.Frag} {mg mb : Str → Option Value} {k : Nat} {fa a : Addr} {fd : FuncData} {x : Str} {s : Shared} {vs : List Value} {ns : List Int} {cs : List (Addr × Addr)} {T : List (Addr × Str)}
@[reducible] def TbC.tabs (T : List (Addr × Str)) : TbC := ⟨T, 0, fun _ _ => True, fun _ _ _ => trivial⟩
theorem start_tabs (hT : ∀ p ∈ T, p.1 ∈ cs.map (·.2)) (KX : K.In s.heap) (hns : s.heap.Ns mainGlobals mg) (hb : s.heap.Ns builtinsNs mb) (hbb : ∀ x : Str, x ≠ "__name__" → mb x = bootBuiltins x) (hlim : s.heap.NoLimit) (hg : s.gens = #[])
    (empty : ∀ p ∈ cs, s.heap.get? p.2 = some (PySem.W.tabObj #[])) (new : ∀ p ∈ cs, K.lookup p.2 = none) (codes : ∀ p ∈ cs, PySem.W.CodeHd s.heap p.1 p.2)
    (blt : ∃ (bm : Addr) (ob : Obj), mg "__builtins__" = some (.ref bm) ∧ bm ≠ builtinsNs ∧ s.heap.get? bm = some ob ∧ ob.cls = .type "module" ∧ ob.dict = some builtinsNs ∧ ob.data = .plain)
    (ha : s.heap.get? a = some { cls := .type "list", data := .seq vs.toArray }) (hl : ns.length ≤ 63) (hr : Room k callerA)
    {FF0 : FF} (hF0 : ∀ ns : List Int, ns.length ≤ 63 → FF0 [.val (.scr ns)] = some (.ok (.val (.bl true)) none)) (F : ∀ base : Heap, K.In base → base.Ns mainGlobals mg → (∀ p ∈ cs, TabB base mg p.1 p.2) → FnG P w K mg base CX0 k fa fd [x] (@spF (TbC.tabs T) K FF0)) (hbind : ∀ (s : Shared) (u : Value), BindsTo s fd ⟨[u], []⟩ [(x, u)])
    (H : Hp) (hok : HOk P w H s.heap) (tabH : ∀ p ∈ cs, H p.2 = some (.tbl #[])) (hA : ∀ b, H b ≠ none → b = a ∨ b ∈ cs.map (·.2)) (hK : H a ≠ none → K.lookup a = none) (hf : ∀ o, H a = some o → ∃ ob, o = .frz ob (.lst (ns.map V.int))) (hS : Sc K (fun b => if b = a then H a else none) a ns) :
    codeAny (model P w) callerA (.call (.ref fa) ⟨[.ref a], []⟩) (fun r s' => r = .ok (.ret (.bool true)) ∧ OldK s.heap s'.heap ∧ s'.os = s.os ∧ AllBare s'.gens) s := by
  have tabAt : ∀ {b : Addr}, b ∈ cs.map (·.2) → s.heap.get? b = some (PySem.W.tabObj #[]) ∧ H b = some (.tbl #[]) := fun {b} hb => by
    obtain ⟨p, hp, rfl⟩ := List.mem_map.mp hb
    exact ⟨empty p hp, tabH p hp⟩
  -- what is neither the script nor a table is not told
  have kept : ∀ {b : Addr} {o : Obj}, s.heap.get? b = some o → (b = a → H a = none) → b ∉ cs.map (·.2) → (hidT s.heap H).get? b = some o := fun {b o} e z n => by
    refine hidT_get e ?_
    cases q : H b with
    | none => rfl
    | some u =>
      rcases hA b (by rw [q]; simp) with y | y
      · have := z y
        rw [y, this] at q; cases q
      · exact absurd y n
  have apart : ∀ {b : Addr} {o : Obj}, s.heap.get? b = some o → (∀ l n, o.data ≠ .seq l n) → o.data ≠ .fields #[] → (hidT s.heap H).get? b = some o := fun {b o} e n1 n2 => by
    refine kept e (fun z => ?_) fun z => ?_
    · rw [z, ha] at e
      cases Option.some.inj e
      exact absurd rfl (n1 _ _)
    · rw [(tabAt z).1] at e
      cases Option.some.inj e
      exact n2 rfl
  have dictK : ∀ {b : Addr} {m : Str → Option Value}, s.heap.Ns b m → (hidT s.heap H).Ns b m := fun {b m} hN => by
    obtain ⟨o, es, ep, e, d, rest⟩ := hN
    exact ⟨o, es, ep, apart e (fun _ _ z => by rw [d] at z; cases z) (fun z => by rw [d] at z; cases z), d, rest⟩
  have inB : K.In (hidT s.heap H) := fun b o e => by
    refine kept (KX b o e) (fun z => Classical.byContradiction fun y => ?_) fun z => ?_
    · rw [z, hK y] at e; cases e
    · obtain ⟨p, hp, rfl⟩ := List.mem_map.mp z
      rw [new p hp] at e; cases e
  have md : Mod K mg (hidT s.heap H) := ⟨inB, dictK hns, ⟨mb, dictK hb, hbb⟩, by obtain ⟨mc, q1, q2⟩ := hlim; exact ⟨mc, dictK q1, q2⟩⟩
  have tabB : ∀ p ∈ cs, TabB (hidT s.heap H) mg p.1 p.2 := fun p hp => by
    constructor
    · obtain ⟨o, us, fi, t1, fl, t2, b0, tx, t3, e1, e2, e3, e4, rest⟩ := codes p hp
      exact ⟨o, us, fi, t1, fl, t2, b0, tx, t3, apart e1 (fun _ _ z => by rw [e3] at z; cases z) (fun z => by rw [e3] at z; cases z; simp at e4), e2, e3, e4, rest⟩
    · obtain ⟨bm, ob, b1, b2, b3, b4, b5, b6⟩ := blt
      refine ⟨bm, ob, b1, b2, fun z => ?_, fun z => ?_, apart b3 (fun _ _ z => by rw [b6] at z; cases z) (fun z => by rw [b6] at z; cases z), b4, b5, b6⟩
      · obtain ⟨o, es, ep, e, d, _⟩ := hns
        rw [← z, b3] at e
        cases e
        rw [b6] at d; cases d
      · rw [z, empty p hp] at b3
        cases b3; cases b6
    · intro z
      obtain ⟨o, es, ep, e, d, _⟩ := hns
      rw [z, empty p hp] at e
      cases e; cases d
  have e0 : Env0 P w K mg (hidT s.heap H) callerA [] s H :=
    ⟨rfl, md, fun _ _ e => of_hidT e, Nat.le_of_eq (hidT_size _ _), trivial, fun _ hb => (List.not_mem_nil hb).elim, hok, .of_eq hg⟩
  have told : ∀ b o, (if b = a then H a else none) = some o → H b = some o := fun b o e => by
    split at e
    · rename_i z; rw [z]; exact e
    · cases e
  have iv : @Iv (TbC.tabs T) K (fun _ => none) (fun b => if b = a then H a else none) H := by
    refine @Bs.iv _ _ _ (TbC.tabs T) (@Bs.mk (TbC.tabs T) _ _ told (fun b ps e => ?_) (fun p hp => ?_) trivial)
    · have e : (if b = a then H a else none) = some (HO.tbl ps) := e
      split at e
      · obtain ⟨ob, z⟩ := hf _ e; cases z
      · cases e
    · exact TabS.nil (tabAt (hT p hp)).2
  have prom : @spF (TbC.tabs T) K FF0 [.ref a] H (fun v _ => v = .bl true) (fun _ _ _ => False) :=
    ⟨_, _, [.val (.scr ns)], [], _, iv, @ArgR.val (TbC.tabs T) K _ _ _ _ _ _ (.scr hS) (@ArgR.nil (TbC.tabs T) K _), fun e he => (List.not_mem_nil he).elim, hF0 ns hl, fun u c' G' H' _ _ _ t => by cases t; rfl⟩
  refine codeAny_mono ((F _ inB (dictK hns) tabB).run callerA [] s H ⟨[.ref a], []⟩ [.ref a] [.ref a] _ _ hr rfl e0 (hbind s (.ref a)) (.cons rfl .nil) prom) fun r s' z => ?_
  match r, z with
  | .error e, z => exact z.elim
  | .ok (.ret u), z =>
    obtain ⟨v, H', os, bare, un, hok', rv, q⟩ := z
    subst q
    cases (show u = Value.bool true from rv)
    -- tables grow, all else stays
    have stays : ∀ b o, b ∉ cs.map (·.2) → s.heap.get? b = some o → s'.heap.get? b = some o := fun b o nb e => by
      cases q : H b with
      | none => exact un.keep b o e q (fun y => (List.not_mem_nil y).elim) (List.not_mem_nil)
      | some u =>
        rcases hA b (by rw [q]; simp) with y | y
        · rw [y] at q e
          obtain ⟨ob, eu⟩ := hf u q
          subst eu
          have after := hok' a _ (un.frzs a ob _ q)
          have before := hok a _ q
          cases (show some o = some ob from e.symm.trans before.1)
          rw [y]; exact after.1
        · exact absurd y nb
    have grown : ∀ p ∈ cs, ∃ more : Array Value, s'.heap.get? p.2 = some (PySem.W.tabObj more) := fun p hp => by
      obtain ⟨more, z⟩ := un.tbls p.2 #[] (tabH p hp)
      exact ⟨_, hok' p.2 _ z⟩
    refine ⟨rfl, ⟨fun b o e => ?_, fun b o e => ?_⟩, os, bare⟩
    · by_cases nb : b ∈ cs.map (·.2)
      · obtain ⟨p, hp, rfl⟩ := List.mem_map.mp nb
        obtain ⟨bigger, hm⟩ := grown p hp
        cases (show some o = some (PySem.W.tabObj #[]) from e.symm.trans (empty p hp))
        exact .inr (.inl ⟨((codes p hp).tab (empty p hp)).isCodeTable, rfl, #[], bigger, rfl, by rw [Array.empty_append]; exact hm⟩)
      · exact .inl (stays b o nb e)
    · by_cases nb : b ∈ cs.map (·.2)
      · obtain ⟨p, hp, rfl⟩ := List.mem_map.mp nb
        obtain ⟨bigger, hm⟩ := grown p hp
        exact ⟨_, hm⟩
      · exact ⟨o, stays b o nb e⟩
theorem start_tabL (hT : ∀ p ∈ T, p.1 ∈ cs.map (·.2)) (KX : K.In s.heap) (hns : s.heap.Ns mainGlobals mg) (hb : s.heap.Ns builtinsNs mb) (hbb : ∀ x : Str, x ≠ "__name__" → mb x = bootBuiltins x) (hlim : s.heap.NoLimit) (hg : s.gens = #[])
    (empty : ∀ p ∈ cs, s.heap.get? p.2 = some (PySem.W.tabObj #[])) (new : ∀ p ∈ cs, K.lookup p.2 = none) (codes : ∀ p ∈ cs, PySem.W.CodeHd s.heap p.1 p.2)
    (blt : ∃ (bm : Addr) (ob : Obj), mg "__builtins__" = some (.ref bm) ∧ bm ≠ builtinsNs ∧ s.heap.get? bm = some ob ∧ ob.cls = .type "module" ∧ ob.dict = some builtinsNs ∧ ob.data = .plain)
    (ha : s.heap.get? a = some { cls := .type "list", data := .seq vs.toArray }) (hi : IntsAre vs ns) (hl : ns.length ≤ 63) (hr : Room k callerA)
    {FF0 : FF} (hF0 : ∀ ns : List Int, ns.length ≤ 63 → FF0 [.val (.scr ns)] = some (.ok (.val (.bl true)) none)) (F : ∀ base : Heap, K.In base → base.Ns mainGlobals mg → (∀ p ∈ cs, TabB base mg p.1 p.2) → FnG P w K mg base CX0 k fa fd [x] (@spF (TbC.tabs T) K FF0)) (hbind : ∀ (s : Shared) (u : Value), BindsTo s fd ⟨[u], []⟩ [(x, u)]) :
    codeAny (model P w) callerA (.call (.ref fa) ⟨[.ref a], []⟩) (fun r s' => r = .ok (.ret (.bool true)) ∧ OldK s.heap s'.heap ∧ s'.os = s.os ∧ AllBare s'.gens) s := by
  have rv := vals_ints hi
  have line : ns.length ≤ sizeLine := Nat.le_trans hl (by decide)
  have noT : a ∉ cs.map (·.2) := fun z => by
    obtain ⟨p, hp, e⟩ := List.mem_map.mp z
    have q := empty p hp
    rw [e, ha] at q
    cases Option.some.inj q
  have tabOf : ∀ {b : Addr}, b ∈ cs.map (·.2) → s.heap.get? b = some (PySem.W.tabObj #[]) := fun {b} hb => by
    obtain ⟨p, hp, rfl⟩ := List.mem_map.mp hb
    exact empty p hp
  have inT : ∀ p ∈ cs, p.2 ∈ cs.map (·.2) := fun p hp => List.mem_map.mpr ⟨p, hp, rfl⟩
  cases hk : K.lookup a with
  | some o =>
    have e := KX a o hk
    rw [ha] at e
    cases Option.some.inj e
    refine start_tabs hT KX hns hb hbb hlim hg empty new codes blt ha hl hr hF0 F hbind (fun b => if b ∈ cs.map (·.2) then some (.tbl #[]) else none) (fun b u z => ?_) (fun p hp => if_pos (inT p hp)) (fun b z => .inr (Classical.byContradiction fun n => z (if_neg n))) (fun z => absurd (if_neg noT) z) (fun o z => ?_) (.inr fun H' => .inr ⟨_, vs.toArray, _, hk, rfl, rfl, rfl, ?_, by simpa using rv⟩)
    · have z : (if b ∈ cs.map (·.2) then some (HO.tbl #[]) else none) = some u := z
      split at z
      · rename_i hb
        cases z
        exact tabOf hb
      · cases z
    · have z : (if a ∈ cs.map (·.2) then some (HO.tbl #[]) else none) = some o := z
      rw [if_neg noT] at z; cases z
    · rw [List.size_toArray, hi.length]; exact line
  | none =>
    let S : HO := .frz { cls := .type "list", data := .seq vs.toArray } (.lst (ns.map V.int))
    refine start_tabs hT KX hns hb hbb hlim hg empty new codes blt ha hl hr hF0 F hbind (fun b => if b = a then some S else if b ∈ cs.map (·.2) then some (.tbl #[]) else none) (fun b u z => ?_) (fun p hp => ?_) (fun b z => ?_) (fun _ => hk) (fun o z => ?_) (.inl ⟨{ cls := .type "list", data := .seq vs.toArray }, ?_⟩)
    · have z : (if b = a then some S else if b ∈ cs.map (·.2) then some (HO.tbl #[]) else none) = some u := z
      split at z
      · rename_i hb
        cases z
        subst hb
        exact ⟨ha, by rw [List.length_map]; exact line, vs, _, rv, ha⟩
      · split at z
        · rename_i hb
          cases z
          exact tabOf hb
        · cases z
    · show (if p.2 = a then _ else _) = _
      have off : p.2 ≠ a := fun z => noT (by rw [← z]; exact inT p hp)
      rw [if_neg off, if_pos (inT p hp)]
    · by_cases h1 : b = a
      · exact .inl h1
      · refine .inr (Classical.byContradiction fun n => z ?_)
        show (if b = a then _ else _) = _
        rw [if_neg h1, if_neg n]
    · have z : (if a = a then some S else _) = some o := z
      rw [if_pos rfl] at z
      exact ⟨_, (Option.some.inj z).symm⟩
    · show (if a = a then (if a = a then some S else _) else none) = _
      rw [if_pos rfl, if_pos rfl]
end
/-- what the head leaves of a law with lambdas -/
theorem walkT {FF0 : FF} (hF0 : ∀ (t : TbC) (ns : List Int), ns.length ≤ 63 → FF0 [.val (.scr ns)] = some (.ok (.val (.bl true)) none)) {l : PySem.W.OpenLaw} {k : Nat} {q : Program} {loose : List Str} {XP : (Str → Option Value) → Heap → Prop} {YP : World → Heap → Prop} {d : DefRec} {K : Params → PySem.W.Frag} {x : Str}
    (hn : l.most = some 63) (hdf : d.params.defaults = []) (hr : Room k callerA) (hY : ∀ (w : World) (h : Heap), YP w h → (K w.params).In h)
    (F : ∀ (w : World) (mg : Str → Option Value) (fa : Addr) (h : Heap), YP w h → (K w.params).In h → h.Ns mainGlobals mg → mg d.name = some (.ref fa) →
      ∃ (fd : FuncData) (cs : List (Addr × Addr)) (T : List (Addr × Str)), (∀ p ∈ T, p.1 ∈ cs.map (·.2)) ∧ (∀ p ∈ cs, h.get? p.2 = some (PySem.W.tabObj #[])) ∧ (∀ p ∈ cs, (K w.params).lookup p.2 = none) ∧ (∀ p ∈ cs, PySem.W.CodeHd h p.1 p.2) ∧
        (∀ (s : Shared) (u : Value), BindsTo s fd ⟨[u], []⟩ [(x, u)]) ∧ ∀ base : Heap, (K w.params).In base → base.Ns mainGlobals mg → (∀ p ∈ cs, TabB base mg p.1 p.2) → FnG l.prog w (K w.params) mg base CX0 k fa fd [x] (@spF (TbC.tabs T) (K w.params) FF0)) :
    PySem.W.WalkO q loose XP YP l.row.toRowW d [] (fun f vs => PySem.call f vs) := by
  refine Att.attach_call hn hdf fun w s₀ s₁ mg mb fa o pm cd doc a vs ns G Y ho hd hcd hmg hobj hints hlen hg => ?_
  obtain ⟨fd, cs, T, hT, empty, new, codes, hbd, hF⟩ := F w mg fa _ Y (hY w _ Y) G.T.g hmg
  exact start_tabL hT (hY w _ Y) G.T.g G.T.b G.T.builtins G.T.nolimit hg empty new codes G.T.bmain hobj hints hlen hr (hF0 (TbC.tabs T)) hF hbd
end DF

set_option linter.all false
set_option maxRecDepth 100000
set_option maxHeartbeats 4000000
/-! functions that end with an error; what a lambda gave -/
namespace DF
open PySem PySem.Spec PyProof.Rows L2 TX LamX
theorem FnG.of {P : Program} {w : World} {K : PySem.W.Frag} {mg : Str → Option Value} {base : Heap} {CX : CXT} {k : Nat} {f : Addr} {fd : FuncData} {ps : List Str} {sp : Sp} (h : FnOk P w K mg base CX k f fd ps sp) : FnG P w K mg base CX k f fd ps sp :=
  ⟨h.len, fun A out s H ar us vs Q E room _ e0 bind vals want => h.run A out s H ar us vs Q E room e0 bind vals want⟩
/-- f ends with this error -/
def Er {α : Type} (x : FM α) (Γ : EnvF) (c f : Str) (d : D) : Prop := ∃ Γ', x Γ = some (.ex c f d Γ')
section
variable [TbC] {α β : Type} {Γ : EnvF} {c f : Str} {d : D} {fa fb : FE} {fs fr : FA} {ft : FT} {a b : FS}
theorem er_bind {x : FM α} {k : α → FM β} (h : Er x Γ c f d) : Er (FM.bind x k) Γ c f d := by
  obtain ⟨Γ', e⟩ := h
  exact ⟨Γ', by unfold FM.bind; rw [e]⟩
theorem er_then {x : FM α} {k : α → FM β} (h : X x Γ fun v Γ1 => Er (k v) Γ1 c f d) : Er (FM.bind x k) Γ c f d := by
  obtain ⟨v, Γ1, e, Γ2, e2⟩ := h
  exact ⟨Γ2, by unfold FM.bind; rw [e]; exact e2⟩
theorem er_seq (h : Er a Γ c f d) : Er (fSeq a b) Γ c f d := er_bind h
theorem er_seq2 (h : X a Γ fun v Γ1 => v = .nx ∧ Er b Γ1 c f d) : Er (fSeq a b) Γ c f d := er_then (h.imp fun v g p => by obtain ⟨rfl, p⟩ := p; exact p)
theorem er_ifS (h : X ft Γ fun k Γ1 => (k = true → Er a Γ1 c f d) ∧ (k = false → Er b Γ1 c f d)) : Er (fIfS ft a b) Γ c f d := er_then (h.imp fun k g p => by
  cases k with
  | true => exact p.1 rfl
  | false => exact p.2 rfl)
theorem er_raise {c' f' : Str} (h : X (fV fa) Γ fun d' _ => c' = c ∧ f' = f ∧ d' = d) : Er (fRaise c' f' fa) Γ c f d := er_then (h.imp fun v g p => by obtain ⟨rfl, rfl, rfl⟩ := p; exact ⟨g, rfl⟩)
theorem er_ret (h : Er fa Γ c f d) : Er (fRet fa) Γ c f d := er_bind h
theorem er_fV (h : Er fa Γ c f d) : Er (fV fa) Γ c f d := er_bind h
theorem er_fVs (h : Er fs Γ c f d) : Er (fVs fs) Γ c f d := er_bind h
theorem er_asg {i : Nat} (h : Er fa Γ c f d) : Er (fAsg i fa) Γ c f d := er_bind h
theorem er_make {cn : Str} {F : FF} (h : Er fs Γ c f d) : Er (fMake cn F fs) Γ c f d := er_bind (er_fVs h)
theorem er_cons (h : Er fa Γ c f d) : Er (fCons fa fr) Γ c f d := er_bind h
theorem er_cons2 (h : X fa Γ fun _ Γ1 => Er fr Γ1 c f d) : Er (fCons fa fr) Γ c f d := er_then (h.imp fun v g p => er_bind p)
theorem er_cons2v (h : X (fV fa) Γ fun _ Γ1 => Er fr Γ1 c f d) : Er (fCons fa fr) Γ c f d := by
  obtain ⟨v, Γ1, e, p⟩ := h
  unfold fV FM.bind at e
  cases ea : fa Γ with
  | none => rw [ea] at e; cases e
  | some r =>
    rw [ea] at e
    cases r with
    | ex _ _ _ _ => cases e
    | ok w Γ2 =>
      cases w with
      | val d0 => cases e; exact er_cons2 ⟨_, _, ea, p⟩
      | slot i => cases e
      | own o => cases e
theorem er_args {F : FF} (h : Er fs Γ c f d) : Er (fCall F fs) Γ c f d := er_bind h
theorem er_call {F : FF} (h : X fs Γ fun vs Γ1 => ∃ as o, argsOf vs Γ1 = some (as, .none) ∧ F as = some (.ex c f d o)) : Er (fCall F fs) Γ c f d := er_then (h.imp fun v g p => by
  obtain ⟨as, o, e1, e2⟩ := p
  exact ⟨g, by unfold callF; rw [e1]; simp only [e2, putBack, Option.map_some]⟩)
/-- a def that lends nothing -/
theorem er_def {k n : Nat} {as : List Sl} (hk : as.length = k) (hl : lent as = false) (h : Er b (as ++ List.replicate (n - as.length) .no) c f d) : defF k n b as = some (.ex c f d none) := by
  obtain ⟨Γ', e⟩ := h
  unfold defF
  rw [if_pos hk, e]
  simp only [endO, hl]
  rfl
theorem fE {F : FF} {as : List Sl} {v : Vr} {o : Option OD} (h : okF F as = some (.ok v o)) : F as = some (.ok v o) := by
  obtain ⟨v', o', e, e2⟩ := okF_some h
  cases e
  exact e2
theorem fpE {F : FF} {as : List Sl} {Φ : Vr → Option OD → Prop} (h : Fp (okF F) as Φ) : Fp F as Φ := by
  obtain ⟨v, o, e, p⟩ := h
  exact ⟨v, o, fE e, p⟩
/-- f(lambda: e), by what e gave -/
theorem xv_lam {B : FE → FS} {n : Nat} {e : FE} {Φ : D → EnvF → Prop} (r : Option (Rt Vr)) (he : e (Γ.map hideO) = r) (h : ∃ d Γ', B (fAct n r) (.exc :: List.replicate (n - 1) .no) = some (.ok (.rt (.val d)) Γ') ∧ Φ d Γ) : X (fV (fLam B n e)) Γ Φ := by
  obtain ⟨d, Γ', e1, p⟩ := h
  refine ⟨d, Γ, ?_, p⟩
  unfold fV FM.bind fLam
  rw [he, e1]
  rfl
end
end DF

set_option linter.all false
set_option maxRecDepth 100000
set_option maxHeartbeats 4000000
/-! a def held in a local name: told as the datum `.cls` of its name -/
namespace DF
open PySem PySem.Spec PyProof.Rows L2 TX LamX
variable [TbC]
section
variable {X : Cx}
def tCallL (i : Nat) (f : Addr) (sp : Sp) (E : XK) (t : TA) : TE := fun σ H Q => σ[i]? = some (some (.ref f)) ∧ tCall sp [] E t σ H Q
theorem pe_callL {CX : CXT} {k i : Nat} {f : Addr} {fd : FuncData} {ps : List Str} {sp : Sp} {E : XK} {x : Str} {p pos : Pos} {e : Expr} {es : List Expr} {t : TA} (F : FnOk X.prog X.w X.K X.mg X.base CX k f fd ps sp) (hr : Room k X.A) (hN : X.N[i]? = some x) (hv : Vis X.env.scope x) (hk : PySem.W.keepIn X.K (.ref f) = true) (hb : Binds X.K fd ps []) (hx : Passes CX X E)
    (ha : PA X (e :: es) t) (hdb : (x == ("__debug__" : Str)) = false := by decide) (hcd : (x == ("__classdict__" : Str)) = false := by decide) (he : starEach (e :: es) X.env = (false, eval e X.env) :: starEach es X.env := by rfl) (hpl : (backTo pos (starEach es X.env)).any (·.1) = false := by rfl) :
    PE X (.Call (.Name x p) (e :: es) [] pos) (tCallL i f sp E t) := by
  refine ⟨fun pins s σ H Q I h => ?_⟩
  obtain ⟨hs, ht⟩ := h
  refine wpAny_Call_Name_kw (thn ((pe_var (pos := p) hN hv hdb hcd).run pins s σ H (fun v H1 => v = .ref f ∧ H1 = H) I ⟨.ref f, hs, rfl, rfl⟩) fun u s1 ⟨v, H1, I1, r1, q1⟩ => ?_)
  obtain ⟨rfl, rfl⟩ := q1
  cases r1
  refine PySem.W.callWith_K (h₀ := X.base) I.ok.mod.kin hk (thn (ha.run pos pins s1 σ _ _ I1 ht) fun us s1 ⟨vs, H1, I1, r, q⟩ => ⟨I1.kIn, ?_⟩) he hpl
  exact run_fn F hr hb .nil hx I1 r q
end
section
variable {K : PySem.W.Frag} {P : List Addr} {Γ Γ' : EnvF} {W : WX} {t : TA} {fs : FA} {E : XK} {Φ : D → EnvF → Prop}
def fCallL (fn : Str) (F : FF) (i : Nat) (a : FA) : FE := fun Γ => match Γ[i]? with
  | some (.val (.cls x)) => if x = fn then fCall F a Γ else none
  | _ => none
theorem sim_callL {fn : Str} {f : Addr} {F : FF} {i : Nat} (ct : CT K fn f) (hE : ∀ cls d σ H, W cls d σ H → E cls d H) (h : SimA K W t fs) : SimE K W (tCallL i f (spF K F) E t) (fCallL fn F i fs) := fun P σ c G H Γ L s r e Q post => by
  unfold fCallL at e
  split at e
  · rename_i x ei
    split at e
    · rename_i hx
      subst hx
      obtain ⟨v, h1, h2⟩ := s.r.get ei
      cases h2 with
      | cls ct' =>
        have := ct'.one ct
        subst this
        exact ⟨h1, sim_call hE h P σ c G H Γ L s r e Q post⟩
    · cases e
  · cases e
theorem xv_callL {fn : Str} {F : FF} {i : Nat} (e : Γ[i]? = some (.val (.cls fn))) (h : X (fV (fCall F fs)) Γ Φ) : X (fV (fCallL fn F i fs)) Γ Φ := by
  obtain ⟨v, g, e1, p⟩ := x_ofV (ΦV := ValK Φ) h
  exact x_V ⟨v, g, by unfold fCallL; simp only [e, if_pos]; exact e1, p⟩
theorem er_callL {fn : Str} {F : FF} {i : Nat} {c f : Str} {d : D} (e : Γ[i]? = some (.val (.cls fn))) (h : Er (fCall F fs) Γ c f d) : Er (fCallL fn F i fs) Γ c f d := by
  obtain ⟨g, e1⟩ := h
  exact ⟨g, by unfold fCallL; simp only [e, if_pos]; exact e1⟩
end
end DF

set_option linter.all false
set_option maxRecDepth 100000
set_option maxHeartbeats 4000000
/-! list.index of plain values; str.partition -/
namespace DF
open PySem PySem.Spec PyProof.Rows L2 TX LamX
section
variable {X : Cx} {K : PySem.W.Frag}
theorem index_K (hK : X.K = K) : MtR X "list.index" (rIndex K) := by subst hK; exact mt_index
end
def flatL : List D → Option (List V)
  | [] => some []
  | x :: xs => (flatD x).bind fun v => (flatL xs).map (v :: ·)
def firstAt (y : V) : List V → Option Nat
  | [] => none
  | v :: vs => if eqV v y = true then some 0 else (firstAt y vs).map (· + 1)
def indexD : D → List D → Option D
  | .lst ds, [y] => (flatD y).bind fun v => (flatL ds).bind fun vs => (firstAt v vs).map fun j => .int (j : Nat)
  | _, _ => none
theorem flatD_V {x : D} {v : V} (h : flatD x = some v) : flatV v = true := by
  unfold flatD at h
  split at h <;> first | (cases h; rfl) | cases h
theorem flatL_V : ∀ {ds : List D} {vs : List V}, flatL ds = some vs → vs.all flatV = true
  | [], vs, h => by cases h; rfl
  | x :: xs, vs, h => by
    unfold flatL at h
    obtain ⟨v, e1, h⟩ := Option.bind_eq_some_iff.mp h
    obtain ⟨us, e2, rfl⟩ := Option.map_eq_some_iff.mp h
    rw [List.all_cons, flatD_V e1, flatL_V e2]
    rfl
theorem firstAt_at {y : V} : ∀ {vs : List V} {j : Nat}, firstAt y vs = some j → ∃ z, vs[j]? = some z ∧ eqV z y = true ∧ ∀ (m : Nat) (z' : V), m < j → vs[m]? = some z' → eqV z' y = false
  | [], j, h => by cases h
  | v :: vs, j, h => by
    unfold firstAt at h
    split at h
    · rename_i e
      cases h
      exact ⟨v, rfl, e, fun m z' hm => by omega⟩
    · rename_i e
      obtain ⟨i, e2, rfl⟩ := Option.map_eq_some_iff.mp h
      obtain ⟨z, h1, h2, h3⟩ := firstAt_at e2
      refine ⟨z, h1, h2, fun m z' hm hz => ?_⟩
      cases m with
      | zero => cases hz; simpa using e
      | succ m => exact h3 m z' (by omega) hz
section
variable [TbC] {K : PySem.W.Frag} {G : Hp}
theorem flatD_at {u : V} {x : D} {v : V} (h : At K G u x) (e : flatD x = some v) : u = v := by
  unfold flatD at e
  split at e <;> first | (cases e; cases h; rfl) | cases e
theorem flatL_at : ∀ {us : List V} {ds : List D} {vs : List V}, AtL K G us ds → flatL ds = some vs → us = vs
  | _, [], vs, h, e => by cases h; cases e; rfl
  | _, x :: xs, vs, h, e => by
    cases h with
    | cons h1 h2 =>
      unfold flatL at e
      obtain ⟨v, e1, e⟩ := Option.bind_eq_some_iff.mp e
      obtain ⟨us, e2, rfl⟩ := Option.map_eq_some_iff.mp e
      rw [flatD_at h1 e1, flatL_at h2 e2]
theorem sim_index : SimM K (rIndex K) indexD := by
  intro x xs z e G H u us i hu l Q q
  have bs := i
  have i := bs.i
  unfold indexD at e
  split at e
  · rename_i ds y
    obtain ⟨v, ey, e⟩ := Option.bind_eq_some_iff.mp e
    obtain ⟨vs, es, e⟩ := Option.bind_eq_some_iff.mp e
    obtain ⟨j, ej, rfl⟩ := Option.map_eq_some_iff.mp e
    obtain ⟨w, ew, hw⟩ := atl1 l; subst ew
    cases hu with
    | lst hp l2 =>
      have := flatL_at l2 es; subst this
      have := flatD_at hw ey; subst this
      obtain ⟨z, h1, h2, h3⟩ := firstAt_at ej
      exact ⟨_, _, _, j, z, rfl, rfl, ext_lst i hp, flatD_V ey, flatL_V es, h1, h2, h3, q _ G H (PG.refl i) (.int _)⟩
  · cases e
/-! str.partition -/
abbrev rPartn : V → List V → Hp → VK → Prop := fun x xs H Q => ∃ a b, x = .str a ∧ xs = [.str b] ∧ (b.length == 0) = false ∧ a.length ≤ sizeLine ∧
    ∀ p, H p = none → Q (.ref p) (upd H p (.tup [.str (Txt.partition a b).1, .str (Txt.partition a b).2.1, .str (Txt.partition a b).2.2]))
def partnD : D → List D → Option D
  | .str a, [.str b] => if b.length ≠ 0 ∧ a.length ≤ 16777216 then some (.tup [.str (Txt.partition a b).1, .str (Txt.partition a b).2.1, .str (Txt.partition a b).2.2]) else none
  | _, _ => none
theorem sim_partition : SimM K rPartn partnD := by
  intro x xs z e G H u us i hu l Q q
  have bs := i
  have i := bs.i
  unfold partnD at e
  split at e
  · split at e
    · rename_i a b hl
      cases e; cases hu
      obtain ⟨w, ew, hw⟩ := atl1 l; subst ew; cases hw
      refine ⟨_, _, rfl, rfl, by simpa using hl.1, by rw [sizeLine_eq]; exact hl.2, fun p hp => ?_⟩
      have gn := PG.new (G := G) (o := .tup [.str (Txt.partition a b).1, .str (Txt.partition a b).2.1, .str (Txt.partition a b).2.2]) i hp
      exact q _ _ _ gn (.tup (.inl (.inl upd_same)) (.cons (.str _) (.cons (.str _) (.cons (.str _) .nil))))
    · cases e
  · cases e
end
end DF

set_option linter.all false
set_option maxRecDepth 100000
set_option maxHeartbeats 4000000
/-! {} as a value: the datum .dct [] -/
namespace DF
open PySem PySem.Spec PyProof.Rows L2 TX LamX
variable [TbC] {K : PySem.W.Frag} {W : WX}
theorem sim_dnew : SimE K W tDNewK (fC (.dct [])) := fun P σ c G H Γ L s => by
  show Run vrR K P W σ c G H L (fun Q => tDNewK σ H Q) (some (.ok (.val (D.dct [])) Γ))
  refine Run.pure s fun Q q => fun p hp => ?_
  have gn := PG.new (G := G) (o := .dK []) s.iv.i hp
  exact q (.ref p) _ _ gn (.dct upd_same .nil)
end DF

set_option linter.all false
set_option maxRecDepth 100000
set_option maxHeartbeats 4000000
/-! x.pop(i) of a list of one's own -/
namespace DF
open PySem PySem.Spec PyProof.Rows L2 TX LamX
variable [TbC] {K : PySem.W.Frag} {W : WX} {G : Hp} {Γ : EnvF} {tb : TE} {fb : FE} {Φ : D → EnvF → Prop}
theorem AtL.erase : ∀ {us : List V} {ds : List D} (_ : AtL K G us ds) (n : Nat), AtL K G (us.eraseIdx n) (ds.eraseIdx n)
  | _, _, .nil, _ => .nil
  | _, _, .cons h t, 0 => t
  | _, _, .cons h t, n + 1 => .cons h (AtL.erase t n)
def fPopAt (i : Nat) (b : FE) : FE := hasLst i (FM.bind (fV b) fun y Γ => match lstAt i Γ, y with
  | some (k, ds), .int j => if -(2 ^ 63) ≤ j ∧ j < 2 ^ 63 then (seqIndex? j ds.length).bind fun n => (ds[n]?).map fun d => .ok (.val d) (Γ.set i (.own k (.lst (ds.eraseIdx n)))) else none
  | _, _ => none)
theorem sim_popAt {i : Nat} (hb : SimE K W tb fb) : SimE K W (tBM K "list" rPopAt (tVar i) (tCons tb tNil)) (fPopAt i fb) := fun P σ c G H Γ L s r e Q post => by
  obtain ⟨e, p, vs0, hp, hv0⟩ := hasLst_at s e
  refine ⟨.ref p, hp, tyV_lst hv0, ?_⟩
  rcases FM.bind_some e with ⟨y, Γ1, e1, e2⟩ | ⟨cn', fl, d, Γ1, e1, er⟩
  · refine sim_val hb P σ c G H Γ L s _ e1 _ ?_
    intro u c1 G1 H1 L1 g1 s1 e1' r1
    have r1 : At K G1 u y := r1
    cases el : lstAt i Γ1 with
    | none => rw [el] at e2; cases e2
    | some kd =>
      obtain ⟨k, ds⟩ := kd
      rw [el] at e2
      obtain ⟨ei, vs, hv, l⟩ := lstAt_at s1 hp el
      cases y with
      | int j =>
        cases r1
        have e2 : (if -(2 ^ 63) ≤ j ∧ j < 2 ^ 63 then (seqIndex? j ds.length).bind fun n => (ds[n]?).map fun d => Rt.ok (Vr.val d) (Γ1.set i (.own k (.lst (ds.eraseIdx n)))) else none) = some r := e2
        split at e2
        · rename_i hj
          obtain ⟨n, en, e2⟩ := Option.bind_eq_some_iff.mp e2
          obtain ⟨d, ed, er⟩ := Option.map_eq_some_iff.mp e2
          subst er
          obtain ⟨w, h1, h2⟩ := l.get ed
          obtain ⟨L2', g2, s2, n2⟩ := set_own_core (ho := .lst (vs.eraseIdx n)) s1 ei hp (o' := .lst (ds.eraseIdx n)) ⟨_, upd_same, AtL.erase l n⟩
          exact ⟨p, vs, j, n, w, rfl, rfl, hv, hj.1, hj.2, by rw [l.length]; exact en, h1, post w _ _ _ L2' (g1.trans' s.iv g2 (fun _ z => z) fun b z => .inl (by unfold TL at z ⊢; rwa [e1'] at z)) s2 (n2.trans e1') (show At K G1 w d from h2)⟩
        · cases e2
      | _ => cases e2
  · subst er
    exact sim_val hb P σ c G H Γ L s _ e1 _ post
theorem xv_popAt {i k : Nat} {ds : List D} (e0 : lstAt i Γ = some (k, ds)) (h : X (fV fb) Γ fun y Γ' => ∃ (k : Nat) (ds : List D) (n : Nat) (d : D) (j : Int) (Γ2 : EnvF), y = .int j ∧ lstAt i Γ' = some (k, ds) ∧ (-(2 ^ 63) ≤ j ∧ j < 2 ^ 63) ∧ seqIndex? j ds.length = some n ∧ ds[n]? = some d ∧ Γ'.set i (.own k (.lst (ds.eraseIdx n))) = Γ2 ∧ Φ d Γ2) : X (fV (fPopAt i fb)) Γ Φ := by
  obtain ⟨y, g, e, k, ds, n, d, j, Γ2, rfl, e1, hj, e2, e3, e4, p⟩ := h
  subst e4
  exact x_V ⟨.val d, _, by unfold fPopAt hasLst FM.bind; simp only [e0, e, e1, hj, e2, e3, and_self, if_pos, Option.bind_some, Option.map_some], p⟩
end DF

set_option linter.all false
set_option maxRecDepth 100000
set_option maxHeartbeats 4000000
/-! an error that is told: for defs that are handed a caught error -/
namespace TX
open PySem PySem.Spec PyProof.Rows L2
/-- at a: an error of the class at C, its dict at dd -/
def exa (a C dd : Addr) : HO := .ext fun h => ∃ (o : Obj) (vs : Array Value), h.get? a = some o ∧ o.cls = .ref C ∧ o.dict = some dd ∧ o.data = Data.fields vs
theorem exa_at {P : Program} {w : World} {H : Hp} {h : Heap} {a C dd : Addr} (k : HOk P w H h) (e : H a = some (exa a C dd)) : ∃ (o : Obj) (vs : Array Value), h.get? a = some o ∧ o.cls = .ref C ∧ o.dict = some dd ∧ o.data = Data.fields vs := by
  have z := k a _ e
  unfold exa at z
  exact z.1
theorem exa_ok {P : Program} {w : World} {H : Hp} {h : Heap} {a C dd : Addr} {o : Obj} {vs : Array Value} (e1 : h.get? a = some o) (e2 : o.cls = .ref C) (e3 : o.dict = some dd) (e4 : o.data = Data.fields vs) : ObjOk P w H h a (exa a C dd) :=
  ⟨⟨o, vs, e1, e2, e3, e4⟩, ⟨o, e1⟩, fun h1 h2 ⟨o, vs, z1, z2, z3, z4⟩ k => ⟨o, vs, k o z1, z2, z3, z4⟩⟩
section
variable {X : Cx} {pins : List (Addr × Obj)} {σ : L2.St} {H : Hp} {s : Shared}
theorem exa_inst {a C dd : Addr} {fs : List (Str × V)} (I : Inv X pins σ H s) (ha : H a = some (exa a C dd)) (hd : H dd = some (.xd fs)) :
    ∃ (ox od : Obj) (mA : Str → Option Value), PySem.W.InstAt s.heap a ox C (some od) ∧ (∀ n, PySem.W.lookIn n od = some (mA n)) ∧ ∀ f, RelO (fs.lookup f) (mA f) := by
  obtain ⟨o, vs, e1, e2, e3, e4⟩ := exa_at I.hok ha
  have hx : ObjOk X.prog X.w H s.heap dd (.xd fs) := I.hok dd _ hd
  obtain ⟨mA, hns, hr⟩ := hx
  obtain ⟨od, ho, hl⟩ := lookIn_ns hns
  exact ⟨o, od, mA, ⟨e1, e2, by unfold PySem.W.notCls; rw [e4] <;> rfl, by rw [e3]; exact ho⟩, hl, hr⟩
def rIsT (K : PySem.W.Frag) : List V → Hp → VK → Prop := fun xs H Q => ∃ (a D dd : Addr) (c : V) (cv : Value) (b : Bool) (fs : List (Str × V)), ExcC K D ∧ (PySem.W.clsIn K D).isSome = true ∧ xs = [.ref a, c] ∧ (∀ u, L2.RelV c u → u = cv) ∧ PySem.W.kitOne K (.ref D) cv = some b ∧ H a = some (exa a D dd) ∧ H dd = some (.xd fs) ∧ Q (.bl b) H
theorem call_isT : CallR X (.builtin "isinstance") (rIsT X.K) := by
  rintro pins s σ H xs us Q I r ⟨a, D, dd, c, cv, b, fs, C, ci, rfl, hcv, e, ha, hd, q⟩
  cases r with
  | cons rx rr =>
    cases rr with
    | cons rt rn =>
      cases rn
      cases rx
      have := hcv _ rt
      subst this
      obtain ⟨ox, od, mA, J, _, _⟩ := exa_inst I ha hd
      exact PySem.W.kia_one (PySem.W.kitx_exc (od := some od) ci C.hg C.hk C.hs C.ha C.hn C.ht C.hm) I.kIn J e (fun z => nomatch z) fun tk => ⟨.bl b, H, Inv.kept I fun x x_1 z => z, rfl, q⟩
def tXfT (K : PySem.W.Frag) (n : Str) (te : TE) : TE := fun σ H Q => te σ H fun x H1 => ∃ (a C dd : Addr) (fs : List (Str × V)) (v : V), x = .ref a ∧ XfC K C ∧ PySem.W.findIn K (.ref C) n = some none ∧ H1 a = some (exa a C dd) ∧ H1 dd = some (.xd fs) ∧ fs.lookup n = some v ∧ Q v H1
theorem pe_xfT {e : Expr} {te : TE} {pos : Pos} {n : Str} (he : PE X e te) (hb : attributeBase e n X.env (eval e X.env) = eval e X.env := by rfl) : PE X (.Attribute e n pos) (tXfT X.K n te) := by
  refine ⟨fun pins s σ H Q I h => ?_⟩
  refine attr_of hb (thn (he.run pins s σ H _ I h) fun u s1 hh => ?_)
  obtain ⟨x, H1, I1, rx, a, C, dd, fs, v, ex, T, hno, ha, hd, l, q⟩ := hh
  subst ex
  obtain rfl : u = Value.ref a := rx
  obtain ⟨ox, od, mA, J, hl, hr⟩ := exa_inst I1 ha hd
  obtain ⟨u, hu, ru⟩ := RelO.some_of (v := v) (o := mA n) (by rw [← l]; exact hr n)
  exact HandSPX.exc_get I1.kIn J T.ga T.gg T.exC (PySem.W.findObj_own T.hdC hno rfl (by rw [hl, hu])) (handed_of ru) ⟨v, H1, I1.tok _, ru, q⟩
end
end TX

set_option linter.all false
set_option maxRecDepth 100000
set_option maxHeartbeats 4000000
/-! list.count of plain values -/
namespace DF
open PySem PySem.Spec PyProof.Rows L2 TX LamX
section
variable {X : Cx} {K : PySem.W.Frag}
def rCntF (K : PySem.W.Frag) : V → List V → Hp → VK → Prop := fun x xs H Q => ∃ (a : Addr) (ys : List V) (y : V), x = V.ref a ∧ xs = [y] ∧ SqL K H a ys ∧ flatV y = true ∧ ys.all flatV = true ∧ Q (.int (ys.countP (fun z => eqV z y) : Nat)) H
theorem count_vals {y : V} : ∀ {ys : List V} {us : List Value}, Vals ys us → ys.all flatV = true → us.countP (eqU y) = ys.countP (fun z => eqV z y)
  | _, _, .nil, _ => rfl
  | _, _, .cons r t, f => by
    rw [List.all_cons, Bool.and_eq_true] at f
    rw [List.countP_cons, List.countP_cons, count_vals t f.2, eqU_of r f.1]
theorem mt_lcountF : MtR X "list.count" (rCntF X.K) := by
  intro pins s σ H x xs v us Q I rx rxs h
  obtain ⟨a, ys, y, rfl, rfl, hs, fy, fys, q⟩ := h
  cases rx
  cases rxs with
  | cons ry rt =>
    rename_i uy ut
    cases rt
    obtain ⟨its, rv, ⟨⟨cls, dd, data, sl⟩, n, ho, hc, hdn, hd⟩, hlen⟩ := I.list hs
    simp only at hc hd
    subst hc hd
    refine call_meets PySem.F.slot_list_count ⟨_, ho, rfl⟩ PySem.F.entry_list_count (PySem.F.args_list_count_2 _ _)
      (SeqAt.list_countAt a its.toArray n dd sl uy (eqU y)) ⟨ho, fun u' hu' => mem_eqAt ry fy rv fys u' (by simpa using hu'), ?_⟩
    have ec : its.toArray.toList.countP (eqU y) = ys.countP (fun z => eqV z y) := count_vals rv fys
    refine ⟨.int (ys.countP (fun z => eqV z y) : Nat), H, I.tok _, ⟨s.toks, ?_⟩, q⟩
    show Value.int ((its.toArray.toList.countP (eqU y) : Nat) : Int) s.toks = Value.int ((ys.countP (fun z => eqV z y) : Nat) : Int) s.toks
    rw [ec]
theorem lcount_K (hK : X.K = K) : MtR X "list.count" (rCntF K) := by subst hK; exact mt_lcountF
end
def lcountD : D → List D → Option D
  | .lst ds, [y] => (flatD y).bind fun v => (flatL ds).map fun vs => .int (vs.countP (fun z => eqV z v) : Nat)
  | _, _ => none
theorem sim_lcount [TbC] {K : PySem.W.Frag} : SimM K (rCntF K) lcountD := by
  intro x xs z e G H u us i hu l Q q
  have bs := i
  have i := bs.i
  unfold lcountD at e
  split at e
  · rename_i ds y
    obtain ⟨v, ey, e⟩ := Option.bind_eq_some_iff.mp e
    obtain ⟨vs, es, rfl⟩ := Option.map_eq_some_iff.mp e
    obtain ⟨w, ew, hw⟩ := atl1 l; subst ew
    cases hu with
    | lst hp l2 =>
      have := flatL_at l2 es; subst this
      have := flatD_at hw ey; subst this
      exact ⟨_, _, _, rfl, rfl, ext_lst i hp, flatD_V ey, flatL_V es, q _ G H (PG.refl i) (.int _)⟩
  · cases e
end DF

set_option linter.all false
set_option maxRecDepth 100000
set_option maxHeartbeats 4000000
/-! a def called from a suite, that is handed the caught error: the error is pinned in its body -/
namespace TX
open PySem PySem.Spec PyProof.Rows L2 LamX
structure FnQ (P : Program) (w : World) (K : PySem.W.Frag) (mg : Str → Option Value) (base : Heap) (k : Nat) (f : Addr) (fd : FuncData) (ps : List Str) (a : Addr) (oe : Obj) (sp : Sp) : Prop where
  len : ∀ vs H Q E, sp vs H Q E → vs.length = ps.length
  run : ∀ (A : Around) (out : List Env) (s : Shared) (H : Hp) (ar : Args) (us : List Value) (vs : List V) (Q : VK) (E : XK), L2H.RoomH k A → A.guards = some [] → L2H.PinOk out H s (a, oe) → Env0 P w K mg base A out s H → BindsTo s fd ar (ps.zip us) → Vals vs us → sp vs H Q E →
    codeAny (model P w) A (.call (.ref f) ar) (CR CX0 out P w H s Q E) s
section
variable {P : Program} {w : World} {K : PySem.W.Frag} {mg : Str → Option Value} {base : Heap} {a : Addr} {oe : Obj}
theorem okQ {x q : Str} {st : Stmt} {f : Addr} {fd : FuncData} {N ps : List Str} {k : Nat} {sp : Sp} (F : Fun K x q st f fd) (S : FnScope N ps (defScope st)) (len : ∀ vs H Q E, sp vs H Q E → vs.length = ps.length)
    (body : ∀ (cd : Value) (A : Around) (out : List Env) (s : Shared) (H : Hp) (vs : List V) (Q : VK) (E : XK), L2H.RoomH k (A.deeper (envOfC q (defScope st) s.heap.objs.size f cd)) → A.guards = some [] → sp vs H Q E →
      ∃ t, PSs (L2H.cxH CX0 P w K mg base N q (defScope st) f cd A out s H E (a, oe)) (defBody st) t ∧ t { nx := fun _ H' => Q .non H', rt := Q } (start N vs) H) : FnQ P w K mg base (k + 1) f fd ps a oe sp := by
  obtain ⟨_, _, _, _, _, _, cd, _, _, rfl, at_f, code⟩ := F.ex
  constructor
  · exact len
  intro A out s H ar us vs Q E room calm pin e0 bind vals want
  have old : ∀ b o, base.get? b = some o → s.heap.get? b = some o := fun b o e => (e0.bs b o e).1
  have inK := e0.mod.kin.keeps old
  have slots : ∀ y ∈ ps.zip us, (defScope st).names.lookup y.1 = some .local ∨ ((defScope st).names.lookup y.1 = some .cell ∧ ((cellsFrom (s.heap.objs.size + 1) (defScope st).names []).lookup y.1).isSome = true) := by
    rintro ⟨y, v⟩ hy
    exact (S.par y (List.of_mem_zip hy).1).elim .inl fun c => .inr ⟨c, PySem.W.cellsFrom_some _ _ _ (.inl c)⟩
  refine codeAny_call_function room.depth (inK _ _ at_f) rfl S.co S.gen rfl (PySem.W.codeRec_of inK code) (bind _ _ _ _ (wpAny_newFunctionEnv_cells S.kind slots ?_))
  rintro env rfl s1 made
  refine ⟨(e0.mod.nolimit.keeps old).keeps made.toInCall.keep, codeAny_func ?_⟩
  obtain ⟨t, rules, reading⟩ := body cd A out s H vs Q E (room.deeper _) calm want
  have inv := L2H.inv_startH (CX := CX0) (E := E) S pin e0 (len _ _ _ _ want) vals made
  refine wpAny_mono (rules.run [] s1 (start N vs) H _ inv reading) ?_ fun _ _ z => z
  intro fl s2 z
  match fl, z with
  | .ret u, ⟨v, _, H2, J, rel, q⟩ => exact ⟨v, H2, J.os, J.bare, J.base, J.hok, rel, q⟩
  | .next, ⟨_, H2, J, q⟩ => exact ⟨V.non, H2, J.os, J.bare, J.base, J.hok, rfl, q⟩
  | .brk, ⟨_, _, _, q⟩ => exact q.elim
  | .cont, ⟨_, _, _, q⟩ => exact q.elim
end
section
variable {X : Cx} {pins : List (Addr × Obj)} {σ : L2.St} {H : Hp} {s : Shared} {a : Addr} {oe : Obj}
theorem run_fnQ {Q : VK} {k : Nat} {f : Addr} {fd : FuncData} {ps : List Str} {sp : Sp} {us : List Value} {vs : List V} (F : FnQ X.prog X.w X.K X.mg X.base k f fd ps a oe sp) (hr : L2H.RoomH k X.A) (calm : X.A.guards = some []) (hb : L2.Binds X.K fd ps [])
    (hp : (a, oe) ∈ X.pn ++ pins) (I : Inv X pins σ H s) (r : Vals vs us) (h : sp vs H Q E0) : wpAny (model X.prog X.w) X.A (call (.ref f) us) (EP X pins σ Q) X.xe s := by
  have hl : us.length = ps.length := by rw [← r.length]; exact F.len _ _ _ _ h
  obtain ⟨g, fr, nl, nf, nc⟩ := I.pin _ hp
  have pin : L2H.PinOk X.stack H s (a, oe) := ⟨g, fr, fun hm => (List.mem_cons.mp (I.stkSub a hm)).elim nl nf, nc⟩
  refine wpAny_call (codeAny_mono (F.run X.A X.stack s _ ⟨us, []⟩ us vs _ E0 hr calm pin I.env0 (by have := hb s us I.kIn (by rw [List.append_nil]; exact hl); rwa [List.append_nil] at this) r h) fun r s' hq => ?_)
  cases r with
  | error e => exact (hq : CX0 _ _ _ _ _ _).elim
  | ok fl =>
    cases fl with
    | ret u => exact I.after hq
    | next => exact False.elim hq
    | brk => exact False.elim hq
    | cont => exact False.elim hq
theorem pin_inst {C dd : Addr} {fs : List (Str × V)} (I : Inv X pins σ H s) (hp : (a, oe) ∈ X.pn) (hz : Zc (.ref C) (some dd) oe) (hf : ∃ vs, oe.data = Data.fields vs) (hd : H dd = some (.xd fs)) :
    ∃ (od : Obj) (mA : Str → Option Value), PySem.W.InstAt s.heap a oe C (some od) ∧ (∀ n, PySem.W.lookIn n od = some (mA n)) ∧ ∀ f, RelO (fs.lookup f) (mA f) := by
  have e1 := (I.pin (a, oe) (List.mem_append_left _ hp)).1
  obtain ⟨vs, e4⟩ := hf
  have hx : ObjOk X.prog X.w H s.heap dd (.xd fs) := I.hok dd _ hd
  obtain ⟨mA, hns, hr⟩ := hx
  obtain ⟨od, ho, hl⟩ := lookIn_ns hns
  exact ⟨od, mA, ⟨e1, hz.1, by unfold PySem.W.notCls; rw [e4] <;> rfl, by rw [hz.2]; exact ho⟩, hl, hr⟩
/-- isinstance(e, c), the error pinned -/
theorem call_isQ {K : PySem.W.Frag} {cls : Value} {d : Option Addr} (hK : X.K = K) (hp : (a, oe) ∈ X.pn) (hz : Zc cls d oe) (hf : ∃ vs, oe.data = Data.fields vs) : CallR X (.builtin "isinstance") (rIsX K a cls d) := by
  subst hK
  rintro pins s σ H xs us Q I r ⟨D, dd, c, cv, b, fs, rfl, rfl, C, ci, rfl, hcv, e, hd, q⟩
  cases r with
  | cons rx rr =>
    cases rr with
    | cons rt rn =>
      cases rn
      cases rx
      have := hcv _ rt
      subst this
      obtain ⟨od, mA, J, _, _⟩ := pin_inst I hp hz hf hd
      exact PySem.W.kia_one (PySem.W.kitx_exc (od := some od) ci C.hg C.hk C.hs C.ha C.hn C.ht C.hm) I.kIn J e (fun z => nomatch z) fun tk => ⟨.bl b, H, Inv.kept I fun x x_1 z => z, rfl, q⟩
theorem pe_xfQ {K : PySem.W.Frag} {cls : Value} {d : Option Addr} {e : Expr} {pos : Pos} {n : Str} {i : Nat} (hK : X.K = K) (hp : (a, oe) ∈ X.pn) (hz : Zc cls d oe) (hf : ∃ vs, oe.data = Data.fields vs) (he : PE X e (tVar i))
    (hb : attributeBase e n X.env (eval e X.env) = eval e X.env := by rfl) : PE X (.Attribute e n pos) (tXfE K a cls d n i) := by
  subst hK
  constructor
  rintro pins s σ H Q I ⟨at_i, C, dd, fs, v, rfl, T, hno, rfl, hd, l, q⟩
  refine attr_of hb (thn (he.run pins s σ H (fun x H1 => x = .ref a ∧ H1 = H) I ⟨_, at_i, rfl, rfl⟩) fun u s1 hh => ?_)
  obtain ⟨x, H1, I1, rx, ex, eh⟩ := hh
  subst ex eh
  obtain rfl : u = Value.ref a := rx
  obtain ⟨od, mA, J, hl, hr⟩ := pin_inst I1 hp hz hf hd
  obtain ⟨u, hu, ru⟩ := RelO.some_of (v := v) (o := mA n) (by rw [← l]; exact hr n)
  exact HandSPX.exc_get I1.kIn J T.ga T.gg T.exC (PySem.W.findObj_own T.hdC hno rfl (by rw [hl, hu])) (handed_of ru) ⟨v, _, I1.tok _, ru, q⟩
/-- f(e) from the suite that holds the error -/
theorem pe_callQ {pn : List (Addr × Obj)} {k : Nat} {f : Addr} {fd : FuncData} {q x : Str} {e : Expr} {p pos : Pos} {sp : Sp} {t : TA}
    (F : FnQ X.prog X.w X.K X.mg X.base k f fd [q] a oe sp) (hr : Room k X.A) (calm : X.A.guards = some []) (hg : Gl X x) (hm : X.mg x = some (.ref f)) (hk : PySem.W.keepIn X.K (.ref f) = true) (hb : L2.Binds X.K fd [q] [])
    (ha : PA (X.suite a ((a, oe) :: pn)) [e] t) (hdb : (x == ("__debug__" : Str)) = false := by decide) (he : starEach [e] X.env = (false, eval e X.env) :: starEach [] X.env := by rfl) :
    PE (X.suite a ((a, oe) :: pn)) (.Call (.Name x p) [e] [] pos) (tCall sp [] E0 t) := by
  refine ⟨fun pins s σ H Q I h => ?_⟩
  refine wpAny_Call_Name_kw (ld_glob I hg hm ?_ hdb)
  refine PySem.W.callWith_K (h₀ := X.base) I.ok.mod.kin hk (thn (ha.run pos pins s σ H _ I h) fun us s1 ⟨vs, H1, I1, r, want⟩ => ⟨I1.kIn, ?_⟩) he
  have want : sp vs H1 Q E0 := by
    rw [← List.append_nil vs]
    exact want
  exact run_fnQ (X := X.suite a ((a, oe) :: pn)) F ⟨hr.dp, hr.un⟩ calm hb (List.mem_append_left _ List.mem_cons_self) I1 r want
end
end TX
namespace DF
open PySem PySem.Spec PyProof.Rows L2 TX LamX
/-- the promise of such a def -/
def spZ (K : PySem.W.Frag) (a : Addr) (cls : Value) (d : Option Addr) (FX : Str → Str → D → FF) : Sp := fun vs H Q E => ∃ (t : TbC) (C dd : Addr) (cn f : Str) (fv : V) (dt : D), cls = .ref C ∧ d = some dd ∧ CT K cn C ∧ t.xa = a ∧
  (∀ G H, t.Z G H → H dd = some (.xd [(f, fv)]) ∧ At K G fv dt) ∧ @spF t K (FX cn f dt) vs H Q E
theorem fnZ {P : Program} {w : World} {K : PySem.W.Frag} {mg : Str → Option Value} {base : Heap} {k : Nat} {f : Addr} {fd : FuncData} {ps : List Str} {a : Addr} {cls : Value} {d : Option Addr} {FX : Str → Str → D → FF} {oe : Obj}
    (h : ∀ (t : TbC) (C dd : Addr) (cn fn : Str) (fv : V) (dt : D), cls = .ref C → d = some dd → CT K cn C → t.xa = a → (∀ G H, t.Z G H → H dd = some (.xd [(fn, fv)]) ∧ At K G fv dt) → FnQ P w K mg base k f fd ps a oe (@spF t K (FX cn fn dt))) : FnQ P w K mg base k f fd ps a oe (spZ K a cls d FX) :=
  ⟨fun vs H Q E ⟨t, C, dd, cn, fn, fv, dt, e1, e2, ct, ea, hz, z⟩ => (h t C dd cn fn fv dt e1 e2 ct ea hz).len vs H Q E z,
   fun A out s H args us vs Q E hr hgd hp he hb hv ⟨t, C, dd, cn, fn, fv, dt, e1, e2, ct, ea, hz, z⟩ => (h t C dd cn fn fv dt e1 e2 ct ea hz).run A out s H args us vs Q E hr hgd hp he hb hv z⟩
def fCallX (F : FF) (i : Nat) : FE := fun Γ => if atX i Γ = true then (match F [.exc] with
  | some (.ok (.val d) none) => some (.ok (.val d) Γ)
  | _ => none) else none
theorem sim_callX [t : TbC] {K : PySem.W.Frag} {W : WX} {FX : Str → Str → D → FF} {cn f : Str} {C dd : Addr} {i : Nat} {fv : V} {dt : D} (ct : CT K cn C) (hz : ∀ G H, TbC.Z G H → H dd = some (.xd [(f, fv)]) ∧ At K G fv dt) :
    SimE K W (tCall (spZ K TbC.xa (.ref C) (some dd) FX) [] E0 (tCons (tVar i) tNil)) (fCallX (FX cn f dt) i) := fun P σ c G H Γ L s r e Q post => by
  unfold fCallX at e
  split at e
  · rename_i hx
    split at e
    · rename_i dv eF
      cases e
      refine ⟨.ref t.xa, s.r.getX (atX_at hx), ?_⟩
      show spZ K TbC.xa (.ref C) (some dd) FX ([V.ref t.xa] ++ []) H Q E0
      rw [List.append_nil]
      refine ⟨t, C, dd, cn, f, fv, dt, rfl, rfl, ct, rfl, hz, G, c, [.exc], [], _, s.iv, .exc .nil, fun e he => (List.not_mem_nil he).elim, eF, ?_⟩
      intro u c1 G1 H1 g1 iv1 _ ra
      have ra : At K G1 u dv := ra
      have gr : Grow (TL L) c G H c1 G1 H1 := Grow.trans' s.iv Grow.refl g1 (fun _ z => z) fun b z => (List.not_mem_nil (show b ∈ ([] : List Addr) from z)).elim
      obtain ⟨gg, gh, gw, go, gf, gn⟩ := g1
      refine post u c1 G1 H1 L gr ⟨s.r.mono gg, s.nd, fun e he => ?_, iv1, fun p hp => gr.n p (s.pa p hp)⟩ rfl ra
      have z := s.ow e he
      rw [(gf e.1 (fun z => by cases z) (by rw [z]; simp)).1]
      exact z
    · cases e
  · cases e
theorem xv_callX [TbC] {F : FF} {Γ : EnvF} {Φ : D → EnvF → Prop} {i : Nat} {d : D} (e : Γ[i]? = some .exc) (eF : F [.exc] = some (.ok (.val d) none)) (h : Φ d Γ) : X (fV (fCallX F i)) Γ Φ :=
  x_V ⟨.val d, Γ, by unfold fCallX atX; rw [e]; simp only [if_pos, eF], h⟩
end DF
namespace DF
open PySem PySem.Spec PyProof.Rows L2 TX LamX
variable [TbC] {K : PySem.W.Frag} {W : WX} {G : Hp} {Γ : EnvF} {t : TA} {fs : FA} {Φ : Vr → EnvF → Prop}
/-- x + [..], x a list of one's own: a new one -/
def fAddO (i : Nat) (a : FA) : FE := hasLst i (FM.bind (fVs a) fun ys Γ => match lstAt i Γ with
  | some (_, ds) => if ds.length + ys.length ≤ 16777216 then some (.ok (.own (.lst (ds ++ ys))) Γ) else none
  | none => none)
theorem sim_addO {i : Nat} (h : SimA K W t fs) : SimE K W (tOp (rAddU K) (tVar i) (tLst t)) (fAddO i fs) := fun P σ c G H Γ L s r e Q post => by
  obtain ⟨e, p, vs0, hp, hv0⟩ := hasLst_at s e
  refine ⟨.ref p, hp, ?_⟩
  rcases FM.bind_some e with ⟨y, Γ1, e1, e2⟩ | ⟨cn', fl, d, Γ1, e1, er⟩
  · refine sim_vals h P σ c G H Γ L s _ e1 _ ?_
    intro us c1 G1 H1 L1 g1 s1 e1' r1
    have r1 : AtL K G1 us y := r1
    cases el : lstAt i Γ1 with
    | none => rw [el] at e2; cases e2
    | some kd =>
      obtain ⟨k, ds⟩ := kd
      rw [el] at e2
      obtain ⟨ei, vs, hv, l⟩ := lstAt_at s1 hp el
      have e2 : (if ds.length + y.length ≤ 16777216 then some (Rt.ok (Vr.own (.lst (ds ++ y))) Γ1) else none) = some r := e2
      split at e2
      · rename_i hl
        cases e2
        refine ⟨by rw [AtL.length r1, sizeLine_eq]; omega, fun q hq => ?_⟩
        have gn := PG.new (G := G1) (o := .lst us) s1.iv.i hq
        have s2 := s1.pg gn
        have np : p ≠ q := fun z => by rw [z, hq] at hv; cases hv
        refine .inr (.inr (.inl ⟨p, q, vs, us, rfl, rfl, by rw [upd_ne np]; exact hv, upd_same, by rw [AtL.length l, AtL.length r1, sizeLine_eq]; exact hl, fun x hx => ?_⟩))
        have g2 : Grow (TL L) c G H c1 _ _ := g1.trans' s.iv (gn.grow (T := TL L1) s1.iv) (fun _ z => z) fun b z => .inl (by unfold TL at z ⊢; rwa [e1'] at z)
        refine Run.fresh (o := .lst (ds ++ y)) (ho := .lst (vs ++ us)) (tx := fun _ => True) s2 hx ⟨_, upd_same, (l.append r1).mono gn.g⟩ fun b c' G' H' L' g' s' e' r' => post b c' G' H' L' ?_ s' (e'.trans e1') (r'.back g2.n)
        exact g2.trans' s.iv g' (fun _ z => z) fun b z => .inl (by unfold TL at z ⊢; rwa [e1'] at z)
      · cases e2
  · subst er
    exact sim_vals h P σ c G H Γ L s _ e1 _ post
theorem x_addO {i k : Nat} {ds : List D} (e0 : lstAt i Γ = some (k, ds)) (h : X (fVs fs) Γ fun ys Γ' => ∃ (k : Nat) (ds : List D), lstAt i Γ' = some (k, ds) ∧ ds.length + ys.length ≤ 16777216 ∧ Φ (.own (.lst (ds ++ ys))) Γ') : X (fAddO i fs) Γ Φ := by
  obtain ⟨y, g, e, k, ds, e1, hl, p⟩ := h
  exact ⟨_, g, by unfold fAddO hasLst FM.bind; simp only [e0, e, e1, hl, if_pos], p⟩
end DF
namespace DF
open PySem PySem.Spec PyProof.Rows L2
theorem units128H {A : Around} {k : Nat} (hr : L2H.RoomH k A) : A.units + 128 < cLine := by have := hr.un; omega
end DF

set_option linter.all false
set_option maxRecDepth 100000
set_option maxHeartbeats 4000000
/-! a dict of the module whose keys are ints; repr of {} -/
namespace DF
open PySem PySem.Spec PyProof.Rows L2
def KeysI : List DictEntry → Prop
  | [] => True
  | e :: r => (∃ i t, e.key = .int i t ∧ e.hash = hashInt i) ∧ KeysI r
theorem KeysI.each : ∀ {l : List DictEntry}, KeysI l → ∀ e ∈ l, ∃ i t, e.key = .int i t ∧ e.hash = hashInt i
  | _ :: _, ⟨h, _⟩, _, .head _ => h
  | _ :: _, ⟨_, r⟩, _, .tail _ m => r.each _ m
def KDcI (K : PySem.W.Frag) (a : Addr) (i : Int) (v : V) : Prop :=
  ∃ es n u, K.lookup a = some ⟨.type "dict", none, .dict es n, #[]⟩ ∧ KeysI es.toList ∧ findBy keyIs es (Sum.inl i) = some u ∧ RelV v u
def rIxI (K : PySem.W.Frag) : R2 := fun x y H Q => ∃ p i v, x = .ref p ∧ y = .int i ∧ KDcI K p i v ∧ Q v H
theorem mapI {prog : Program} {w : World} {h : Heap} {a : Addr} {K : PySem.W.Frag} {es : Array DictEntry} {n : Nat} (X : K.In h) (at_ : K.lookup a = some ⟨.type "dict", none, .dict es n, #[]⟩) (ks : KeysI es.toList) : h.MapOf (mixKind prog w) a (findBy keyIs es) := by
  refine ⟨_, es, n, X _ _ at_, ⟨rfl, rfl, rfl⟩, rfl, fun e he => ?_, fun _ => rfl⟩
  obtain ⟨i, t, e1, e2⟩ := ks.each e (Array.mem_toList_iff.mpr he)
  exact ⟨.inl i, by rw [e1]; exact keyIs_int i t, e2⟩
theorem ixI_K {X : Cx} {K : PySem.W.Frag} (hK : X.K = K) : IxR X (rIxI K) := by
  subst hK
  intro val sl pins s σ H x y u1 u2 Q I rx ry hh hsub
  obtain ⟨p, i, r, ex, ey, ⟨es, n, u0, at_, ks, found, ru⟩, q⟩ := hh
  subst ex ey
  cases rx
  obtain ⟨tk, e2⟩ := ry
  subst e2
  have there := mapI (prog := X.prog) (w := X.w) I.kIn at_ ks
  exact tail_any there.typeIs slot_dict_getitem.lookup (wpAny_getItem_of (knd := mixKind X.prog X.w) (k := Sum.inl i) (show (mixKind X.prog X.w).is (Sum.inl i) (.int i tk) = true from keyIs_int i tk) there found ⟨r, H, I.tok _, ru, q⟩) hsub
section
variable [TbC] {K : PySem.W.Frag}
def ixKI (nm : Str) (tb : List (Int × D)) : D → D → Option D
  | .cls n, .int z => if n = nm then tb.lookup z else none
  | _, _ => none
theorem sim_ixKI {nm : Str} {tb : List (Int × D)} {p0 : Addr} (ct : CT K nm p0) (h : ∀ z d, tb.lookup z = some d → ∃ v, KDcI K p0 z v ∧ ∀ G, At K G v d) : SimR2 K (rIxI K) (ixKI nm tb) := by
  intro x y z e G H u v bs hu hv Q q
  unfold ixKI at e
  split at e
  · split at e
    · rename_i hn
      subst hn
      cases hu with
      | cls ct' =>
        have := ct'.one ct
        subst this
        cases hv
        obtain ⟨v, h1, h2⟩ := h _ _ e
        exact ⟨_, _, v, rfl, rfl, h1, q _ G H (PG.refl bs.i) (h2 G)⟩
    · cases e
  · cases e
/-- repr({}) -/
def rRepr0 : List V → Hp → VK → Prop := fun xs H Q => ∃ p, xs = [.ref p] ∧ H p = some (.dK []) ∧ Q (.str "{}") H
theorem call_repr0 {X : Cx} (calm : X.A.guards = some []) (units : X.A.units + 128 < cLine) : CallR X (.builtin "repr") rRepr0 := by
  intro pins s σ H xs us Q I r hh
  obtain ⟨p, e, at_p, q⟩ := hh
  subst e
  obtain ⟨u, e, ru⟩ := vals1 r
  subst e
  cases ru
  obtain ⟨_, hs, vs, kv, o, es, ep, there, ex, dat, _, prs, _⟩ := I.hok p _ at_p
  cases kv
  have el : es.toList = [] := by
    cases h : es.toList with
    | nil => rfl
    | cons a b => rw [h] at prs; cases prs
  have rd : Reads s.heap (.ref p) (.dict []) (p :: [] ++ []) := .dict there ex.1 dat (by rw [el]; exact .nil) (by rw [el]; exact .nil)
  have dp : (PyData.dict []).depth ≤ 2 := by decide
  refine repr_of_reads' rd rfl (fun _ hm => ?_) calm (by omega) (fun _ _ z => z) (fun h' u tk hk => ?_) (by decide)
  · simp at hm
    rw [hm] at hs
    simp at hs
  · exact ⟨.str "{}", H, I.kept hk, ⟨_, rfl⟩, q⟩
def repr0D : List D → Option D
  | [.dct []] => some (.str "{}")
  | _ => none
theorem sim_repr0 : SimC K rRepr0 repr0D := by
  intro xs z e G H us bs l Q q
  unfold repr0D at e
  split at e
  · cases e
    obtain ⟨u, e, h⟩ := atl1 l
    subst e
    cases h with
    | dct hp hl =>
      cases hl
      exact ⟨_, rfl, bs.i _ _ hp, q _ G H (PG.refl bs.i) (.str _)⟩
  · cases e
abbrev reprZ : List D → Option D := orC reprD repr0D
theorem reprZ_of {xs : List D} {z : D} (h : reprD xs = some z) : reprZ xs = some z := by
  unfold reprZ orC
  rw [h]
theorem reprZ_dct : reprZ [.dct []] = some (.str "{}") := rfl
end
theorem reprZ_K [TbC] {X : Cx} {K : PySem.W.Frag} (hK : X.K = K) (calm : X.A.guards = some []) (units : X.A.units + 128 < cLine) : CallR X (.builtin "repr") (fun xs H Q => DF.rReprU K xs H Q ∨ rRepr0 xs H Q) := CallR.or (repr_K hK calm units) (call_repr0 calm units)
end DF

set_option linter.all false
set_option maxRecDepth 100000
set_option maxHeartbeats 4000000
/-! x not in a text -/
namespace DF
open PySem PySem.Spec PyProof.Rows L2
variable [TbC] {K : PySem.W.Frag}
def notInSD : D → D → Option D
  | .str i, .str j => some (.bl (!(!(Builtin.Str.occurrences j i 0 j.length 1).isEmpty)))
  | _, _ => none
theorem sim_notInS : SimR2 K (fun x y H Q => ∃ i j, x = .str i ∧ y = .str j ∧ Q (.bl (!(!(Builtin.Str.occurrences j i 0 j.length 1).isEmpty))) H) notInSD := by
  intro x y z e G H u v bs hu hv Q q
  cases hu with
  | str a => cases hv with
    | str b => cases e; exact ⟨a, b, rfl, rfl, q _ G H (PG.refl bs.i) (.bl _)⟩
    | _ => cases e
  | _ => cases e
/-! x in a tuple or list of plain items -/
def flF : D → Bool
  | .non | .bl _ | .int _ | .str _ => true
  | _ => false
def fvD : D → V
  | .bl b => .bl b
  | .int i => .int i
  | .str z => .str z
  | _ => .non
omit [TbC] in
theorem flF_at {G : Hp} {u : V} {x : D} (h : At K G u x) (f : flF x = true) : u = fvD x ∧ flatV u = true := by
  cases h with
  | non => exact ⟨rfl, rfl⟩
  | bl b => exact ⟨rfl, rfl⟩
  | int b => exact ⟨rfl, rfl⟩
  | str b => exact ⟨rfl, rfl⟩
  | _ => cases f
omit [TbC] in
theorem flF_all {G : Hp} : ∀ {us : List V} {ds : List D} (_ : AtL K G us ds), ds.all flF = true → us = ds.map fvD ∧ us.all flatV = true
  | _, _, .nil, _ => ⟨rfl, rfl⟩
  | _, _, .cons h t, f => by
    rw [List.all_cons, Bool.and_eq_true] at f
    obtain ⟨e1, e2⟩ := flF_at h f.1
    obtain ⟨e3, e4⟩ := flF_all t f.2
    exact ⟨by rw [List.map_cons, ← e1, ← e3], by rw [List.all_cons, e2, e4]; rfl⟩
def inFL (neg : Bool) (x : D) (ds : List D) : Option D := if flF x = true ∧ ds.all flF = true then some (.bl (if neg then !inV (fvD x) (ds.map fvD) else inV (fvD x) (ds.map fvD))) else none
def inFD (neg : Bool) : D → D → Option D
  | x, .tup ds => inFL neg x ds
  | x, .lst ds => inFL neg x ds
  | _, _ => none
theorem sim_inF {neg : Bool} : SimR2 K (rIn K neg) (inFD neg) := by
  intro x y z e G H u v bs hu hv Q q
  cases y with
  | tup ds =>
    have e : inFL neg x ds = some z := e
    unfold inFL at e
    split at e
    · rename_i f
      cases e
      cases hv with
      | tup hp l =>
        obtain ⟨e1, e2⟩ := flF_at hu f.1
        obtain ⟨e3, e4⟩ := flF_all l f.2
        refine ⟨_, _, rfl, .inr (sqT_ext hp bs.i), e2, e4, ?_⟩
        rw [e1, e3]
        exact q _ G H (PG.refl bs.i) (.bl _)
    · cases e
  | lst ds =>
    have e : inFL neg x ds = some z := e
    unfold inFL at e
    split at e
    · rename_i f
      cases e
      cases hv with
      | lst hp l =>
        obtain ⟨e1, e2⟩ := flF_at hu f.1
        obtain ⟨e3, e4⟩ := flF_all l f.2
        refine ⟨_, _, rfl, .inl (ext_lst bs.i hp), e2, e4, ?_⟩
        rw [e1, e3]
        exact q _ G H (PG.refl bs.i) (.bl _)
    · cases e
  | _ => cases e
theorem notIn_K {X : Cx} (hK : X.K = K) : OpR X (compareOp .NotIn) (rIn K true) := by subst hK; exact op_notIn_seq
end DF
namespace DF
open PySem PySem.Spec PyProof.Rows L2
theorem units64H {A : Around} {k : Nat} (hr : L2H.RoomH k A) : A.units + 64 < cLine := by have := hr.un; omega
theorem units65H {A : Around} {k : Nat} (hr : L2H.RoomH k A) : A.units + 65 < cLine := by have := hr.un; omega
end DF
namespace TX
open PySem PySem.Spec PyProof.Rows L2 LamX
section
variable {P : Program} {w : World} {K : PySem.W.Frag} {mg : Str → Option Value} {base : Heap}
/-- a def that makes lambdas and may ask repr -/
theorem okGC {x q : Str} {st : Stmt} {f c : Addr} {fd : FuncData} {N ps : List Str} {k : Nat} {sp : Sp} (F : FunC K x q st f fd c) (S : FnScope N ps (defScope st)) (len : ∀ vs H Q E, sp vs H Q E → vs.length = ps.length)
    (body : ∀ (A : Around) (out : List Env) (s : Shared) (H : Hp) (vs : List V) (Q : VK) (E : XK), Room k (A.deeper (envOfC q (defScope st) s.heap.objs.size f (.ref c))) → A.guards = some [] → sp vs H Q E →
      ∃ t, PSs (cxOf CX0 P w K mg base N q (defScope st) f (.ref c) A out s H E).nox (defBody st) t ∧ t { nx := fun _ H' => Q .non H', rt := Q } (start N vs) H) : DF.FnG P w K mg base CX0 (k + 1) f fd ps sp := by
  obtain ⟨_, _, _, _, _, _, _, _, rfl, at_f, code⟩ := F.ex
  constructor
  · exact len
  intro A out s H ar us vs Q E room calm e0 bind vals want
  have old : ∀ b o, base.get? b = some o → s.heap.get? b = some o := fun b o e => (e0.bs b o e).1
  have inK := e0.mod.kin.keeps old
  have slots : ∀ y ∈ ps.zip us, (defScope st).names.lookup y.1 = some .local ∨ ((defScope st).names.lookup y.1 = some .cell ∧ ((cellsFrom (s.heap.objs.size + 1) (defScope st).names []).lookup y.1).isSome = true) := by
    rintro ⟨y, v⟩ hy
    exact (S.par y (List.of_mem_zip hy).1).elim .inl fun c => .inr ⟨c, PySem.W.cellsFrom_some _ _ _ (.inl c)⟩
  refine codeAny_call_function room.depth (inK _ _ at_f) rfl S.co S.gen rfl (PySem.W.codeRec_of inK code) (bind _ _ _ _ (wpAny_newFunctionEnv_cells S.kind slots ?_))
  rintro env rfl s1 made
  refine ⟨(e0.mod.nolimit.keeps old).keeps made.toInCall.keep, codeAny_func ?_⟩
  obtain ⟨t, rules, reading⟩ := body A out s H vs Q E (room.deeper _) calm want
  have inv := inv_start (CX := CX0) (E := E) S room.hd e0 (len _ _ _ _ want) vals made
  refine wpAny_mono (rules.nox.run [] s1 (start N vs) H _ inv reading) ?_ fun _ _ z => z
  intro fl s2 z
  match fl, z with
  | .ret u, ⟨v, _, H2, J, rel, q⟩ => exact ⟨v, H2, J.os, J.bare, J.base, J.hok, rel, q⟩
  | .next, ⟨_, H2, J, q⟩ => exact ⟨V.non, H2, J.os, J.bare, J.base, J.hok, rfl, q⟩
  | .brk, ⟨_, _, _, q⟩ => exact q.elim
  | .cont, ⟨_, _, _, q⟩ => exact q.elim
end
end TX

set_option linter.all false
set_option maxRecDepth 100000
set_option maxHeartbeats 4000000
/-! x in a dict of the module, also where it isn't -/
namespace DF
open PySem PySem.Spec PyProof.Rows L2
def KeysAre : List DictEntry → List Str → Prop
  | [], [] => True
  | e :: r, k :: ks => (∃ t, e.key = .str k t) ∧ KeysAre r ks
  | _, _ => False
theorem KeysAre.found : ∀ {l : List DictEntry} {ks : List Str}, KeysAre l ks → ∀ z : Str, ((l.find? fun e => Value.isStrOf z e.key).map (·.val)).isSome = decide (z ∈ ks)
  | [], [], _, z => by simp
  | [], _ :: _, h, _ => h.elim
  | _ :: _, [], h, _ => h.elim
  | e :: r, k :: ks, ⟨⟨t, he⟩, h⟩, z => by
    have ih := KeysAre.found h z
    rw [List.find?_cons, he]
    by_cases hz : z = k
    · subst hz
      have : Value.isStrOf z (.str z t) = true := by simp [Value.isStrOf]
      rw [this]
      simp
    · have : Value.isStrOf z (.str k t) = false := by
        cases hh : Value.isStrOf z (.str k t) with
        | false => rfl
        | true =>
          obtain ⟨t', e'⟩ := Value.isStrOf_shape hh
          injection e' with e1 _
          exact absurd e1.symm hz
      rw [this]
      simp only [ih, List.mem_cons, hz, false_or]
def rInKB (d : Addr) (es : Array DictEntry) : R2 := fun x y H Q => ∃ z : Str, x = .str z ∧ y = .ref d ∧ Q (.bl (findBy Value.isStrOf es z).isSome) H
theorem inKB_K {X : Cx} {K : PySem.W.Frag} {w : World} {d : Addr} {es : Array DictEntry} {n : Nat} (hK : X.K = K) (hw : X.w = w) (at_d : KDict K w d es n) : OpR X (compareOp .In) (rInKB d es) := by
  subst hK hw
  intro pins s σ H x y u1 u2 Q I rx ry hh
  obtain ⟨z, ex, ey, q⟩ := hh
  subst ex ey
  obtain ⟨tk, e⟩ := rx
  subst e
  cases ry
  exact wpAny_in_of (PySem.strKind_is X.prog X.w z tk) at_d.low (PySem.W.mapOf_K (prog := X.prog) I.kIn at_d.at_ at_d.lit) ⟨.bl _, H, I.tok _, rfl, q⟩
section
variable [TbC] {K : PySem.W.Frag}
def inKB (nm : Str) (ks : List Str) : D → D → Option D
  | .str z, .cls n => if n = nm then some (.bl (decide (z ∈ ks))) else none
  | _, _ => none
theorem sim_inKB {nm : Str} {ks : List Str} {p0 : Addr} {es : Array DictEntry} (ct : CT K nm p0) (h : KeysAre es.toList ks) : SimR2 K (rInKB p0 es) (inKB nm ks) := by
  intro x y z e G H u v bs hu hv Q q
  unfold inKB at e
  split at e
  · split at e
    · rename_i hn
      subst hn
      cases e
      cases hv with
      | cls ct' =>
        have := ct'.one ct
        subst this
        cases hu
        refine ⟨_, rfl, rfl, ?_⟩
        have k := h.found
        unfold findBy
        rw [← Array.find?_toList, k]
        exact q _ G H (PG.refl bs.i) (.bl _)
    · cases e
  · cases e
end
end DF

set_option linter.all false
set_option maxRecDepth 100000
set_option maxHeartbeats 4000000
/-! calls from a def that is handed the error; isinstance against the interpreter's own classes -/
namespace TX
open PySem PySem.Spec PyProof.Rows L2 LamX
theorem pe_callQ2 {X : Cx} {a : Addr} {oe : Obj} {k : Nat} {f : Addr} {fd : FuncData} {ps : List Str} {x : Str} {e : Expr} {es : List Expr} {p pos : Pos} {sp : Sp} {t : TA}
    (F : FnQ X.prog X.w X.K X.mg X.base k f fd ps a oe sp) (hr : L2H.RoomH k X.A) (calm : X.A.guards = some []) (hp : (a, oe) ∈ X.pn) (hg : Gl X x) (hm : X.mg x = some (.ref f)) (hk : PySem.W.keepIn X.K (.ref f) = true) (hb : L2.Binds X.K fd ps [])
    (ha : PA X (e :: es) t) (hdb : (x == ("__debug__" : Str)) = false := by decide) (he : starEach (e :: es) X.env = (false, eval e X.env) :: starEach es X.env := by rfl) (hpl : (backTo pos (starEach es X.env)).any (·.1) = false := by rfl) :
    PE X (.Call (.Name x p) (e :: es) [] pos) (tCall sp [] E0 t) := by
  refine ⟨fun pins s σ H Q I h => ?_⟩
  refine wpAny_Call_Name_kw (ld_glob I hg hm ?_ hdb)
  refine PySem.W.callWith_K (h₀ := X.base) I.ok.mod.kin hk (thn (ha.run pos pins s σ H _ I h) fun us s1 ⟨vs, H1, I1, r, want⟩ => ⟨I1.kIn, ?_⟩) he hpl
  have want : sp vs H1 Q E0 := by
    rw [← List.append_nil vs]
    exact want
  exact run_fnQ (X := X) F hr calm hb (List.mem_append_left _ hp) I1 r want
theorem bt_ValueError : bootBuiltins ("ValueError" : Str) = some (Value.type "ValueError") := by decide +kernel
theorem bt_LookupError : bootBuiltins ("LookupError" : Str) = some (Value.type "LookupError") := by decide +kernel
theorem bt_ArithmeticError : bootBuiltins ("ArithmeticError" : Str) = some (Value.type "ArithmeticError") := by decide +kernel
end TX
namespace DF
open PySem PySem.Spec PyProof.Rows L2 TX LamX
def KTabT (K : PySem.W.Frag) (tb : List (Str × String × Bool)) : Prop := ∀ e ∈ tb, ∀ C, CT K e.1 C → PySem.W.kitOne K (.ref C) (.type e.2.1) = some e.2.2
def isXT (tb : List (Str × String × Bool)) (c : Str) (x : String) : Option Bool := (tb.find? fun e => e.1 == c && e.2.1 == x).map (·.2.2)
def isCT (tb : List (Str × String × Bool)) (lv : List (Str × Str)) (c f : Str) (x : String) (i : Nat) : FE := fun Γ => if (c, f) ∈ lv ∧ atX i Γ = true then (isXT tb c x).map fun b => .ok (.val (.bl b)) Γ else none
section
variable {K : PySem.W.Frag} [TbC] {W : WX} {tb : List (Str × String × Bool)} {lv : List (Str × Str)} {cn f : Str} {x : String} {C dd : Addr} {i : Nat} {fv : V} {d : D}
omit [TbC] in
theorem isKT_at (ht : KTabT K tb) (cc : CT K cn C) {b : Bool} (e : isXT tb cn x = some b) : PySem.W.kitOne K (.ref C) (.type x) = some b := by
  unfold isXT at e
  obtain ⟨p, hp, e2⟩ := Option.map_eq_some_iff.mp e
  have q := List.find?_some hp
  simp only [Bool.and_eq_true, beq_iff_eq] at q
  rw [← e2, ← q.2]
  exact ht p (List.mem_of_find?_eq_some hp) C (by rw [q.1]; exact cc)
theorem sim_isCT (ht : KTabT K tb) (hl : LTab K lv) (cc : CT K cn C) (hz : ∀ G H, TbC.Z G H → H dd = some (.xd [(f, fv)]) ∧ At K G fv d) :
    SimE K W (tCB (rIsX K TbC.xa (.ref C) (some dd)) (tCons (tVar i) (tCons (tC (.ty x)) tNil))) (isCT tb lv cn f x i) := fun P σ c G H Γ L s r e Q post => by
  unfold isCT at e
  split at e
  · rename_i hc
    obtain ⟨b, eb, er⟩ := Option.map_eq_some_iff.mp e
    subst er
    have z := hz G H s.iv.z
    have live := hl _ hc.1 C cc
    exact ⟨_, s.r.getX (atX_at hc.2), C, dd, .ty x, .type x, b, _, rfl, rfl, live.ec, live.ci, rfl, fun u h => h, isKT_at ht cc eb, z.1, post _ c G H L .refl s rfl (.bl b)⟩
  · cases e
theorem xv_isCT {b : Bool} {c : Str} {Γ : EnvF} {Φ : D → EnvF → Prop} (e : Γ[i]? = some .exc) (hl : (c, f) ∈ lv) (hk : isXT tb c x = some b) (p : Φ (.bl b) Γ) : X (fV (isCT tb lv c f x i)) Γ Φ :=
  x_V ⟨.val (.bl b), Γ, by unfold isCT atX; rw [e, if_pos ⟨hl, rfl⟩, hk]; rfl, p⟩
end
end DF

set_option linter.all false
set_option maxRecDepth 100000
set_option maxHeartbeats 4000000
/-! bool of an instance that has __len__ alone -/
namespace DF
open PySem PySem.Spec PyProof.Rows L2 TL NumText
variable [TbC]
open PySem.Sem (wp)
theorem truthy_by_len {prog : Program} {w : World} {K : PySem.W.Frag} {s : Shared} {A : Around} {E : Value → Shared → Prop} {x C f : Addr} {ox : Obj} {od : Option Obj} {Q : Bool → Shared → Prop} (X : K.In s.heap) (I : PySem.W.InstAt s.heap x ox C od) (nb : PySem.W.findIn K (.ref C) "__bool__" = some none) (T : LenC K C f)
    (h : wpAny (model prog w) A.in1 (call (.ref f) [.ref x]) (fun v s' => ∃ n t, v = .int n t ∧ (0 ≤ n ∧ n < 2 ^ 63) ∧ ∀ tk, Q (n != 0) { s' with toks := tk }) E s) : wpAny (model prog w) A (truthy (.ref x)) Q E s := by
  have asked : wpAny (model prog w) A (runValue (.builtin "len" ⟨[.ref x], []⟩)) (fun r s' => ∃ n t, r = .int n t ∧ Q (n != 0) s') E s := by
    refine wpAny_runValue (codeAny_builtin entry_len ?_)
    rw [Around.under_plainId plain_len _]
    unfold Builtin.«len»
    refine wpAny_bind (m := oneArg "len" _) (wpAny_pure ?_)
    refine wpAny_bind (m := callSpecial? (.ref x) (Str.ofString "__len__")) (PySem.W.special_fn X I T.lnF (beq_iff_eq.mp T.isF) (wpAny_mono h (fun r s' hr => ?_) fun _ _ y => y))
    obtain ⟨n, t, e, hn, q⟩ := hr
    subst e
    refine wpAny_bind (wpAny_holding (wpAny_pure (wpAny_bind (wpAny_letGo ?_))))
    show wpAny _ _ (if n < 0 then _ else _) _ _ _
    rw [if_neg (Int.not_lt.mpr hn.1)]
    show wpAny _ _ (if n ≥ 2 ^ 63 then _ else _) _ _ _
    rw [if_neg (Int.not_le.mpr hn.2)]
    exact wpAny_bind (wpAny_mkInt (wpAny_pure ⟨_, _, rfl, q _⟩))
  unfold truthy
  refine wpAny_bind (m := callSpecial? (.ref x) (Str.ofString "__bool__")) (wpAny_bind (wpAny_bind (I.type.here ((PySem.W.looks_findIn X nb).here (wpAny_pure ?_)))))
  refine wpAny_bind (wpAny_bind (I.type.here ((PySem.W.looks_findIn X T.lnF).here ?_)))
  refine wpAny_bind (wpAny_mono asked (fun r s' hr => ?_) fun _ _ y => y)
  obtain ⟨n, t, e, q⟩ := hr
  subst e
  exact wpAny_pure q
theorem bool_by_len {prog : Program} {w : World} {K : PySem.W.Frag} {s : Shared} {A : Around} {E : Value → Shared → Prop} {x C f : Addr} {ox : Obj} {od : Option Obj} {Q : Value → Shared → Prop} (X : K.In s.heap) (I : PySem.W.InstAt s.heap x ox C od) (nb : PySem.W.findIn K (.ref C) "__bool__" = some none) (T : LenC K C f)
    (h : wpAny (model prog w) A.in1.in1.in1 (call (.ref f) [.ref x]) (fun v s' => ∃ n t, v = .int n t ∧ (0 ≤ n ∧ n < 2 ^ 63) ∧ ∀ tk, Q (.bool (n != 0)) { s' with toks := tk }) E s) : wpAny (model prog w) A (call (.type "bool") [.ref x]) Q E s := by
  refine callType_codes (T := "bool") (Bi := Builtin.«object.__init__») (Q₁ := fun r s₁ => ∃ b, r = .bool b ∧ Q r s₁) PySem.F.called_bool (PySem.F.typeCall_bool_1 _) PySem.F.entry_object_init ?_ ?_
  · refine codeAny_of_tree ?_
    show wpAny _ A.in1.in1 (do checkBuiltinCall "bool.__new__" ⟨[.type "bool", .ref x], []⟩; again (.builtin "bool.__new__" ⟨[.type "bool", .ref x], []⟩)) _ _ s
    refine wpAny_bind (wpAny_of_eq (PySem.F.newCall_bool_1 _) (wpAny_pure ⟨plainId_quiet (by decide +kernel) _, codeAny_builtin PySem.F.entry_bool_new ?_⟩))
    rw [Around.under_plainId (by decide +kernel) _]
    unfold Builtin.«bool.__new__»
    obtain ⟨hp, g, d, tk, os⟩ := s
    have f1 := F.conv_sub_bool
    have key : wpAny (model prog w) A.in1.in1 (truthy (.ref x)) (fun b s' => Q (.bool b) s') E ⟨hp, g, d, tk, os⟩ := truthy_by_len X I nb T h
    repeat (any_goals (first | assumption | (with_reducible refine wpAny_mono key (fun b s' hb => ?_) fun _ _ y => y) | wp_step))
    all_goals first | exact ⟨_, rfl, hb⟩ | trace_state
  · rintro obj s₁ ⟨b, rfl, hq⟩
    exact ⟨rfl, PySem.F.args_object_init_2 _ _, object_init_meets PySem.F.called_bool.init.lookup PySem.F.called_bool.made (by decide) prog w A.in1 _ s₁ ⟨rfl, rfl, hq⟩⟩
section
variable {X : Cx}
def rBoL (C : Addr) (sp : Sp) : List V → Hp → VK → Prop := fun xs H Q => ∃ a dx fs, xs = [.ref a] ∧ H a = some (.ins C dx fs) ∧ sp [.ref a] H (fun v H' => ∃ n : Int, v = .int n ∧ (0 ≤ n ∧ n < 2 ^ 63) ∧ Q (.bl (n != 0)) H') fun _ _ _ => False
theorem call_boolL {n : Nat} {C f : Addr} {fd : FuncData} {ps : List Str} {sp : Sp} (nb : PySem.W.findIn X.K (.ref C) "__bool__" = some none) (T : LenC X.K C f) (F : FnOk X.prog X.w X.K X.mg X.base CX0 n f fd ps sp) (hb : Binds X.K fd ps []) (hr : Room (n + 3) X.A) : CallR X (.type "bool") (rBoL C sp) := by
  intro pins s σ H xs us Q I r h
  obtain ⟨a, dx, fs, rfl, ha, hsp⟩ := h
  obtain ⟨u, rfl, rx⟩ := vals1 r
  cases rx
  obtain ⟨mA, J, _⟩ := ins_get I.hok ha
  obtain ⟨od, J, _⟩ := J.look
  have hr1 : Room n X.A.in1.in1.in1 := Room.in1 (Room.in1 (Room.in1 hr))
  refine bool_by_len I.kIn J nb T ?_
  refine own_run F hb hr1 rfl I (.cons (show RelV (V.ref a) (Value.ref a) from rfl) .nil) hsp fun w' u' s' H' I' rz ⟨z, ec, hz, q⟩ => ?_
  subst ec
  obtain ⟨t, rfl⟩ := rz
  exact ⟨z, t, rfl, hz, fun tk => ⟨.bl _, H', I'.tok _, rfl, q⟩⟩
end
section
variable {K : PySem.W.Frag}
def boolL (cn : Str) (F : FF) : List D → Option D
  | [.ins c gs] => if c = cn then (match F [.val (.ins c gs)] with
    | some (.ok (.val (.int n)) none) => if 0 ≤ n ∧ n < 2 ^ 63 then some (.bl (n != 0)) else none
    | _ => none) else none
  | _ => none
theorem sim_boolL {cn : Str} {C : Addr} {F : FF} (ct : CT K cn C) : SimC K (rBoL C (spF K F)) (boolL cn F) := by
  intro xs z e G H us bs l Q q
  unfold boolL at e
  split at e
  · rename_i c gs
    split at e
    · rename_i hc
      split at e
      · rename_i n eF
        split at e
        · rename_i hn
          cases e
          obtain ⟨a, dx, fs, e1, e2, e3⟩ := self_call (Z := fun v H' => ∃ n : Int, v = .int n ∧ (0 ≤ n ∧ n < 2 ^ 63) ∧ Q (.bl (n != 0)) H') ct bs l hc eF fun w G' H' g r => by cases r; exact ⟨n, rfl, hn, q _ G' H' g (.bl _)⟩
          exact ⟨a, dx, fs, e1, e2, e3⟩
        · cases e
      · cases e
    · cases e
  · cases e
end
end DF

set_option linter.all false
set_option maxRecDepth 100000
set_option maxHeartbeats 4000000
/-! a def called from a def that is handed a lambda -/
namespace DF
open PySem PySem.Spec PyProof.Rows L2 TX LamX
def spA (K : PySem.W.Frag) (F : FF) : Sp := fun vs H Q E => ∃ t : TbC, @spF t K F vs H Q E
theorem okA {P : Program} {w : World} {K : PySem.W.Frag} {mg : Str → Option Value} {base : Heap} {CX : CXT} {k : Nat} {f : Addr} {fd : FuncData} {ps : List Str} {F : FF} (h : ∀ t : TbC, FnOk P w K mg base CX k f fd ps (@spF t K F)) : FnOk P w K mg base CX k f fd ps (spA K F) :=
  ⟨fun vs H Q E ⟨t, z⟩ => (h t).len vs H Q E z, fun A out s H args us vs Q E hr he hb hv ⟨t, z⟩ => (h t).run A out s H args us vs Q E hr he hb hv z⟩
theorem okAG {P : Program} {w : World} {K : PySem.W.Frag} {mg : Str → Option Value} {base : Heap} {CX : CXT} {k : Nat} {f : Addr} {fd : FuncData} {ps : List Str} {F : FF} (h : ∀ t : TbC, FnG P w K mg base CX k f fd ps (@spF t K F)) : FnG P w K mg base CX k f fd ps (spA K F) :=
  ⟨fun vs H Q E ⟨t, z⟩ => (h t).len vs H Q E z, fun A out s H args us vs Q E hr hgd he hb hv ⟨t, z⟩ => (h t).run A out s H args us vs Q E hr hgd he hb hv z⟩
section
variable {K : PySem.W.Frag} [TbC] {W : WX} {E : XK} {t : TA} {fs : FA}
theorem sim_callA {F : FF} (hE : ∀ cls d σ H, W cls d σ H → E cls d H) (h : SimA K W t fs) : SimE K W (tCall (spA K F) [] E t) (fCall F fs) := fun P σ c G H Γ L s r e Q post => by
  unfold fCall FM.bind at e
  cases ex : fs Γ with
  | none => rw [ex] at e; cases e
  | some r0 =>
    rw [ex] at e
    refine h P σ c G H Γ L s r0 ex _ ?_
    cases r0 with
    | ok vs Γ1 =>
      intro us c1 G1 H1 L1 g1 s1 e1 r1
      show spA K F (us ++ []) H1 Q E
      rw [List.append_nil]
      exact ⟨_, call_core s.iv g1 s1 e1 r1 hE e post⟩
    | ex cn f d Γ1 => cases e; exact post
end
end DF

set_option linter.all false
set_option maxRecDepth 100000
set_option maxHeartbeats 4000000
namespace Kq
open PySem PySem.Spec PyProof.Rows L2 DF

abbrev cs_ : List Str := ["Point"]
def xt_ : List (Str × Str × Bool) := [("InvalidNumbers", "WrongValue", true), ("InvalidNumbers", "WrongName", false), ("InvalidNumbers", "NotPossible", false), ("InvalidText", "WrongValue", true), ("InvalidText", "WrongName", false), ("InvalidText", "NotPossible", false)]
def kt_ : List (Str × Str × Bool) := [("InvalidNumbers", "InvalidNumbers", true), ("InvalidNumbers", "InvalidText", false), ("InvalidNumbers", "InvalidNumber", false), ("InvalidNumbers", "WrongValue", true), ("InvalidNumbers", "WrongName", false), ("InvalidNumbers", "NotPossible", false), ("InvalidNumbers", "NotAChange", false), ("InvalidNumbers", "OtherWorld", false), ("InvalidText", "InvalidNumbers", false), ("InvalidText", "InvalidText", true), ("InvalidText", "InvalidNumber", false), ("InvalidText", "WrongValue", true), ("InvalidText", "WrongName", false), ("InvalidText", "NotPossible", false), ("InvalidText", "NotAChange", false), ("InvalidText", "OtherWorld", false)]
def kty_ : List (Str × String × Bool) := [("InvalidNumbers", "ValueError", true), ("InvalidNumbers", "LookupError", false), ("InvalidNumbers", "ArithmeticError", false), ("InvalidText", "ValueError", true), ("InvalidText", "LookupError", false), ("InvalidText", "ArithmeticError", false)]
def lv_ : List (Str × Str) := [("InvalidNumbers", "given"), ("InvalidText", "given")]
def tb_ : ITab := [(.ty "NoneType", .ty "int", false), (.ty "NoneType", .ty "bool", false), (.ty "NoneType", .ty "tuple", false), (.ty "NoneType", .ty "str", false), (.ty "NoneType", .cls "Point", false), (.ty "bool", .ty "int", true), (.ty "bool", .ty "bool", true), (.ty "bool", .ty "tuple", false), (.ty "bool", .ty "str", false), (.ty "bool", .cls "Point", false), (.ty "int", .ty "int", true), (.ty "int", .ty "bool", false), (.ty "int", .ty "tuple", false), (.ty "int", .ty "str", false), (.ty "int", .cls "Point", false), (.ty "str", .ty "int", false), (.ty "str", .ty "bool", false), (.ty "str", .ty "tuple", false), (.ty "str", .ty "str", true), (.ty "str", .cls "Point", false), (.ty "tuple", .ty "int", false), (.ty "tuple", .ty "bool", false), (.ty "tuple", .ty "tuple", true), (.ty "tuple", .ty "str", false), (.ty "tuple", .cls "Point", false), (.ty "list", .ty "int", false), (.ty "list", .ty "bool", false), (.ty "list", .ty "tuple", false), (.ty "list", .ty "str", false), (.ty "list", .cls "Point", false), (.ty "dict", .ty "int", false), (.ty "dict", .ty "bool", false), (.ty "dict", .ty "tuple", false), (.ty "dict", .ty "str", false), (.ty "dict", .cls "Point", false), (.cls "Point", .ty "int", false), (.cls "Point", .ty "bool", false), (.cls "Point", .ty "tuple", false), (.cls "Point", .ty "str", false), (.cls "Point", .cls "Point", true)]
def B_l_sip : FS := (fSeq (fIfS (fTest (fOp gtD (fIxO 0 (fC (.int (0)))) (fC (.int (0))))) (fSeq (fAsgG (fCB divmodD (fCons (fIxO 0 (fC (.int (0)))) (fCons (fVar 1) fNil))) (pTup 2 (pCons (pSub 0 (fC (.int (0)))) (pCons (pName 3) pNil)))) (fRet (fVar 3))) fNx) (fSeq (fAsgG (fOp addD (fIxO 0 (fC (.int (2)))) (fC (.int (1)))) (pSub 0 (fC (.int (2))))) (fSeq (fAsg 2 (fOp modD (fCB intOf (fCons (fOp addD (fOp addD (fOp mulD (fIxO 0 (fC (.int (1)))) (fC (.int (48017)))) (fOp mulD (fOp mulD (fIxO 0 (fC (.int (2)))) (fIxO 0 (fC (.int (2))))) (fC (.int (211))))) (fC (.int (97)))) fNil)) (fC (.int (2147479633))))) (fSeq (fAsgG (fOp modD (fCB intOf (fCons (fOp addD (fOp mulD (fVar 2) (fOp addD (fC (.int (39019))) (fOp modD (fCB intOf (fCons (fVar 2) fNil)) (fC (.int (6007)))))) (fC (.int (131)))) fNil)) (fC (.int (2147480429)))) (pSub 0 (fC (.int (1))))) (fRet (fOp modD (fCB intOf (fCons (fOp fdivD (fIxO 0 (fC (.int (1)))) (fC (.int (640)))) fNil)) (fVar 1)))))))
def F_l_sip : FF := okF (defF 2 4 B_l_sip)
def B_l_choose : FS := (fRet (fOp ixD (fVar 1) (fCall F_l_sip (fCons (fVar 0) (fCons (fCB lenD (fCons (fVar 1) fNil)) fNil)))))
def F_l_choose : FF := okF (defF 2 2 B_l_choose)
def B_l_integer : FS := (fSeq (fIfS (fTest (fOp eqD (fCall F_l_sip (fCons (fVar 0) (fCons (fC (.int (12))) fNil))) (fC (.int (0))))) (fRet (fCall F_l_choose (fCons (fVar 0) (fCons (fLst (fCons (fOp powD (fC (.int (10))) (fC (.int (27)))) (fCons (fUn negD (fOp powD (fC (.int (10))) (fC (.int (27))))) (fCons (fOp addD (fOp mulD (fC (.int (7))) (fOp powD (fC (.int (10))) (fC (.int (17))))) (fC (.int (3)))) (fCons (fUn negD (fC (.int (99999)))) (fCons (fC (.int (12345678901))) fNil)))))) fNil)))) fNx) (fRet (fOp subD (fCall F_l_sip (fCons (fVar 0) (fCons (fC (.int (13))) fNil))) (fC (.int (6))))))
def F_l_integer : FF := okF (defF 1 1 B_l_integer)
def B_l_numbers : FS := (fRet (fCB tupOf (fCons (fLc (wRng1 (fCons (fVar 1) fNil)) (pName 2) fYes (fCall F_l_integer (fCons (fVar 0) fNil)) [2]) fNil)))
def F_l_numbers : FF := okF (defF 2 3 B_l_numbers)
def B_is_integer : FS := (fRet (fAndV (fCB (isiD cs_ tb_) (fCons (fVar 0) (fCons (fC (.ty "int")) fNil))) (fNotV (fCB (isiD cs_ tb_) (fCons (fVar 0) (fCons (fC (.ty "bool")) fNil))))))
def F_is_integer : FF := okF (defF 1 1 B_is_integer)
def B_is_numbers : FS := (fSeq (fIfS (fOr (fNot (fTru (fCB (isiD cs_ tb_) (fCons (fVar 0) (fCons (fC (.ty "tuple")) fNil))))) (fNot (fTest (fChain leD leD (fC (.int (1))) (fCB lenD (fCons (fVar 0) fNil)) (fC (.int (3))))))) (fRet (fC (.bl false))) fNx) (fRet (fCB allD (fCons (fLc (wAny (fVar 0)) (pName 1) fYes (fCall F_is_integer (fCons (fVar 1) fNil)) [1]) fNil))))
def F_is_numbers : FF := okF (defF 1 2 B_is_numbers)
def B_Point_init : FS := (fSeq (fIfS (fNot (fTru (fCall F_is_numbers (fCons (fVar 1) fNil)))) (fRaise "InvalidNumbers" "given" (fVar 1)) fNx) (fSetF "Point" "_numbers" 0 (fVar 1)))
def FE_Point_init : FF := defF 2 2 B_Point_init
def F_Point_init : FF := okF FE_Point_init
def B_l_page : FS := (fRet (fBM "str" joinD (fC (.str " ")) (fCons (fOp addD (fLst (fCons (fC (.str "grid")) (fCons (fCB strOf (fCons (fCB lenD (fCons (fVar 0) fNil)) fNil)) fNil))) (fLc (wAny (fVar 0)) (pName 1) fYes (fCB strOf (fCons (fVar 1) fNil)) [1])) fNil)))
def F_l_page : FF := okF (defF 1 2 B_l_page)
def B_Point_eq : FS := (fRet (fAndV (fCB (isiD cs_ tb_) (fCons (fVar 1) (fCons (fC (.cls "Point")) fNil))) (fOp eqD (fFld "Point" "_numbers" (fVar 0)) (fFld "Point" "_numbers" (fVar 1)))))
def F_Point_eq : FF := okF (defF 2 2 B_Point_eq)
def B_Point_numbers : FS := (fRet (fFld "Point" "_numbers" (fVar 0)))
def F_Point_numbers : FF := okF (defF 1 1 B_Point_numbers)
def B_number_text : FS := (fSeq (fAsg 1 (fCB absD (fCons (fVar 0) fNil))) (fSeq (fAsg 2 (fLstO fNil)) (fSeq (fWhile 1000000 (fTest (fOp geD (fVar 1) (fC (.int (10000000000000000000000000000000000000000000000000000000000000000))))) fNever) (fSeq (fAsg 3 (fPk (fOp addD (fCB strOf (fCons (fVar 1) fNil)) (fBM "str" joinD (fC (.str "")) (fCons (fRevL (fVar 2)) fNil))))) (fRet (fIf (fTest (fOp ltD (fVar 0) (fC (.int (0))))) (fOp addD (fC (.str "-")) (fVar 3)) (fVar 3)))))))
def F_number_text : FF := okF (defF 1 5 B_number_text)
def B_numbers_text : FS := (fRet (fBM "str" joinD (fC (.str " ")) (fCons (fLc (wAny (fVar 0)) (pName 1) fYes (fCall F_number_text (fCons (fVar 1) fNil)) [1]) fNil)))
def F_numbers_text : FF := okF (defF 1 2 B_numbers_text)
def B_Point_str : FS := (fRet (fJoined [(fC (.str "grid ")), (fFmt (fCB lenD (fCons (fFld "Point" "_numbers" (fVar 0)) fNil))), (fC (.str " ")), (fFmt (fCall F_numbers_text (fCons (fFld "Point" "_numbers" (fVar 0)) fNil)))]))
def F_Point_str : FF := okF (defF 1 1 B_Point_str)
def B_Point_len : FS := (fRet (fCB lenD (fCons (fFld "Point" "_numbers" (fVar 0)) fNil)))
def F_Point_len : FF := okF (defF 1 1 B_Point_len)
def B_number_in : FS := (fSeq (fAsg 1 (fBM "str" rmPreD (fVar 0) (fCons (fC (.str "-")) fNil))) (fSeq (fIfS (fOr (fNot (fTru (fVar 1))) (fNot (fTru (fCB allD (fCons (fLc (wAny (fVar 1)) (pName 2) fYes (fOp inSD (fVar 2) (fC (.str "0123456789"))) [2]) fNil))))) (fRet (fC .non)) fNx) (fRet (fCB intOf (fCons (fVar 0) fNil)))))
def F_number_in : FF := okF (defF 1 3 B_number_in)
def B_Point_read : FS := (fSeq (fAsg 2 (fIf (fTru (fCB (isiD cs_ tb_) (fCons (fVar 1) (fCons (fC (.ty "str")) fNil)))) (fBM "str" splitD (fVar 1) (fCons (fC (.str " ")) fNil)) (fLst fNil))) (fSeq (fAsg 3 (fCB tupOf (fCons (fLc (wAny (fSl (fVar 2) (fPart (fC (.int (2)))) fNoPart)) (pName 5) fYes (fCall F_number_in (fCons (fVar 5) fNil)) [5]) fNil))) (fSeq (fIfS (fTru (fCall F_is_numbers (fCons (fVar 3) fNil))) (fSeq (fAsg 4 (fMakeL "Point" FE_Point_init 0 (fCons (fVar 3) fNil))) (fIfS (fTest (fOp eqD (fCB (orC strOf (strID "Point" F_Point_str)) (fCons (fVar 4) fNil)) (fVar 1))) (fRet (fVar 4)) fNx)) fNx) (fRaise "InvalidText" "given" (fVar 1)))))
def FE_Point_read : FF := defF 2 6 B_Point_read
def F_Point_read : FF := okF FE_Point_read
def B_l_bent : FS := (fSeq (fPar 2 3 (fCons (fCall F_l_sip (fCons (fVar 0) (fCons (fC (.int (8))) fNil))) (fCons (fCall F_l_sip (fCons (fVar 0) (fCons (fOp addD (fCB lenD (fCons (fVar 1) fNil)) (fC (.int (1)))) fNil))) fNil))) (fSeq (fPar 4 5 (fCons (fCall F_l_choose (fCons (fVar 0) (fCons (fLst (fCons (fC (.str " ")) (fCons (fC (.str "-")) (fCons (fC (.str "1")) (fCons (fC (.str "0")) (fCons (fC (.str "3")) (fCons (fC (.str "g")) (fCons (fC (.str "\n")) (fCons (fC (.str "G")) fNil))))))))) fNil))) (fCons (fBM "str" splitD (fVar 1) (fCons (fC (.str " ")) fNil)) fNil))) (fSeq (fIfS (fTest (fOp ltD (fVar 2) (fC (.int (2))))) (fRet (fOp addD (fOp addD (fSl (fVar 1) fNoPart (fPart (fVar 3))) (fVar 4)) (fSl (fVar 1) (fPart (fVar 3)) fNoPart))) fNx) (fSeq (fIfS (fTest (fOp eqD (fVar 2) (fC (.int (2))))) (fRet (fOp addD (fSl (fVar 1) fNoPart (fPart (fVar 3))) (fSl (fVar 1) (fPart (fOp addD (fVar 3) (fC (.int (1))))) fNoPart))) fNx) (fSeq (fIfS (fTest (fOp eqD (fVar 2) (fC (.int (3))))) (fRet (fOp addD (fOp addD (fSl (fVar 1) fNoPart (fPart (fVar 3))) (fVar 4)) (fSl (fVar 1) (fPart (fOp addD (fVar 3) (fC (.int (1))))) fNoPart))) fNx) (fSeq (fAsg 6 (fCall F_l_sip (fCons (fVar 0) (fCons (fCB lenD (fCons (fVar 5) fNil)) fNil)))) (fSeq (fIfS (fTest (fOp ltD (fVar 2) (fC (.int (6))))) (fSeq (fAsg 7 (fCall F_l_choose (fCons (fVar 0) (fCons (fLst (fCons (fC (.str "-0")) (fCons (fC (.str "00")) (fCons (fC (.str "0")) (fCons (fC (.str "+3")) (fCons (fC (.str "1/2")) (fCons (fC (.str "")) (fCons (fC (.str "-")) (fCons (fC (.str "grid")) (fCons (fC (.str "3.0")) (fCons (fC (.str "12")) (fCons (fC (.str "2")) (fCons (fC (.str "3")) fNil))))))))))))) fNil)))) (fRet (fBM "str" joinD (fC (.str " ")) (fCons (fOp addD (fOp addD (fSl (fVar 5) fNoPart (fPart (fVar 6))) (fLst (fCons (fVar 7) fNil))) (fSl (fVar 5) (fPart (fOp addD (fVar 6) (fC (.int (1))))) fNoPart)) fNil)))) fNx) (fRet (fBM "str" joinD (fC (.str " ")) (fCons (fIf (fTest (fOp eqD (fVar 2) (fC (.int (6))))) (fOp addD (fSl (fVar 5) fNoPart (fPart (fVar 6))) (fSl (fVar 5) (fPart (fOp addD (fVar 6) (fC (.int (1))))) fNoPart)) (fOp addD (fOp addD (fSl (fVar 5) fNoPart (fPart (fVar 6))) (fSl (fVar 5) (fPart (fVar 6)) (fPart (fOp addD (fVar 6) (fC (.int (1))))))) (fSl (fVar 5) (fPart (fVar 6)) fNoPart))) fNil))))))))))
def F_l_bent : FF := okF (defF 2 8 B_l_bent)
def B_l_is_integer : FS := (fSeq (fAsg 1 (fIf (fTest (fOp eqD (fSl (fVar 0) fNoPart (fPart (fC (.int (1))))) (fC (.str "-")))) (fSl (fVar 0) (fPart (fC (.int (1)))) fNoPart) (fVar 0))) (fSeq (fIfS (fOr (fTest (fOp eqD (fVar 1) (fC (.str "")))) (fOr (fTest (fOp gtD (fCB lenD (fCons (fVar 1) fNil)) (fC (.int (90))))) (fTest (fOp neD (fLc (wAny (fVar 1)) (pName 2) (fTest (fOp notInSD (fVar 2) (fC (.str "0123456789")))) (fVar 2) [2]) (fLst fNil))))) (fRet (fC (.bl false))) fNx) (fRet (fOp eqD (fCB strOf (fCons (fCB intOf (fCons (fVar 0) fNil)) fNil)) (fVar 0)))))
def F_l_is_integer : FF := okF (defF 1 3 B_l_is_integer)
def B_l_read : FS := (fSeq (fAsg 1 (fBM "str" splitD (fVar 0) (fCons (fC (.str " ")) fNil))) (fSeq (fIfS (fOr (fTest (fOp ltD (fCB lenD (fCons (fVar 1) fNil)) (fC (.int (3))))) (fOr (fTest (fOp neD (fOp ixD (fVar 1) (fC (.int (0)))) (fC (.str "grid")))) (fOr (fTest (fOp (inFD true) (fOp ixD (fVar 1) (fC (.int (1)))) (fLst (fCons (fC (.str "1")) (fCons (fC (.str "2")) (fCons (fC (.str "3")) fNil)))))) (fTest (fOp neD (fCB lenD (fCons (fVar 1) fNil)) (fOp addD (fC (.int (2))) (fCB intOf (fCons (fOp ixD (fVar 1) (fC (.int (1)))) fNil)))))))) (fRet (fTup fNil)) fNx) (fSeq (fIfS (fTest (fOp neD (fLc (wAny (fSl (fVar 1) (fPart (fC (.int (2)))) fNoPart)) (pName 2) (fNot (fTru (fCall F_l_is_integer (fCons (fVar 2) fNil)))) (fVar 2) [2]) (fLst fNil))) (fRet (fTup fNil)) fNx) (fRet (fCB tupOf (fCons (fLc (wAny (fSl (fVar 1) (fPart (fC (.int (2)))) fNoPart)) (pName 2) fYes (fCB intOf (fCons (fVar 2) fNil)) [2]) fNil))))))
def F_l_read : FF := okF (defF 1 3 B_l_read)
def B_l_shown : FS := (fRet (fIf (fTru (fCB (isiD cs_ tb_) (fCons (fVar 0) (fCons (fC (.cls "Point")) fNil)))) (fOp addD (fC (.str "point ")) (fCB (orC strOf (strID "Point" F_Point_str)) (fCons (fVar 0) fNil))) (fCB reprZ (fCons (fVar 0) fNil))))
def F_l_shown : FF := okF (defF 1 1 B_l_shown)
def BQ_l_shown : FS := (fRet (fIf (fTru (fCB (isiD cs_ tb_) (fCons (fVar 0) (fCons (fC (.cls "Point")) fNil)))) (fOp addD (fC (.str "point ")) (fCB strOf (fCons (fVar 0) fNil))) (fCB reprZ (fCons (fVar 0) fNil))))
def FQ_l_shown : FF := okF (defF 1 1 BQ_l_shown)
def B_l_class (c f : Str) (d : D) : FS := (fSeq (fAsg 1 (fLst (fCons (isC kt_ lv_ c f "InvalidNumbers" 0) (fCons (isC kt_ lv_ c f "InvalidText" 0) (fCons (isC kt_ lv_ c f "InvalidNumber" 0) fNil))))) (fSeq (fAsg 1 (fOp addD (fVar 1) (fLst (fCons (isC kt_ lv_ c f "NotAChange" 0) (fCons (isC kt_ lv_ c f "OtherWorld" 0) fNil))))) (fSeq (fAsg 2 (fIf (fTest (fOp eqD (fBM "list" lcountD (fVar 1) (fCons (fC (.bl true)) fNil)) (fC (.int (1))))) (fBM "list" indexD (fVar 1) (fCons (fC (.bl true)) fNil)) (fC (.int (9))))) (fSeq (fAsg 3 (fLst (fCons (isC kt_ lv_ c f "WrongValue" 0) (fCons (isC kt_ lv_ c f "WrongName" 0) (fCons (isC kt_ lv_ c f "NotPossible" 0) fNil))))) (fSeq (fAsg 4 (fLst (fCons (isCT kty_ lv_ c f "ValueError" 0) (fCons (isCT kty_ lv_ c f "LookupError" 0) (fCons (isCT kty_ lv_ c f "ArithmeticError" 0) fNil))))) (fSeq (fIfS (fOr (fTest (fOp gtD (fVar 2) (fC (.int (4))))) (fOr (fTest (fOp neD (fVar 3) (fVar 4))) (fTest (fOp neD (fVar 3) (fLst (fCons (fOp ltD (fVar 2) (fC (.int (4)))) (fCons (fC (.bl false)) (fCons (fOp eqD (fVar 2) (fC (.int (4)))) fNil)))))))) (fRet (fLst (fCons (fC (.str "odd")) (fCons (fC (.str "")) fNil)))) fNx) (fRet (fLst (fCons (fOp ixD (fLst (fCons (fC (.str "numbers")) (fCons (fC (.str "text")) (fCons (fC (.str "number")) (fCons (fC (.str "change")) (fCons (fC (.str "world")) fNil)))))) (fVar 2)) (fCons (fCall FQ_l_shown (fCons (gvC lv_ c f "given" d 0) fNil)) fNil))))))))))
def F_l_class (c f : Str) (d : D) : FF := okF (defF 1 5 (B_l_class c f d))
def B_l_heard (act : FE) : FS := (fSeq (fTry xt_ ((["WrongValue", "WrongName", "NotPossible"], 2, fun c f d => (fRet (fCallX (F_l_class c f d) 2))) :: []) (fAsg 1 act)) (fRet (fLst (fCons (fC (.str "gave")) (fCons (fCall F_l_shown (fCons (fVar 1) fNil)) fNil)))))
def B_l_refused_right : FS := (fSeq (fAsg 1 (fLst (fCons (fC .non) (fCons (fC (.int (5))) (fCons (fC (.str "3")) (fCons (fLst (fCons (fC (.int (3))) (fCons (fUn negD (fC (.int (4)))) fNil))) (fCons (fTup fNil) (fCons (fTup (fCons (fC (.int (1))) (fCons (fC (.int (2))) (fCons (fC (.int (3))) (fCons (fC (.int (4))) fNil))))) (fCons (fTup (fCons (fC (.bl true)) fNil)) (fCons (fTup (fCons (fC (.int (1))) (fCons (fC .non) fNil))) (fCons (fTup (fCons (fC (.int (1))) (fCons (fC (.str "2")) fNil))) (fCons (fTup (fCons (fTup (fCons (fC (.int (1))) fNil)) fNil)) (fCons (fTup (fCons (fC (.int (0))) (fCons (fC (.bl false)) fNil))) (fCons (fC (.dct [])) (fCons (fTup (fCons (fC (.int (1))) (fCons (fLst (fCons (fC (.int (2))) fNil)) fNil))) fNil))))))))))))))) (fSeq (fAsg 2 (fCall F_l_choose (fCons (fVar 0) (fCons (fVar 1) fNil)))) (fSeq (fAsg 3 (fLstO (fCons (fLam B_l_heard 3 (fMake "Point" FE_Point_init (fCons (fVar 2) fNil))) fNil))) (fSeq (fDrop (fAppend 3 (fLam B_l_heard 3 (fMakeN "Point" FE_Point_init 0 1 [0] fNil (fCons (fVar 2) fNil))))) (fSeq (fAsg 1 (fLst (fCons (fC .non) (fCons (fC (.int (5))) (fCons (fC (.bl true)) (fCons (fTup (fCons (fC (.str "grid 1 5")) fNil)) (fCons (fLst (fCons (fC (.str "grid 1 5")) fNil)) (fCons (fC (.str "")) (fCons (fC (.str "grid")) (fCons (fC (.str "grid 0")) (fCons (fC (.str "grid 1 5\n")) (fCons (fC (.dct [])) (fCons (fC (.str "grid 4 1 2 3 4")) fNil))))))))))))) (fSeq (fAsg 4 (fCall F_l_choose (fCons (fVar 0) (fCons (fOp addD (fVar 1) (fLst (fCons (fC (.str "ruler + 5")) fNil))) fNil)))) (fSeq (fDrop (fAppend 3 (fLam B_l_heard 3 (fCMeth "Point" FE_Point_read (fCons (fVar 4) fNil))))) (fSeq (fDrop (fAppend 3 (fLam B_l_heard 3 (fCMethN "Point" FE_Point_read 1 [0, 1] (fCons (fVar 4) fNil))))) (fRet (fPk (fOp eqD (fVar 3) (fOp addD (fOp mulD (fLst (fCons (fLst (fCons (fC (.str "numbers")) (fCons (fCB reprZ (fCons (fVar 2) fNil)) fNil))) fNil)) (fC (.int (2)))) (fOp mulD (fLst (fCons (fLst (fCons (fC (.str "text")) (fCons (fCB reprZ (fCons (fVar 4) fNil)) fNil))) fNil)) (fC (.int (2))))))))))))))))
def F_l_refused_right : FF := okF (defF 1 5 B_l_refused_right)
def B_l_right : FS := (fSeq (fFor (wRng1 (fCons (fC (.int (4))) fNil)) (pName 1) (fSeq (fPar 2 3 (fCons (fCall F_l_numbers (fCons (fVar 0) (fCons (fOp addD (fC (.int (1))) (fCall F_l_sip (fCons (fVar 0) (fCons (fC (.int (3))) fNil)))) fNil))) (fCons (fCall F_l_numbers (fCons (fVar 0) (fCons (fOp addD (fC (.int (1))) (fCall F_l_sip (fCons (fVar 0) (fCons (fC (.int (3))) fNil)))) fNil))) fNil))) (fSeq (fAsgG (fTup (fCons (fMake "Point" F_Point_init (fCons (fVar 2) fNil)) (fCons (fCall F_l_page (fCons (fVar 2) fNil)) fNil))) (pTup 2 (pCons (pName 4) (pCons (pName 5) pNil)))) (fSeq (fIfS (fTest (fOp (orD neD (eqI cs_ tb_ "Point" F_Point_eq true)) (fCB reprD (fCons (fLst (fCons (fProp "Point" F_Point_numbers (fVar 4)) (fCons (fCB (orC strOf (strID "Point" F_Point_str)) (fCons (fVar 4) fNil)) (fCons (fCB (lenI "Point" F_Point_len) (fCons (fVar 4) fNil)) (fCons (fCB (boolL "Point" F_Point_len) (fCons (fVar 4) fNil)) fNil))))) fNil)) (fCB reprD (fCons (fLst (fCons (fVar 2) (fCons (fVar 5) (fCons (fCB lenD (fCons (fVar 2) fNil)) (fCons (fC (.bl true)) fNil))))) fNil)))) (fRet (fC (.bl false))) fNx) (fSeq (fAsg 6 (fLst (fCons (fMakeN "Point" F_Point_init 0 1 [0] fNil (fCons (fVar 2) fNil)) (fCons (fCMeth "Point" F_Point_read (fCons (fVar 5) fNil)) (fCons (fCMethN "Point" F_Point_read 1 [0, 1] (fCons (fVar 5) fNil)) fNil))))) (fSeq (fIfS (fOr (fTest (fOp (orD neD (eqI cs_ tb_ "Point" F_Point_eq true)) (fLc (wAny (fVar 6)) (pName 12) fYes (fOp (orD eqD (eqI cs_ tb_ "Point" F_Point_eq false)) (fVar 12) (fVar 4)) [12]) (fOp mulD (fLst (fCons (fC (.bl true)) fNil)) (fC (.int (3)))))) (fTest (fOp (orD neD (eqI cs_ tb_ "Point" F_Point_eq true)) (fLc (wAny (fVar 6)) (pName 12) fYes (fOp (orD neD (eqI cs_ tb_ "Point" F_Point_eq true)) (fVar 12) (fVar 4)) [12]) (fOp mulD (fLst (fCons (fC (.bl false)) fNil)) (fC (.int (3))))))) (fRet (fC (.bl false))) fNx) (fSeq (fAsg 7 (fLst (fCons (fMake "Point" F_Point_init (fCons (fOp addD (fTup (fCons (fOp addD (fOp ixD (fVar 2) (fC (.int (0)))) (fC (.int (1)))) fNil)) (fSl (fVar 2) (fPart (fC (.int (1)))) fNoPart)) fNil)) (fCons (fIf (fTest (fOp ltD (fCB lenD (fCons (fVar 2) fNil)) (fC (.int (3))))) (fMake "Point" F_Point_init (fCons (fOp addD (fTup (fCons (fC (.int (0))) fNil)) (fSl (fVar 2) fNoPart (fPart (fC (.int (2)))))) fNil)) (fC .non)) (fCons (fVar 5) (fCons (fVar 2) (fCons (fC .non) fNil))))))) (fSeq (fIfS (fOr (fTest (fOp (orD neD (eqI cs_ tb_ "Point" F_Point_eq true)) (fLc (wAny (fVar 7)) (pName 13) fYes (fOp (orD eqD (eqI cs_ tb_ "Point" F_Point_eq false)) (fVar 4) (fVar 13)) [13]) (fOp mulD (fLst (fCons (fC (.bl false)) fNil)) (fC (.int (5)))))) (fTest (fOp (orD neD (eqI cs_ tb_ "Point" F_Point_eq true)) (fLc (wAny (fVar 7)) (pName 13) fYes (fOp (orD neD (eqI cs_ tb_ "Point" F_Point_eq true)) (fVar 4) (fVar 13)) [13]) (fOp mulD (fLst (fCons (fC (.bl true)) fNil)) (fC (.int (5))))))) (fRet (fC (.bl false))) fNx) (fSeq (fIfS (fTest (fOp (orD neD (eqI cs_ tb_ "Point" F_Point_eq true)) (fOp (orD eqD (eqI cs_ tb_ "Point" F_Point_eq false)) (fVar 4) (fMake "Point" F_Point_init (fCons (fVar 3) fNil))) (fOp (orD eqD (eqI cs_ tb_ "Point" F_Point_eq false)) (fVar 2) (fVar 3)))) (fRet (fC (.bl false))) fNx) (fSeq (fFor (wRng1 (fCons (fC (.int (4))) fNil)) (pName 8) (fSeq (fAsg 9 (fCall F_l_bent (fCons (fVar 0) (fCons (fVar 5) fNil)))) (fSeq (fAsg 10 (fCall F_l_read (fCons (fVar 9) fNil))) (fSeq (fAsg 11 (fIf (fTest (fOp (orD eqD (eqI cs_ tb_ "Point" F_Point_eq false)) (fVar 10) (fTup fNil))) (fLst (fCons (fC (.str "text")) (fCons (fCB reprD (fCons (fVar 9) fNil)) fNil))) (fLst (fCons (fC (.str "gave")) (fCons (fOp addD (fC (.str "point ")) (fCall F_l_page (fCons (fVar 10) fNil))) fNil))))) (fIfS (fTest (fOp (orD neD (eqI cs_ tb_ "Point" F_Point_eq true)) (fLam B_l_heard 3 (fCMeth "Point" FE_Point_read (fCons (fVar 9) fNil))) (fVar 11))) (fRet (fC (.bl false))) fNx))))) (fIfS (fNot (fTru (fCall F_l_refused_right (fCons (fVar 0) fNil)))) (fRet (fC (.bl false))) fNx))))))))))) (fRet (fC (.bl true))))
def F_l_right : FF := okF (defF 1 14 B_l_right)
def B_l_tun : FS := (fSeq (fAsg 2 (fOp addD (fC (.int (70003))) (fOp mulD (fC (.int (8117))) (fVar 1)))) (fSeq (fFor (wAny (fSl (fVar 0) fNoPart (fPart (fC (.int (5)))))) (pName 3) (fAsg 2 (fOp modD (fCB intOf (fCons (fOp addD (fOp addD (fOp mulD (fVar 2) (fC (.int (41011)))) (fVar 3)) (fC (.int (7)))) fNil)) (fC (.int (2147479633)))))) (fSeq (fAsg 4 (fIf (fTest (fOp ltD (fVar 1) (fCB lenD (fCons (fVar 0) fNil)))) (fOp ixD (fVar 0) (fVar 1)) (fOp addD (fOp mulD (fC (.int (389))) (fVar 1)) (fC (.int (41)))))) (fRet (fLstO (fCons (fIf (fTest (fOp geD (fCB absD (fCons (fVar 4) fNil)) (fOp powD (fC (.int (10))) (fC (.int (17)))))) (fCB absD (fCons (fVar 4) fNil)) (fC (.int (0)))) (fCons (fOp modD (fCB intOf (fCons (fOp addD (fOp addD (fOp mulD (fVar 2) (fC (.int (127)))) (fOp mulD (fVar 4) (fC (.int (83))))) (fC (.int (61)))) fNil)) (fC (.int (2147479633)))) (fCons (fC (.int (0))) fNil))))))))
def F_l_tun : FF := okF (defF 2 5 B_l_tun)
def B_law : FS := (fRet (fCB allD (fCons (fLc (wRng1 (fCons (fC (.int (2))) fNil)) (pName 1) fYes (fCall F_l_right (fCons (fCall F_l_tun (fCons (fVar 0) (fCons (fVar 1) fNil))) fNil)) [1]) fNil)))
def F_law : FF := okF (defF 1 2 B_law)
end Kq

set_option linter.all false
set_option maxRecDepth 100000
set_option maxHeartbeats 4000000
namespace Kq
open PySem PySem.Spec PyProof.Rows L2 DF TX LamX
def top (i : Nat) : Stmt := PySem.Challenge.pw_pressworlds_k22_whole_points_made_and_re.main.body.getD i (.Pass ⟨0, 0, 0, 0⟩)

abbrev s_l_sip : Stmt := top 24
abbrev n_l_sip : List Str := ["_law_tun_here", "_law_most", "_law_stirred", "_law_digit"]
theorem sc_l_sip : FnScope n_l_sip ["_law_tun_here", "_law_most"] (defScope s_l_sip) := ⟨rfl, rfl, rfl, by decide +kernel, rfl, by decide +kernel, by decide +kernel⟩
abbrev s_l_choose : Stmt := top 25
abbrev n_l_choose : List Str := ["_law_tun_here", "_law_menu"]
theorem sc_l_choose : FnScope n_l_choose ["_law_tun_here", "_law_menu"] (defScope s_l_choose) := ⟨rfl, rfl, rfl, by decide +kernel, rfl, by decide +kernel, by decide +kernel⟩
abbrev s_l_integer : Stmt := top 26
abbrev n_l_integer : List Str := ["_law_tun_here"]
theorem sc_l_integer : FnScope n_l_integer ["_law_tun_here"] (defScope s_l_integer) := ⟨rfl, rfl, rfl, by decide +kernel, rfl, by decide +kernel, by decide +kernel⟩
abbrev s_l_numbers : Stmt := top 27
abbrev n_l_numbers : List Str := ["_law_tun_here", "_law_wide", "_law_k"]
theorem sc_l_numbers : FnScope n_l_numbers ["_law_tun_here", "_law_wide"] (defScope s_l_numbers) := ⟨rfl, rfl, rfl, by decide +kernel, rfl, by decide +kernel, by decide +kernel⟩
abbrev s_is_integer : Stmt := top 10
abbrev n_is_integer : List Str := ["value"]
theorem sc_is_integer : FnScope n_is_integer ["value"] (defScope s_is_integer) := ⟨rfl, rfl, rfl, by decide +kernel, rfl, by decide +kernel, by decide +kernel⟩
abbrev s_is_numbers : Stmt := top 20
abbrev n_is_numbers : List Str := ["value", "number"]
theorem sc_is_numbers : FnScope n_is_numbers ["value"] (defScope s_is_numbers) := ⟨rfl, rfl, rfl, by decide +kernel, rfl, by decide +kernel, by decide +kernel⟩
abbrev s_Point_init : Stmt := inClass (top 21) 0
abbrev n_Point_init : List Str := ["self", "numbers"]
theorem sc_Point_init : FnScope n_Point_init ["self", "numbers"] (defScope s_Point_init) := ⟨rfl, rfl, rfl, by decide +kernel, rfl, by decide +kernel, by decide +kernel⟩
abbrev s_l_page : Stmt := top 28
abbrev n_l_page : List Str := ["_law_numbers_here", "_law_each"]
theorem sc_l_page : FnScope n_l_page ["_law_numbers_here"] (defScope s_l_page) := ⟨rfl, rfl, rfl, by decide +kernel, rfl, by decide +kernel, by decide +kernel⟩
abbrev s_Point_eq : Stmt := inClass (top 21) 5
abbrev n_Point_eq : List Str := ["self", "other"]
theorem sc_Point_eq : FnScope n_Point_eq ["self", "other"] (defScope s_Point_eq) := ⟨rfl, rfl, rfl, by decide +kernel, rfl, by decide +kernel, by decide +kernel⟩
abbrev s_Point_numbers : Stmt := inClass (top 21) 2
abbrev n_Point_numbers : List Str := ["self"]
theorem sc_Point_numbers : FnScope n_Point_numbers ["self"] (defScope s_Point_numbers) := ⟨rfl, rfl, rfl, by decide +kernel, rfl, by decide +kernel, by decide +kernel⟩
abbrev s_number_text : Stmt := top 16
abbrev n_number_text : List Str := ["number", "left", "blocks", "digits", "block"]
theorem sc_number_text : FnScope n_number_text ["number"] (defScope s_number_text) := ⟨rfl, rfl, rfl, by decide +kernel, rfl, by decide +kernel, by decide +kernel⟩
abbrev s_numbers_text : Stmt := top 17
abbrev n_numbers_text : List Str := ["numbers", "number"]
theorem sc_numbers_text : FnScope n_numbers_text ["numbers"] (defScope s_numbers_text) := ⟨rfl, rfl, rfl, by decide +kernel, rfl, by decide +kernel, by decide +kernel⟩
abbrev s_Point_str : Stmt := inClass (top 21) 3
abbrev n_Point_str : List Str := ["self"]
theorem sc_Point_str : FnScope n_Point_str ["self"] (defScope s_Point_str) := ⟨rfl, rfl, rfl, by decide +kernel, rfl, by decide +kernel, by decide +kernel⟩
abbrev s_Point_len : Stmt := inClass (top 21) 4
abbrev n_Point_len : List Str := ["self"]
theorem sc_Point_len : FnScope n_Point_len ["self"] (defScope s_Point_len) := ⟨rfl, rfl, rfl, by decide +kernel, rfl, by decide +kernel, by decide +kernel⟩
abbrev s_number_in : Stmt := top 18
abbrev n_number_in : List Str := ["text", "digits", "sign"]
theorem sc_number_in : FnScope n_number_in ["text"] (defScope s_number_in) := ⟨rfl, rfl, rfl, by decide +kernel, rfl, by decide +kernel, by decide +kernel⟩
abbrev s_Point_read : Stmt := inClass (top 21) 1
abbrev n_Point_read : List Str := ["cls", "text", "parts", "numbers", "point", "part"]
theorem sc_Point_read : FnScope n_Point_read ["cls", "text"] (defScope s_Point_read) := ⟨rfl, rfl, rfl, by decide +kernel, rfl, by decide +kernel, by decide +kernel⟩
abbrev s_l_bent : Stmt := top 34
abbrev n_l_bent : List Str := ["_law_tun_here", "_law_text_here", "_law_form", "_law_spot", "_law_sign", "_law_words", "_law_at", "_law_fresh"]
theorem sc_l_bent : FnScope n_l_bent ["_law_tun_here", "_law_text_here"] (defScope s_l_bent) := ⟨rfl, rfl, rfl, by decide +kernel, rfl, by decide +kernel, by decide +kernel⟩
abbrev s_l_is_integer : Stmt := top 32
abbrev n_l_is_integer : List Str := ["_law_word_here", "_law_figures", "_law_sign"]
theorem sc_l_is_integer : FnScope n_l_is_integer ["_law_word_here"] (defScope s_l_is_integer) := ⟨rfl, rfl, rfl, by decide +kernel, rfl, by decide +kernel, by decide +kernel⟩
abbrev s_l_read : Stmt := top 33
abbrev n_l_read : List Str := ["_law_text_here", "_law_words", "_law_word_here"]
theorem sc_l_read : FnScope n_l_read ["_law_text_here"] (defScope s_l_read) := ⟨rfl, rfl, rfl, by decide +kernel, rfl, by decide +kernel, by decide +kernel⟩
abbrev s_l_shown : Stmt := top 29
abbrev n_l_shown : List Str := ["_law_thing"]
theorem sc_l_shown : FnScope n_l_shown ["_law_thing"] (defScope s_l_shown) := ⟨rfl, rfl, rfl, by decide +kernel, rfl, by decide +kernel, by decide +kernel⟩
abbrev s_l_class : Stmt := top 30
abbrev n_l_class : List Str := ["_law_e", "_law_flags", "_law_spot", "_law_bases", "_law_plain"]
theorem sc_l_class : FnScope n_l_class ["_law_e"] (defScope s_l_class) := ⟨rfl, rfl, rfl, by decide +kernel, rfl, by decide +kernel, by decide +kernel⟩
abbrev s_l_heard : Stmt := top 31
abbrev n_l_heard : List Str := ["_law_act", "_law_back", "_law_e"]
theorem sc_l_heard : FnScope n_l_heard ["_law_act"] (defScope s_l_heard) := ⟨rfl, rfl, rfl, by decide +kernel, rfl, by decide +kernel, by decide +kernel⟩
abbrev s_l_refused_right : Stmt := top 35
abbrev n_l_refused_right : List Str := ["_law_tun_here", "_law_some", "_law_odd", "_law_told", "_law_bad"]
theorem sc_l_refused_right : FnScope n_l_refused_right ["_law_tun_here"] (defScope s_l_refused_right) := ⟨rfl, rfl, rfl, by decide +kernel, rfl, by decide +kernel, by decide +kernel⟩
abbrev s_l_right : Stmt := top 36
abbrev n_l_right : List Str := ["_law_tun_here", "_law_lap", "_law_one", "_law_two", "_law_mine", "_law_page_here", "_law_mates", "_law_others", "_law_turn", "_law_bent_here", "_law_found", "_law_due", "_law_mate", "_law_each"]
theorem sc_l_right : FnScope n_l_right ["_law_tun_here"] (defScope s_l_right) := ⟨rfl, rfl, rfl, by decide +kernel, rfl, by decide +kernel, by decide +kernel⟩
abbrev s_l_tun : Stmt := top 23
abbrev n_l_tun : List Str := ["_law_script", "_law_turn", "_law_stirred", "_law_cell", "_law_own"]
theorem sc_l_tun : FnScope n_l_tun ["_law_script", "_law_turn"] (defScope s_l_tun) := ⟨rfl, rfl, rfl, by decide +kernel, rfl, by decide +kernel, by decide +kernel⟩
abbrev s_law : Stmt := top 37
abbrev n_law : List Str := ["_law_script", "_law_turn"]
theorem sc_law : FnScope n_law ["_law_script"] (defScope s_law) := ⟨rfl, rfl, rfl, by decide +kernel, rfl, by decide +kernel, by decide +kernel⟩
abbrev s_InvalidNumbers_init : Stmt := inClass (top 4) 0
abbrev n_InvalidNumbers_init : List Str := ["self", "given"]
theorem sc_InvalidNumbers_init : FnScope n_InvalidNumbers_init ["self", "given"] (defScope s_InvalidNumbers_init) := ⟨rfl, rfl, rfl, by decide +kernel, rfl, by decide +kernel, by decide +kernel⟩
abbrev s_InvalidText_init : Stmt := inClass (top 2) 0
abbrev n_InvalidText_init : List Str := ["self", "given"]
theorem sc_InvalidText_init : FnScope n_InvalidText_init ["self", "given"] (defScope s_InvalidText_init) := ⟨rfl, rfl, rfl, by decide +kernel, rfl, by decide +kernel, by decide +kernel⟩
structure Tx (w : World) (K : PySem.W.Frag) (mg : Str → Option Value) where
  f_l_sip : Addr
  d_l_sip : FuncData
  F_l_sip : Fun K "_law_sip" "_law_sip" s_l_sip f_l_sip d_l_sip
  b_l_sip : L2.Binds K d_l_sip ["_law_tun_here", "_law_most"] []
  mg_l_sip : mg "_law_sip" = some (.ref f_l_sip)
  f_l_choose : Addr
  d_l_choose : FuncData
  F_l_choose : Fun K "_law_choose" "_law_choose" s_l_choose f_l_choose d_l_choose
  b_l_choose : L2.Binds K d_l_choose ["_law_tun_here", "_law_menu"] []
  mg_l_choose : mg "_law_choose" = some (.ref f_l_choose)
  f_l_integer : Addr
  d_l_integer : FuncData
  F_l_integer : Fun K "_law_integer" "_law_integer" s_l_integer f_l_integer d_l_integer
  b_l_integer : L2.Binds K d_l_integer ["_law_tun_here"] []
  mg_l_integer : mg "_law_integer" = some (.ref f_l_integer)
  f_l_numbers : Addr
  d_l_numbers : FuncData
  F_l_numbers : Fun K "_law_numbers" "_law_numbers" s_l_numbers f_l_numbers d_l_numbers
  b_l_numbers : L2.Binds K d_l_numbers ["_law_tun_here", "_law_wide"] []
  mg_l_numbers : mg "_law_numbers" = some (.ref f_l_numbers)
  f_is_integer : Addr
  d_is_integer : FuncData
  F_is_integer : Fun K "is_integer" "is_integer" s_is_integer f_is_integer d_is_integer
  b_is_integer : L2.Binds K d_is_integer ["value"] []
  mg_is_integer : mg "is_integer" = some (.ref f_is_integer)
  f_is_numbers : Addr
  d_is_numbers : FuncData
  F_is_numbers : Fun K "is_numbers" "is_numbers" s_is_numbers f_is_numbers d_is_numbers
  b_is_numbers : L2.Binds K d_is_numbers ["value"] []
  mg_is_numbers : mg "is_numbers" = some (.ref f_is_numbers)
  f_Point_init : Addr
  d_Point_init : FuncData
  F_Point_init : Fun K "__init__" "Point.__init__" s_Point_init f_Point_init d_Point_init
  b_Point_init : L2.Binds K d_Point_init ["self", "numbers"] []
  f_l_page : Addr
  d_l_page : FuncData
  F_l_page : Fun K "_law_page" "_law_page" s_l_page f_l_page d_l_page
  b_l_page : L2.Binds K d_l_page ["_law_numbers_here"] []
  mg_l_page : mg "_law_page" = some (.ref f_l_page)
  f_Point_eq : Addr
  d_Point_eq : FuncData
  F_Point_eq : Fun K "__eq__" "Point.__eq__" s_Point_eq f_Point_eq d_Point_eq
  b_Point_eq : L2.Binds K d_Point_eq ["self", "other"] []
  f_Point_numbers : Addr
  d_Point_numbers : FuncData
  F_Point_numbers : Fun K "numbers" "Point.numbers" s_Point_numbers f_Point_numbers d_Point_numbers
  b_Point_numbers : L2.Binds K d_Point_numbers ["self"] []
  f_number_text : Addr
  d_number_text : FuncData
  F_number_text : Fun K "number_text" "number_text" s_number_text f_number_text d_number_text
  b_number_text : L2.Binds K d_number_text ["number"] []
  mg_number_text : mg "number_text" = some (.ref f_number_text)
  f_numbers_text : Addr
  d_numbers_text : FuncData
  F_numbers_text : Fun K "numbers_text" "numbers_text" s_numbers_text f_numbers_text d_numbers_text
  b_numbers_text : L2.Binds K d_numbers_text ["numbers"] []
  mg_numbers_text : mg "numbers_text" = some (.ref f_numbers_text)
  f_Point_str : Addr
  d_Point_str : FuncData
  F_Point_str : Fun K "__str__" "Point.__str__" s_Point_str f_Point_str d_Point_str
  b_Point_str : L2.Binds K d_Point_str ["self"] []
  f_Point_len : Addr
  d_Point_len : FuncData
  F_Point_len : Fun K "__len__" "Point.__len__" s_Point_len f_Point_len d_Point_len
  b_Point_len : L2.Binds K d_Point_len ["self"] []
  f_number_in : Addr
  d_number_in : FuncData
  F_number_in : Fun K "number_in" "number_in" s_number_in f_number_in d_number_in
  b_number_in : L2.Binds K d_number_in ["text"] []
  mg_number_in : mg "number_in" = some (.ref f_number_in)
  f_Point_read : Addr
  d_Point_read : FuncData
  F_Point_read : Fun K "read" "Point.read" s_Point_read f_Point_read d_Point_read
  b_Point_read : L2.Binds K d_Point_read ["cls", "text"] []
  f_l_bent : Addr
  d_l_bent : FuncData
  F_l_bent : Fun K "_law_bent" "_law_bent" s_l_bent f_l_bent d_l_bent
  b_l_bent : L2.Binds K d_l_bent ["_law_tun_here", "_law_text_here"] []
  mg_l_bent : mg "_law_bent" = some (.ref f_l_bent)
  f_l_is_integer : Addr
  d_l_is_integer : FuncData
  F_l_is_integer : Fun K "_law_is_integer" "_law_is_integer" s_l_is_integer f_l_is_integer d_l_is_integer
  b_l_is_integer : L2.Binds K d_l_is_integer ["_law_word_here"] []
  mg_l_is_integer : mg "_law_is_integer" = some (.ref f_l_is_integer)
  f_l_read : Addr
  d_l_read : FuncData
  F_l_read : Fun K "_law_read" "_law_read" s_l_read f_l_read d_l_read
  b_l_read : L2.Binds K d_l_read ["_law_text_here"] []
  mg_l_read : mg "_law_read" = some (.ref f_l_read)
  f_l_shown : Addr
  d_l_shown : FuncData
  F_l_shown : Fun K "_law_shown" "_law_shown" s_l_shown f_l_shown d_l_shown
  b_l_shown : L2.Binds K d_l_shown ["_law_thing"] []
  mg_l_shown : mg "_law_shown" = some (.ref f_l_shown)
  f_l_class : Addr
  d_l_class : FuncData
  F_l_class : Fun K "_law_class" "_law_class" s_l_class f_l_class d_l_class
  b_l_class : L2.Binds K d_l_class ["_law_e"] []
  mg_l_class : mg "_law_class" = some (.ref f_l_class)
  f_l_heard : Addr
  d_l_heard : FuncData
  F_l_heard : Fun K "_law_heard" "_law_heard" s_l_heard f_l_heard d_l_heard
  b_l_heard : L2.Binds K d_l_heard ["_law_act"] []
  mg_l_heard : mg "_law_heard" = some (.ref f_l_heard)
  c_l_refused_right : Addr
  P_l_refused_right : Addr
  f_l_refused_right : Addr
  d_l_refused_right : FuncData
  F_l_refused_right : FunC K "_law_refused_right" "_law_refused_right" s_l_refused_right f_l_refused_right d_l_refused_right c_l_refused_right
  b_l_refused_right : L2.Binds K d_l_refused_right ["_law_tun_here"] []
  mg_l_refused_right : mg "_law_refused_right" = some (.ref f_l_refused_right)
  c_l_right : Addr
  P_l_right : Addr
  f_l_right : Addr
  d_l_right : FuncData
  F_l_right : FunC K "_law_right" "_law_right" s_l_right f_l_right d_l_right c_l_right
  b_l_right : L2.Binds K d_l_right ["_law_tun_here"] []
  mg_l_right : mg "_law_right" = some (.ref f_l_right)
  f_l_tun : Addr
  d_l_tun : FuncData
  F_l_tun : Fun K "_law_tun" "_law_tun" s_l_tun f_l_tun d_l_tun
  b_l_tun : L2.Binds K d_l_tun ["_law_script", "_law_turn"] []
  mg_l_tun : mg "_law_tun" = some (.ref f_l_tun)
  f_law : Addr
  d_law : FuncData
  F_law : Fun K "law" "law" s_law f_law d_law
  b_law : L2.Binds K d_law ["_law_script"] []
  mg_law : mg "law" = some (.ref f_law)
  f_InvalidNumbers_init : Addr
  d_InvalidNumbers_init : FuncData
  F_InvalidNumbers_init : Fun K "__init__" "InvalidNumbers.__init__" s_InvalidNumbers_init f_InvalidNumbers_init d_InvalidNumbers_init
  b_InvalidNumbers_init : L2.Binds K d_InvalidNumbers_init ["self", "given"] []
  f_InvalidText_init : Addr
  d_InvalidText_init : FuncData
  F_InvalidText_init : Fun K "__init__" "InvalidText.__init__" s_InvalidText_init f_InvalidText_init d_InvalidText_init
  b_InvalidText_init : L2.Binds K d_InvalidText_init ["self", "given"] []
  C_Point : Addr
  mg_Point : mg "Point" = some (.ref C_Point)
  ct_Point : CT K "Point" C_Point
  cl_Point : Cls K C_Point
  mk_Point : Mk K C_Point f_Point_init
  eqC_Point : EqC K C_Point f_Point_eq
  pp_Point_numbers : Addr
  pr_Point_numbers : PropOf K C_Point "numbers" pp_Point_numbers f_Point_numbers
  stC_Point : StrC K C_Point f_Point_str
  lnC_Point : LenC K C_Point f_Point_len
  pm_Point_read : Addr
  cm_Point_read : ClX.CMet K C_Point (.type "type") "read" pm_Point_read f_Point_read
  cr_Point : ClX.CRead K C_Point (.type "type")
  nb_Point : PySem.W.findIn K (.ref C_Point) "__bool__" = some none
  na_Point__numbers : NoAttr K C_Point "_numbers"
  isi_Point : IsiC K C_Point
  C_InvalidNumbers : Addr
  mg_InvalidNumbers : mg "InvalidNumbers" = some (.ref C_InvalidNumbers)
  ct_InvalidNumbers : CT K "InvalidNumbers" C_InvalidNumbers
  ox_InvalidNumbers : OexT K C_InvalidNumbers
  tk_InvalidNumbers : PySem.W.takerIn K C_InvalidNumbers "given" = some none
  ii_InvalidNumbers : PySem.W.findIn K (.ref C_InvalidNumbers) "__init__" = some (some (.ref f_InvalidNumbers_init))
  ty_InvalidNumbers : PySem.W.typeIn K (.ref f_InvalidNumbers_init) = some (.type "function")
  xf_InvalidNumbers : ExF K C_InvalidNumbers "given"
  C_InvalidText : Addr
  mg_InvalidText : mg "InvalidText" = some (.ref C_InvalidText)
  ct_InvalidText : CT K "InvalidText" C_InvalidText
  ox_InvalidText : OexT K C_InvalidText
  tk_InvalidText : PySem.W.takerIn K C_InvalidText "given" = some none
  ii_InvalidText : PySem.W.findIn K (.ref C_InvalidText) "__init__" = some (some (.ref f_InvalidText_init))
  ty_InvalidText : PySem.W.typeIn K (.ref f_InvalidText_init) = some (.type "function")
  xf_InvalidText : ExF K C_InvalidText "given"
  C_WrongValue : Addr
  mg_WrongValue : mg "WrongValue" = some (.ref C_WrongValue)
  ct_WrongValue : CT K "WrongValue" C_WrongValue
  C_WrongName : Addr
  mg_WrongName : mg "WrongName" = some (.ref C_WrongName)
  ct_WrongName : CT K "WrongName" C_WrongName
  C_NotPossible : Addr
  mg_NotPossible : mg "NotPossible" = some (.ref C_NotPossible)
  ct_NotPossible : CT K "NotPossible" C_NotPossible
  C_InvalidNumber : Addr
  mg_InvalidNumber : mg "InvalidNumber" = some (.ref C_InvalidNumber)
  ct_InvalidNumber : CT K "InvalidNumber" C_InvalidNumber
  C_NotAChange : Addr
  mg_NotAChange : mg "NotAChange" = some (.ref C_NotAChange)
  ct_NotAChange : CT K "NotAChange" C_NotAChange
  C_OtherWorld : Addr
  mg_OtherWorld : mg "OtherWorld" = some (.ref C_OtherWorld)
  ct_OtherWorld : CT K "OtherWorld" C_OtherWorld
  xe_0 : PySem.W.exmOne K (.ref C_InvalidNumbers) (.ref C_WrongValue) = some true
  xe_1 : PySem.W.exmOne K (.ref C_InvalidNumbers) (.ref C_WrongName) = some false
  xe_2 : PySem.W.exmOne K (.ref C_InvalidNumbers) (.ref C_NotPossible) = some false
  xe_3 : PySem.W.exmOne K (.ref C_InvalidText) (.ref C_WrongValue) = some true
  xe_4 : PySem.W.exmOne K (.ref C_InvalidText) (.ref C_WrongName) = some false
  xe_5 : PySem.W.exmOne K (.ref C_InvalidText) (.ref C_NotPossible) = some false
  ke_0 : PySem.W.kitOne K (.ref C_InvalidNumbers) (.ref C_InvalidNumbers) = some true
  ke_1 : PySem.W.kitOne K (.ref C_InvalidNumbers) (.ref C_InvalidText) = some false
  ke_2 : PySem.W.kitOne K (.ref C_InvalidNumbers) (.ref C_InvalidNumber) = some false
  ke_3 : PySem.W.kitOne K (.ref C_InvalidNumbers) (.ref C_WrongValue) = some true
  ke_4 : PySem.W.kitOne K (.ref C_InvalidNumbers) (.ref C_WrongName) = some false
  ke_5 : PySem.W.kitOne K (.ref C_InvalidNumbers) (.ref C_NotPossible) = some false
  ke_6 : PySem.W.kitOne K (.ref C_InvalidNumbers) (.ref C_NotAChange) = some false
  ke_7 : PySem.W.kitOne K (.ref C_InvalidNumbers) (.ref C_OtherWorld) = some false
  ke_8 : PySem.W.kitOne K (.ref C_InvalidText) (.ref C_InvalidNumbers) = some false
  ke_9 : PySem.W.kitOne K (.ref C_InvalidText) (.ref C_InvalidText) = some true
  ke_10 : PySem.W.kitOne K (.ref C_InvalidText) (.ref C_InvalidNumber) = some false
  ke_11 : PySem.W.kitOne K (.ref C_InvalidText) (.ref C_WrongValue) = some true
  ke_12 : PySem.W.kitOne K (.ref C_InvalidText) (.ref C_WrongName) = some false
  ke_13 : PySem.W.kitOne K (.ref C_InvalidText) (.ref C_NotPossible) = some false
  ke_14 : PySem.W.kitOne K (.ref C_InvalidText) (.ref C_NotAChange) = some false
  ke_15 : PySem.W.kitOne K (.ref C_InvalidText) (.ref C_OtherWorld) = some false
  ky_0 : PySem.W.kitOne K (.ref C_InvalidNumbers) (.type "ValueError") = some true
  ky_1 : PySem.W.kitOne K (.ref C_InvalidNumbers) (.type "LookupError") = some false
  ky_2 : PySem.W.kitOne K (.ref C_InvalidNumbers) (.type "ArithmeticError") = some false
  ky_3 : PySem.W.kitOne K (.ref C_InvalidText) (.type "ValueError") = some true
  ky_4 : PySem.W.kitOne K (.ref C_InvalidText) (.type "LookupError") = some false
  ky_5 : PySem.W.kitOne K (.ref C_InvalidText) (.type "ArithmeticError") = some false
  it_0 : PySem.W.kitOne K (.type "NoneType") (.type "int") = some false
  it_1 : PySem.W.kitOne K (.type "NoneType") (.type "bool") = some false
  it_2 : PySem.W.kitOne K (.type "NoneType") (.type "tuple") = some false
  it_3 : PySem.W.kitOne K (.type "NoneType") (.type "str") = some false
  it_4 : PySem.W.kitOne K (.type "NoneType") (.ref C_Point) = some false
  it_5 : PySem.W.kitOne K (.type "bool") (.type "int") = some true
  it_6 : PySem.W.kitOne K (.type "bool") (.type "bool") = some true
  it_7 : PySem.W.kitOne K (.type "bool") (.type "tuple") = some false
  it_8 : PySem.W.kitOne K (.type "bool") (.type "str") = some false
  it_9 : PySem.W.kitOne K (.type "bool") (.ref C_Point) = some false
  it_10 : PySem.W.kitOne K (.type "int") (.type "int") = some true
  it_11 : PySem.W.kitOne K (.type "int") (.type "bool") = some false
  it_12 : PySem.W.kitOne K (.type "int") (.type "tuple") = some false
  it_13 : PySem.W.kitOne K (.type "int") (.type "str") = some false
  it_14 : PySem.W.kitOne K (.type "int") (.ref C_Point) = some false
  it_15 : PySem.W.kitOne K (.type "str") (.type "int") = some false
  it_16 : PySem.W.kitOne K (.type "str") (.type "bool") = some false
  it_17 : PySem.W.kitOne K (.type "str") (.type "tuple") = some false
  it_18 : PySem.W.kitOne K (.type "str") (.type "str") = some true
  it_19 : PySem.W.kitOne K (.type "str") (.ref C_Point) = some false
  it_20 : PySem.W.kitOne K (.type "tuple") (.type "int") = some false
  it_21 : PySem.W.kitOne K (.type "tuple") (.type "bool") = some false
  it_22 : PySem.W.kitOne K (.type "tuple") (.type "tuple") = some true
  it_23 : PySem.W.kitOne K (.type "tuple") (.type "str") = some false
  it_24 : PySem.W.kitOne K (.type "tuple") (.ref C_Point) = some false
  it_25 : PySem.W.kitOne K (.type "list") (.type "int") = some false
  it_26 : PySem.W.kitOne K (.type "list") (.type "bool") = some false
  it_27 : PySem.W.kitOne K (.type "list") (.type "tuple") = some false
  it_28 : PySem.W.kitOne K (.type "list") (.type "str") = some false
  it_29 : PySem.W.kitOne K (.type "list") (.ref C_Point) = some false
  it_30 : PySem.W.kitOne K (.type "dict") (.type "int") = some false
  it_31 : PySem.W.kitOne K (.type "dict") (.type "bool") = some false
  it_32 : PySem.W.kitOne K (.type "dict") (.type "tuple") = some false
  it_33 : PySem.W.kitOne K (.type "dict") (.type "str") = some false
  it_34 : PySem.W.kitOne K (.type "dict") (.ref C_Point) = some false
  it_35 : PySem.W.kitOne K (.ref C_Point) (.type "int") = some false
  it_36 : PySem.W.kitOne K (.ref C_Point) (.type "bool") = some false
  it_37 : PySem.W.kitOne K (.ref C_Point) (.type "tuple") = some false
  it_38 : PySem.W.kitOne K (.ref C_Point) (.type "str") = some false
  it_39 : PySem.W.kitOne K (.ref C_Point) (.ref C_Point) = some true
  t_MOST_WIDTH : Tok
  c_MOST_WIDTH : mg "MOST_WIDTH" = some (.int (3) t_MOST_WIDTH)
  t_BLOCK : Tok
  c_BLOCK : mg "BLOCK" = some (.int (10000000000000000000000000000000000000000000000000000000000000000) t_BLOCK)
  t_BLOCK_DIGITS : Tok
  c_BLOCK_DIGITS : mg "BLOCK_DIGITS" = some (.int (64) t_BLOCK_DIGITS)
  t_DIGITS : Tok
  c_DIGITS : mg "DIGITS" = some (.str "0123456789" t_DIGITS)
  n_int : mg "int" = none
  n_bool : mg "bool" = none
  n_str : mg "str" = none
  n_tuple : mg "tuple" = none
  n_isinstance : mg "isinstance" = none
  n_len : mg "len" = none
  n_abs : mg "abs" = none
  n_repr : mg "repr" = none
  n_all : mg "all" = none
  n_range : mg "range" = none
  n_divmod : mg "divmod" = none
  n_ValueError : mg "ValueError" = none
  n_LookupError : mg "LookupError" = none
  n_ArithmeticError : mg "ArithmeticError" = none
structure Tb [TbC] {w : World} {K : PySem.W.Frag} {mg : Str → Option Value} (T : Tx w K mg) (base : Heap) : Prop where
  ne : TbC.T ≠ []
  tb_l_refused_right : TabB base mg T.c_l_refused_right T.P_l_refused_right
  m_l_refused_right : (T.P_l_refused_right, (("_law_refused_right" : Str) ++ ".<locals>.") ++ "<lambda>") ∈ TbC.T
  u_l_refused_right : ∀ p ∈ TbC.T, p.1 = T.P_l_refused_right → p.2 = (("_law_refused_right" : Str) ++ ".<locals>.") ++ "<lambda>"
  tb_l_right : TabB base mg T.c_l_right T.P_l_right
  m_l_right : (T.P_l_right, (("_law_right" : Str) ++ ".<locals>.") ++ "<lambda>") ∈ TbC.T
  u_l_right : ∀ p ∈ TbC.T, p.1 = T.P_l_right → p.2 = (("_law_right" : Str) ++ ".<locals>.") ++ "<lambda>"
section
variable {P : Program} {w : World} {K : PySem.W.Frag} {mg : Str → Option Value} {base : Heap} [TbC]
omit [TbC] in
theorem Tx.xt (T : Tx w K mg) : XTab K xt_ := by
  intro e he C D c1 c2
  simp only [xt_, List.mem_cons, List.not_mem_nil, or_false] at he
  rcases he with he | he | he | he | he | he
  · subst he; cases c1.one T.ct_InvalidNumbers; cases c2.one T.ct_WrongValue; exact T.xe_0
  · subst he; cases c1.one T.ct_InvalidNumbers; cases c2.one T.ct_WrongName; exact T.xe_1
  · subst he; cases c1.one T.ct_InvalidNumbers; cases c2.one T.ct_NotPossible; exact T.xe_2
  · subst he; cases c1.one T.ct_InvalidText; cases c2.one T.ct_WrongValue; exact T.xe_3
  · subst he; cases c1.one T.ct_InvalidText; cases c2.one T.ct_WrongName; exact T.xe_4
  · subst he; cases c1.one T.ct_InvalidText; cases c2.one T.ct_NotPossible; exact T.xe_5
omit [TbC] in
theorem Tx.kt (T : Tx w K mg) : KTab K kt_ := by
  intro e he C D c1 c2
  simp only [kt_, List.mem_cons, List.not_mem_nil, or_false] at he
  rcases he with he | he | he | he | he | he | he | he | he | he | he | he | he | he | he | he
  · subst he; cases c1.one T.ct_InvalidNumbers; cases c2.one T.ct_InvalidNumbers; exact T.ke_0
  · subst he; cases c1.one T.ct_InvalidNumbers; cases c2.one T.ct_InvalidText; exact T.ke_1
  · subst he; cases c1.one T.ct_InvalidNumbers; cases c2.one T.ct_InvalidNumber; exact T.ke_2
  · subst he; cases c1.one T.ct_InvalidNumbers; cases c2.one T.ct_WrongValue; exact T.ke_3
  · subst he; cases c1.one T.ct_InvalidNumbers; cases c2.one T.ct_WrongName; exact T.ke_4
  · subst he; cases c1.one T.ct_InvalidNumbers; cases c2.one T.ct_NotPossible; exact T.ke_5
  · subst he; cases c1.one T.ct_InvalidNumbers; cases c2.one T.ct_NotAChange; exact T.ke_6
  · subst he; cases c1.one T.ct_InvalidNumbers; cases c2.one T.ct_OtherWorld; exact T.ke_7
  · subst he; cases c1.one T.ct_InvalidText; cases c2.one T.ct_InvalidNumbers; exact T.ke_8
  · subst he; cases c1.one T.ct_InvalidText; cases c2.one T.ct_InvalidText; exact T.ke_9
  · subst he; cases c1.one T.ct_InvalidText; cases c2.one T.ct_InvalidNumber; exact T.ke_10
  · subst he; cases c1.one T.ct_InvalidText; cases c2.one T.ct_WrongValue; exact T.ke_11
  · subst he; cases c1.one T.ct_InvalidText; cases c2.one T.ct_WrongName; exact T.ke_12
  · subst he; cases c1.one T.ct_InvalidText; cases c2.one T.ct_NotPossible; exact T.ke_13
  · subst he; cases c1.one T.ct_InvalidText; cases c2.one T.ct_NotAChange; exact T.ke_14
  · subst he; cases c1.one T.ct_InvalidText; cases c2.one T.ct_OtherWorld; exact T.ke_15
omit [TbC] in
theorem Tx.kty (T : Tx w K mg) : KTabT K kty_ := by
  intro e he C c1
  simp only [kty_, List.mem_cons, List.not_mem_nil, or_false] at he
  rcases he with he | he | he | he | he | he
  · subst he; cases c1.one T.ct_InvalidNumbers; exact T.ky_0
  · subst he; cases c1.one T.ct_InvalidNumbers; exact T.ky_1
  · subst he; cases c1.one T.ct_InvalidNumbers; exact T.ky_2
  · subst he; cases c1.one T.ct_InvalidText; exact T.ky_3
  · subst he; cases c1.one T.ct_InvalidText; exact T.ky_4
  · subst he; cases c1.one T.ct_InvalidText; exact T.ky_5
omit [TbC] in
theorem Tx.lv (T : Tx w K mg) : LTab K lv_ := by
  intro e he C c1
  simp only [lv_, List.mem_cons, List.not_mem_nil, or_false] at he
  rcases he with he | he
  · subst he; cases c1.one T.ct_InvalidNumbers; exact T.xf_InvalidNumbers
  · subst he; cases c1.one T.ct_InvalidText; exact T.xf_InvalidText
omit [TbC] in
theorem isiT (T : Tx w K mg) : IsiT K cs_ tb_ := by
  refine ⟨fun c hc C ct => ?_, fun e he tv cv h1 h2 => ?_⟩
  · simp only [cs_, List.mem_cons, List.not_mem_nil, or_false] at hc
    rcases hc with rfl
    · cases ct.one T.ct_Point; exact T.isi_Point
  · simp only [tb_, List.mem_cons, List.not_mem_nil, or_false] at he
    rcases he with he | he | he | he | he | he | he | he | he | he | he | he | he | he | he | he | he | he | he | he | he | he | he | he | he | he | he | he | he | he | he | he | he | he | he | he | he | he | he | he
    · subst he; cases h1; cases h2; exact T.it_0
    · subst he; cases h1; cases h2; exact T.it_1
    · subst he; cases h1; cases h2; exact T.it_2
    · subst he; cases h1; cases h2; exact T.it_3
    · subst he; cases h1; obtain ⟨C2, c2, e2⟩ := h2; subst e2; cases c2.one T.ct_Point; exact T.it_4
    · subst he; cases h1; cases h2; exact T.it_5
    · subst he; cases h1; cases h2; exact T.it_6
    · subst he; cases h1; cases h2; exact T.it_7
    · subst he; cases h1; cases h2; exact T.it_8
    · subst he; cases h1; obtain ⟨C2, c2, e2⟩ := h2; subst e2; cases c2.one T.ct_Point; exact T.it_9
    · subst he; cases h1; cases h2; exact T.it_10
    · subst he; cases h1; cases h2; exact T.it_11
    · subst he; cases h1; cases h2; exact T.it_12
    · subst he; cases h1; cases h2; exact T.it_13
    · subst he; cases h1; obtain ⟨C2, c2, e2⟩ := h2; subst e2; cases c2.one T.ct_Point; exact T.it_14
    · subst he; cases h1; cases h2; exact T.it_15
    · subst he; cases h1; cases h2; exact T.it_16
    · subst he; cases h1; cases h2; exact T.it_17
    · subst he; cases h1; cases h2; exact T.it_18
    · subst he; cases h1; obtain ⟨C2, c2, e2⟩ := h2; subst e2; cases c2.one T.ct_Point; exact T.it_19
    · subst he; cases h1; cases h2; exact T.it_20
    · subst he; cases h1; cases h2; exact T.it_21
    · subst he; cases h1; cases h2; exact T.it_22
    · subst he; cases h1; cases h2; exact T.it_23
    · subst he; cases h1; obtain ⟨C2, c2, e2⟩ := h2; subst e2; cases c2.one T.ct_Point; exact T.it_24
    · subst he; cases h1; cases h2; exact T.it_25
    · subst he; cases h1; cases h2; exact T.it_26
    · subst he; cases h1; cases h2; exact T.it_27
    · subst he; cases h1; cases h2; exact T.it_28
    · subst he; cases h1; obtain ⟨C2, c2, e2⟩ := h2; subst e2; cases c2.one T.ct_Point; exact T.it_29
    · subst he; cases h1; cases h2; exact T.it_30
    · subst he; cases h1; cases h2; exact T.it_31
    · subst he; cases h1; cases h2; exact T.it_32
    · subst he; cases h1; cases h2; exact T.it_33
    · subst he; cases h1; obtain ⟨C2, c2, e2⟩ := h2; subst e2; cases c2.one T.ct_Point; exact T.it_34
    · subst he; obtain ⟨C1, c1, e1⟩ := h1; subst e1; cases c1.one T.ct_Point; cases h2; exact T.it_35
    · subst he; obtain ⟨C1, c1, e1⟩ := h1; subst e1; cases c1.one T.ct_Point; cases h2; exact T.it_36
    · subst he; obtain ⟨C1, c1, e1⟩ := h1; subst e1; cases c1.one T.ct_Point; cases h2; exact T.it_37
    · subst he; obtain ⟨C1, c1, e1⟩ := h1; subst e1; cases c1.one T.ct_Point; cases h2; exact T.it_38
    · subst he; obtain ⟨C1, c1, e1⟩ := h1; subst e1; cases c1.one T.ct_Point; obtain ⟨C2, c2, e2⟩ := h2; subst e2; cases c2.one T.ct_Point; exact T.it_39

theorem okI_InvalidNumbers (T : Tx w K mg) : FnOk P w K mg base CX0 1 T.f_InvalidNumbers_init T.d_InvalidNumbers_init ["self", "given"] (spIni K "given") := by
  refine T.F_InvalidNumbers_init.ok sc_InvalidNumbers_init (fun vs H Q E h => len_ini h) (fun cdv A outer s H vs Q E hr h => ⟨_, pss_one (ps_ostT (pv 0) (pv 1)), body_ini h⟩)

theorem okI_InvalidText (T : Tx w K mg) : FnOk P w K mg base CX0 1 T.f_InvalidText_init T.d_InvalidText_init ["self", "given"] (spIni K "given") := by
  refine T.F_InvalidText_init.ok sc_InvalidText_init (fun vs H Q E h => len_ini h) (fun cdv A outer s H vs Q E hr h => ⟨_, pss_one (ps_ostT (pv 0) (pv 1)), body_ini h⟩)

theorem ok_l_sip (T : Tx w K mg) : FnOk P w K mg base CX0 1 T.f_l_sip T.d_l_sip ["_law_tun_here", "_law_most"] (spF K F_l_sip) := by
  refine T.F_l_sip.ok sc_l_sip (fun vs H Q E h => len_O (n := 4) (fS := B_l_sip) h) (fun cdv A outer s H vs Q E hr h => ?_)
  refine ⟨_, (pss_cons (ps_if (pt_cmpR op_gt (pe_ix (r := rIx K) (ix_K (K := K) rfl) (pv 0) pe_int (fun _ _ => rfl)) pe_int (nomark _)) (pss_cons (ps_asg (pe_callB call_divmod rfl T.n_divmod boot_divmod (pa_cons (pe_ix (r := rIx K) (ix_K (K := K) rfl) (pv 0) pe_int (fun _ _ => rfl)) (pa_cons (pv 1) pa_nil))) (pg_tup rfl (pgs_cons (pg_sub (pv 0) pe_int set_list) (pgs_cons (pg_name (i := 3) sc_l_sip.nd rfl (by first | exact Or.inl rfl | exact Or.inr rfl)) pgs_nil)))) (pss_one (ps_ret (pv 3)))) pss_nil) (pss_cons (ps_asg (pe_op (add_K (K := K) rfl) (pe_ix (r := rIx K) (ix_K (K := K) rfl) (pv 0) pe_int (fun _ _ => rfl)) pe_int) (pg_sub (pv 0) pe_int set_list)) (pss_cons (ps_set (i := 2) sc_l_sip.nd rfl (by first | exact Or.inl rfl | exact Or.inr rfl) (pe_op op_mod (pe_callTy call_int rfl T.n_int boot_int (pa_cons (pe_op (add_K (K := K) rfl) (pe_op (add_K (K := K) rfl) (pe_op (mul_K (K := K) rfl) (pe_ix (r := rIx K) (ix_K (K := K) rfl) (pv 0) pe_int (fun _ _ => rfl)) pe_int) (pe_op (mul_K (K := K) rfl) (pe_op (mul_K (K := K) rfl) (pe_ix (r := rIx K) (ix_K (K := K) rfl) (pv 0) pe_int (fun _ _ => rfl)) (pe_ix (r := rIx K) (ix_K (K := K) rfl) (pv 0) pe_int (fun _ _ => rfl))) pe_int)) pe_int) pa_nil)) pe_int)) (pss_cons (ps_asg (pe_op op_mod (pe_callTy call_int rfl T.n_int boot_int (pa_cons (pe_op (add_K (K := K) rfl) (pe_op (mul_K (K := K) rfl) (pv 2) (pe_op (add_K (K := K) rfl) pe_int (pe_op op_mod (pe_callTy call_int rfl T.n_int boot_int (pa_cons (pv 2) pa_nil)) pe_int))) pe_int) pa_nil)) pe_int) (pg_sub (pv 0) pe_int set_list)) (pss_one (ps_ret (pe_op op_mod (pe_callTy call_int rfl T.n_int boot_int (pa_cons (pe_op op_fdivW (pe_ix (r := rIx K) (ix_K (K := K) rfl) (pv 0) pe_int (fun _ _ => rfl)) pe_int) pa_nil)) (pv 1)))))))), ?_⟩
  exact body_O (Ns := n_l_sip) (fS := B_l_sip) h (sim_seq (sim_ifS (sim_test (sim_op sim_gt (sim_ixO sim_int) sim_int)) (sim_seq (sim_asgG (sim_cb sim_divmod (sim_cons (sim_ixO sim_int) (sim_cons sim_var sim_nil))) (sim_gtup (sim_gcons (sim_gsub sim_int) (sim_gcons sim_gname sim_gnil)))) (sim_ret sim_var)) sim_next) (sim_seq (sim_asgG (sim_op sim_add (sim_ixO sim_int) sim_int) (sim_gsub sim_int)) (sim_seq (sim_asg (sim_op sim_mod (sim_cb sim_int1 (sim_cons (sim_op sim_add (sim_op sim_add (sim_op sim_mul (sim_ixO sim_int) sim_int) (sim_op sim_mul (sim_op sim_mul (sim_ixO sim_int) (sim_ixO sim_int)) sim_int)) sim_int) sim_nil)) sim_int)) (sim_seq (sim_asgG (sim_op sim_mod (sim_cb sim_int1 (sim_cons (sim_op sim_add (sim_op sim_mul sim_var (sim_op sim_add sim_int (sim_op sim_mod (sim_cb sim_int1 (sim_cons sim_var sim_nil)) sim_int))) sim_int) sim_nil)) sim_int) (sim_gsub sim_int)) (sim_ret (sim_op sim_mod (sim_cb sim_int1 (sim_cons (sim_op sim_fdiv (sim_ixO sim_int) sim_int) sim_nil)) sim_var))))))
theorem ok_l_choose (T : Tx w K mg) : FnOk P w K mg base CX0 2 T.f_l_choose T.d_l_choose ["_law_tun_here", "_law_menu"] (spF K F_l_choose) := by
  refine T.F_l_choose.ok sc_l_choose (fun vs H Q E h => len_O (n := 2) (fS := B_l_choose) h) (fun cdv A outer s H vs Q E hr h => ?_)
  refine ⟨_, (pss_one (ps_ret (pe_ix (r := rIx K) (ix_K (K := K) rfl) (pv 1) (pe_call (ok_l_sip T) (hr.mono (by decide)) rfl T.mg_l_sip T.F_l_sip.kp T.b_l_sip .nil pass0 (pa_cons (pv 0) (pa_cons (pe_callB (r := DF.rLen K) (len_K rfl) rfl T.n_len boot_len (pa_cons (pv 1) pa_nil)) pa_nil))) (fun _ _ => rfl)))), ?_⟩
  exact body_O (Ns := n_l_choose) (fS := B_l_choose) h (sim_ret (sim_op sim_ix sim_var (sim_call hE0 (sim_cons sim_var (sim_cons (sim_cb sim_len (sim_cons sim_var sim_nil)) sim_nil)))))
theorem ok_l_integer (T : Tx w K mg) : FnOk P w K mg base CX0 3 T.f_l_integer T.d_l_integer ["_law_tun_here"] (spF K F_l_integer) := by
  refine T.F_l_integer.ok sc_l_integer (fun vs H Q E h => len_O (n := 1) (fS := B_l_integer) h) (fun cdv A outer s H vs Q E hr h => ?_)
  refine ⟨_, (pss_cons (ps_if (pt_cmpR (eq_K (K := K) rfl (units64 hr)) (pe_call (ok_l_sip T) (hr.mono (by decide)) rfl T.mg_l_sip T.F_l_sip.kp T.b_l_sip .nil pass0 (pa_cons (pv 0) (pa_cons pe_int pa_nil))) pe_int (nomark _)) (pss_one (ps_ret (pe_call (ok_l_choose T) (hr.mono (by decide)) rfl T.mg_l_choose T.F_l_choose.kp T.b_l_choose .nil pass0 (pa_cons (pv 0) (pa_cons (pe_lst (pa_cons (pe_op op_pow pe_int pe_int) (pa_cons (pe_un un_neg (pe_op op_pow pe_int pe_int)) (pa_cons (pe_op (add_K (K := K) rfl) (pe_op (mul_K (K := K) rfl) pe_int (pe_op op_pow pe_int pe_int)) pe_int) (pa_cons (pe_un un_neg pe_int) (pa_cons pe_int pa_nil)))))) pa_nil))))) pss_nil) (pss_one (ps_ret (pe_op op_sub (pe_call (ok_l_sip T) (hr.mono (by decide)) rfl T.mg_l_sip T.F_l_sip.kp T.b_l_sip .nil pass0 (pa_cons (pv 0) (pa_cons pe_int pa_nil))) pe_int)))), ?_⟩
  exact body_O (Ns := n_l_integer) (fS := B_l_integer) h (sim_seq (sim_ifS (sim_test (sim_op sim_eq (sim_call hE0 (sim_cons sim_var (sim_cons sim_int sim_nil))) sim_int)) (sim_ret (sim_call hE0 (sim_cons sim_var (sim_cons (sim_lst (sim_cons (sim_op sim_pow sim_int sim_int) (sim_cons (sim_un sim_neg (sim_op sim_pow sim_int sim_int)) (sim_cons (sim_op sim_add (sim_op sim_mul sim_int (sim_op sim_pow sim_int sim_int)) sim_int) (sim_cons (sim_un sim_neg sim_int) (sim_cons sim_int sim_nil)))))) sim_nil)))) sim_next) (sim_ret (sim_op sim_sub (sim_call hE0 (sim_cons sim_var (sim_cons sim_int sim_nil))) sim_int)))
theorem ok_l_numbers (T : Tx w K mg) : FnOk P w K mg base CX0 4 T.f_l_numbers T.d_l_numbers ["_law_tun_here", "_law_wide"] (spF K F_l_numbers) := by
  refine T.F_l_numbers.ok sc_l_numbers (fun vs H Q E h => len_O (n := 3) (fS := B_l_numbers) h) (fun cdv A outer s H vs Q E hr h => ?_)
  refine ⟨_, (pss_one (ps_ret (pe_callTy (tupOf_K (K := K) rfl) rfl T.n_tuple boot_tuple (pa_cons (pe_lc (own := [("_law_k", 2)]) (g := gName 2) (tt := tYes) rfl sc_l_numbers.nd (pi_range1 rfl T.n_range (pa_cons (pv 1) pa_nil)) (blkOk_by (N := n_l_numbers) (sc := defScope s_l_numbers) (by decide +kernel)) (fun _ _ _ _ _ => pg_name (i := 2) sc_l_numbers.nd rfl (by first | exact Or.inl rfl | exact Or.inr rfl)) (fun _ _ _ _ _ => pts_nil) (fun _ _ _ _ _ => (pe_call (ok_l_integer T) (hr.mono (by decide)) rfl T.mg_l_integer T.F_l_integer.kp T.b_l_integer .nil pass0 (pa_cons (pv 0) pa_nil)))) pa_nil)))), ?_⟩
  exact body_O (Ns := n_l_numbers) (fS := B_l_numbers) h (sim_ret (sim_cb sim_tupOf (sim_cons (sim_lc (sim_rng1 (sim_cons sim_var sim_nil)) sim_gname sim_yes (sim_call hE0 (sim_cons sim_var sim_nil))) sim_nil)))
theorem ok_is_integer (T : Tx w K mg) : FnOk P w K mg base CX0 1 T.f_is_integer T.d_is_integer ["value"] (spF K F_is_integer) := by
  refine T.F_is_integer.ok sc_is_integer (fun vs H Q E h => len_O (n := 1) (fS := B_is_integer) h) (fun cdv A outer s H vs Q E hr h => ?_)
  refine ⟨_, (pss_one (ps_ret (pe_and (pe_callB (r := rIsi K) (isi_K rfl) rfl T.n_isinstance boot_isinstance (pa_cons (pv 0) (pa_cons (pe_bltn (v := .ty "int") rfl T.n_int boot_int rfl) pa_nil))) (pe_one (pe_not (pe_callB (r := rIsi K) (isi_K rfl) rfl T.n_isinstance boot_isinstance (pa_cons (pv 0) (pa_cons (pe_bltn (v := .ty "bool") rfl T.n_bool boot_bool rfl) pa_nil)))))))), ?_⟩
  exact body_O (Ns := n_is_integer) (fS := B_is_integer) h (sim_ret (sim_andV (sim_cb (sim_isi (isiT T)) (sim_cons sim_var (sim_cons sim_ty sim_nil))) (sim_notV (sim_cb (sim_isi (isiT T)) (sim_cons sim_var (sim_cons sim_ty sim_nil))))))
theorem ok_is_numbers (T : Tx w K mg) : FnOk P w K mg base CX0 2 T.f_is_numbers T.d_is_numbers ["value"] (spF K F_is_numbers) := by
  refine T.F_is_numbers.ok sc_is_numbers (fun vs H Q E h => len_O (n := 2) (fS := B_is_numbers) h) (fun cdv A outer s H vs Q E hr h => ?_)
  refine ⟨_, (pss_cons (ps_if (PW.pt (pw_or (pt_not (pt_truthK (K := K) rfl (pe_callB (r := rIsi K) (isi_K rfl) rfl T.n_isinstance boot_isinstance (pa_cons (pv 0) (pa_cons (pe_bltn (v := .ty "tuple") rfl T.n_tuple boot_tuple rfl) pa_nil))) (fun _ => rfl))) (pw_or1 (pt_not (pt_chain op_le op_le pe_int (pe_callB (r := DF.rLen K) (len_K rfl) rfl T.n_len boot_len (pa_cons (pv 0) pa_nil)) (pe_glob (v := .int (3)) rfl T.c_MOST_WIDTH ⟨_, rfl⟩)))))) (pss_one (ps_ret pe_bl)) pss_nil) (pss_one (ps_ret (pe_callB (r := rAll K) (all_K rfl rfl) rfl T.n_all boot_all (pa_cons (pe_lc (own := [("number", 1)]) (g := gName 1) (tt := tYes) rfl sc_is_numbers.nd (pi_anyK (K := K) rfl (pv 0)) (blkOk_by (N := n_is_numbers) (sc := defScope s_is_numbers) (by decide +kernel)) (fun _ _ _ _ _ => pg_name (i := 1) sc_is_numbers.nd rfl (by first | exact Or.inl rfl | exact Or.inr rfl)) (fun _ _ _ _ _ => pts_nil) (fun _ _ _ _ _ => (pe_call (ok_is_integer T) (hr.mono (by decide)) rfl T.mg_is_integer T.F_is_integer.kp T.b_is_integer .nil pass0 (pa_cons (pv 1) pa_nil)))) pa_nil))))), ?_⟩
  exact body_O (Ns := n_is_numbers) (fS := B_is_numbers) h (sim_seq (sim_ifS (sim_or (sim_not (sim_tru (sim_cb (sim_isi (isiT T)) (sim_cons sim_var (sim_cons sim_ty sim_nil))))) (sim_not (sim_test (sim_chain sim_le sim_le sim_int (sim_cb sim_len (sim_cons sim_var sim_nil)) sim_int)))) (sim_ret sim_bl) sim_next) (sim_ret (sim_cb sim_all (sim_cons (sim_lc (sim_wAny sim_var) sim_gname sim_yes (sim_call hE0 (sim_cons sim_var sim_nil))) sim_nil))))
theorem okE_Point_init (T : Tx w K mg) : FnOk P w K mg base (L2.CX P w) 3 T.f_Point_init T.d_Point_init ["self", "numbers"] (spF K FE_Point_init) := by
  refine T.F_Point_init.okX sc_Point_init (fun vs H Q E h => len_F (n := 2) (fS := B_Point_init) h) (fun cdv A outer s H vs Q E hr h => ?_)
  refine ⟨_, (pss_cons (ps_if (pt_not (pt_truthK (K := K) rfl (pe_call (ok_is_numbers T) (hr.mono (by decide)) rfl T.mg_is_numbers T.F_is_numbers.kp T.b_is_numbers .nil (passZ (E := E)) (pa_cons (pv 1) pa_nil)) (fun _ => rfl))) (pss_one (ps_raise rfl takesX (pmk_T T.ox_InvalidNumbers T.tk_InvalidNumbers T.ii_InvalidNumbers T.ty_InvalidNumbers (okI_InvalidNumbers T) (hr.mono (by decide)) T.b_InvalidNumbers_init rfl T.mg_InvalidNumbers (pa_cons (pv 1) pa_nil)))) pss_nil) (pss_one (ps_fld (pv 0) (pv 1) rfl))), ?_⟩
  exact body_F (Ns := n_Point_init) (fS := B_Point_init) h (sim_seq (sim_ifS (sim_not (sim_tru (sim_call (fun _ _ _ _ z => z) (sim_cons sim_var sim_nil)))) (sim_raise T.ct_InvalidNumbers sim_var) sim_next) (sim_setF T.ct_Point T.cl_Point T.na_Point__numbers sim_var))
theorem ok_Point_init (T : Tx w K mg) : FnOk P w K mg base CX0 3 T.f_Point_init T.d_Point_init ["self", "numbers"] (spF K F_Point_init) := ok_of (okE_Point_init T)

theorem kb_Point_init_0_numbers (T : Tx w K mg) : KBn K T.d_Point_init ["self", "numbers"] 1 ["numbers"] (fun us ws => permU [0, 1] (us ++ ws)) (fun vs zs => permV [0, 1] (vs ++ zs)) :=
  kbn [0, 1] T.F_Point_init fun kV doc pm an cdv ct us ws h1 h2 => match us, ws, h1, h2 with | [_], [_], _, _ => rfl
theorem ok_l_page (T : Tx w K mg) : FnOk P w K mg base CX0 1 T.f_l_page T.d_l_page ["_law_numbers_here"] (spF K F_l_page) := by
  refine T.F_l_page.ok sc_l_page (fun vs H Q E h => len_O (n := 2) (fS := B_l_page) h) (fun cdv A outer s H vs Q E hr h => ?_)
  refine ⟨_, (pss_one (ps_ret (pe_bmK (K := K) rfl PySem.F.plainAttrs_str PySem.F.slot_str_join PySem.F.type_str_join (join_K (K := K) rfl) pe_str (pa_cons (pe_op (add_K (K := K) rfl) (pe_lst (pa_cons pe_str (pa_cons (pe_callTy call_str rfl T.n_str boot_str (pa_cons (pe_callB (r := DF.rLen K) (len_K rfl) rfl T.n_len boot_len (pa_cons (pv 0) pa_nil)) pa_nil)) pa_nil))) (pe_lc (own := [("_law_each", 1)]) (g := gName 1) (tt := tYes) rfl sc_l_page.nd (pi_anyK (K := K) rfl (pv 0)) (blkOk_by (N := n_l_page) (sc := defScope s_l_page) (by decide +kernel)) (fun _ _ _ _ _ => pg_name (i := 1) sc_l_page.nd rfl (by first | exact Or.inl rfl | exact Or.inr rfl)) (fun _ _ _ _ _ => pts_nil) (fun _ _ _ _ _ => (pe_callTy call_str rfl T.n_str boot_str (pa_cons (pv 1) pa_nil))))) pa_nil)))), ?_⟩
  exact body_O (Ns := n_l_page) (fS := B_l_page) h (sim_ret (sim_bm sim_join sim_str (sim_cons (sim_op sim_add (sim_lst (sim_cons sim_str (sim_cons (sim_cb sim_str1 (sim_cons (sim_cb sim_len (sim_cons sim_var sim_nil)) sim_nil)) sim_nil))) (sim_lc (sim_wAny sim_var) sim_gname sim_yes (sim_cb sim_str1 (sim_cons sim_var sim_nil)))) sim_nil)))
theorem ok_Point_eq (T : Tx w K mg) : FnOk P w K mg base CX0 1 T.f_Point_eq T.d_Point_eq ["self", "other"] (spF K F_Point_eq) := by
  refine T.F_Point_eq.ok sc_Point_eq (fun vs H Q E h => len_O (n := 2) (fS := B_Point_eq) h) (fun cdv A outer s H vs Q E hr h => ?_)
  refine ⟨_, (pss_one (ps_ret (pe_and (pe_callB (r := rIsi K) (isi_K rfl) rfl T.n_isinstance boot_isinstance (pa_cons (pv 1) (pa_cons (pe_glob (v := .ref T.C_Point) rfl T.mg_Point rfl) pa_nil))) (pe_one (pe_cmpR (eq_K (K := K) rfl (units64 hr)) (pe_fldK (K := K) rfl (pv 0) rfl) (pe_fldK (K := K) rfl (pv 1) rfl) (nomark _)))))), ?_⟩
  exact body_O (Ns := n_Point_eq) (fS := B_Point_eq) h (sim_ret (sim_andV (sim_cb (sim_isi (isiT T)) (sim_cons sim_var (sim_cons (sim_cls T.ct_Point) sim_nil))) (sim_op sim_eq (sim_fld T.ct_Point T.cl_Point T.na_Point__numbers sim_var) (sim_fld T.ct_Point T.cl_Point T.na_Point__numbers sim_var))))
theorem ok_Point_numbers (T : Tx w K mg) : FnOk P w K mg base CX0 1 T.f_Point_numbers T.d_Point_numbers ["self"] (spF K F_Point_numbers) := by
  refine T.F_Point_numbers.ok sc_Point_numbers (fun vs H Q E h => len_O (n := 1) (fS := B_Point_numbers) h) (fun cdv A outer s H vs Q E hr h => ?_)
  refine ⟨_, (pss_one (ps_ret (pe_fldK (K := K) rfl (pv 0) rfl))), ?_⟩
  exact body_O (Ns := n_Point_numbers) (fS := B_Point_numbers) h (sim_ret (sim_fld T.ct_Point T.cl_Point T.na_Point__numbers sim_var))
theorem ok_number_text (T : Tx w K mg) : FnOk P w K mg base CX0 1 T.f_number_text T.d_number_text ["number"] (spF K F_number_text) := by
  refine T.F_number_text.ok sc_number_text (fun vs H Q E h => len_O (n := 5) (fS := B_number_text) h) (fun cdv A outer s H vs Q E hr h => ?_)
  refine ⟨_, (pss_cons (ps_set (i := 1) sc_number_text.nd rfl (by first | exact Or.inl rfl | exact Or.inr rfl) (pe_callB call_abs rfl T.n_abs boot_abs (pa_cons (pv 0) pa_nil))) (pss_cons (ps_set (i := 2) sc_number_text.nd rfl (by first | exact Or.inl rfl | exact Or.inr rfl) (pe_lst pa_nil)) (pss_cons (ps_while PassesOwn.never (pt_cmpR op_ge (pv 1) (pe_glob (v := .int (10000000000000000000000000000000000000000000000000000000000000000)) rfl T.c_BLOCK ⟨_, rfl⟩) (nomark _)) pss_neverK) (pss_cons (ps_set (i := 3) sc_number_text.nd rfl (by first | exact Or.inl rfl | exact Or.inr rfl) (pe_op (add_K (K := K) rfl) (pe_callTy call_str rfl T.n_str boot_str (pa_cons (pv 1) pa_nil)) (pe_bmK (K := K) rfl PySem.F.plainAttrs_str PySem.F.slot_str_join PySem.F.type_str_join (join_K (K := K) rfl) pe_str (pa_cons (pe_revLK (K := K) rfl (pv 2)) pa_nil)))) (pss_one (ps_ret (pe_ifExp (pt_cmpR op_ltU (pv 0) pe_int (nomark _)) (pe_op (add_K (K := K) rfl) pe_str (pv 3)) (pv 3)))))))), ?_⟩
  exact body_O (Ns := n_number_text) (fS := B_number_text) h (sim_seq (sim_asg (sim_cb sim_abs (sim_cons sim_var sim_nil))) (sim_seq (sim_asg (sim_lstO sim_nil)) (sim_seq (sim_while (sim_test (sim_op sim_ge sim_var sim_int)) sim_neverK) (sim_seq (sim_asg (sim_pk (sim_op sim_add (sim_cb sim_str1 (sim_cons sim_var sim_nil)) (sim_bm sim_join sim_str (sim_cons (sim_revL sim_var) sim_nil))))) (sim_ret (sim_if (sim_test (sim_op sim_lt sim_var sim_int)) (sim_op sim_add sim_str sim_var) sim_var))))))
theorem ok_numbers_text (T : Tx w K mg) : FnOk P w K mg base CX0 2 T.f_numbers_text T.d_numbers_text ["numbers"] (spF K F_numbers_text) := by
  refine T.F_numbers_text.ok sc_numbers_text (fun vs H Q E h => len_O (n := 2) (fS := B_numbers_text) h) (fun cdv A outer s H vs Q E hr h => ?_)
  refine ⟨_, (pss_one (ps_ret (pe_bmK (K := K) rfl PySem.F.plainAttrs_str PySem.F.slot_str_join PySem.F.type_str_join (join_K (K := K) rfl) pe_str (pa_cons (pe_lc (own := [("number", 1)]) (g := gName 1) (tt := tYes) rfl sc_numbers_text.nd (pi_anyK (K := K) rfl (pv 0)) (blkOk_by (N := n_numbers_text) (sc := defScope s_numbers_text) (by decide +kernel)) (fun _ _ _ _ _ => pg_name (i := 1) sc_numbers_text.nd rfl (by first | exact Or.inl rfl | exact Or.inr rfl)) (fun _ _ _ _ _ => pts_nil) (fun _ _ _ _ _ => (pe_call (ok_number_text T) (hr.mono (by decide)) rfl T.mg_number_text T.F_number_text.kp T.b_number_text .nil pass0 (pa_cons (pv 1) pa_nil)))) pa_nil)))), ?_⟩
  exact body_O (Ns := n_numbers_text) (fS := B_numbers_text) h (sim_ret (sim_bm sim_join sim_str (sim_cons (sim_lc (sim_wAny sim_var) sim_gname sim_yes (sim_call hE0 (sim_cons sim_var sim_nil))) sim_nil)))
theorem ok_Point_str (T : Tx w K mg) : FnOk P w K mg base CX0 3 T.f_Point_str T.d_Point_str ["self"] (spF K F_Point_str) := by
  refine T.F_Point_str.ok sc_Point_str (fun vs H Q E h => len_O (n := 1) (fS := B_Point_str) h) (fun cdv A outer s H vs Q E hr h => ?_)
  refine ⟨_, (pss_one (ps_ret (pe_joined (.cons pe_str (.cons (pe_fmt (pe_callB (r := DF.rLen K) (len_K rfl) rfl T.n_len boot_len (pa_cons (pe_fldK (K := K) rfl (pv 0) rfl) pa_nil))) (.cons pe_str (.cons (pe_fmt (pe_call (ok_numbers_text T) (hr.mono (by decide)) rfl T.mg_numbers_text T.F_numbers_text.kp T.b_numbers_text .nil pass0 (pa_cons (pe_fldK (K := K) rfl (pv 0) rfl) pa_nil))) .nil))))))), ?_⟩
  exact body_O (Ns := n_Point_str) (fS := B_Point_str) h (sim_ret (sim_joined (.cons sim_str (.cons (sim_fmt (sim_cb sim_len (sim_cons (sim_fld T.ct_Point T.cl_Point T.na_Point__numbers sim_var) sim_nil))) (.cons sim_str (.cons (sim_fmt (sim_call hE0 (sim_cons (sim_fld T.ct_Point T.cl_Point T.na_Point__numbers sim_var) sim_nil))) .nil))))))
theorem ok_Point_len (T : Tx w K mg) : FnOk P w K mg base CX0 1 T.f_Point_len T.d_Point_len ["self"] (spF K F_Point_len) := by
  refine T.F_Point_len.ok sc_Point_len (fun vs H Q E h => len_O (n := 1) (fS := B_Point_len) h) (fun cdv A outer s H vs Q E hr h => ?_)
  refine ⟨_, (pss_one (ps_ret (pe_callB (r := DF.rLen K) (len_K rfl) rfl T.n_len boot_len (pa_cons (pe_fldK (K := K) rfl (pv 0) rfl) pa_nil)))), ?_⟩
  exact body_O (Ns := n_Point_len) (fS := B_Point_len) h (sim_ret (sim_cb sim_len (sim_cons (sim_fld T.ct_Point T.cl_Point T.na_Point__numbers sim_var) sim_nil)))
theorem ok_number_in (T : Tx w K mg) : FnOk P w K mg base CX0 1 T.f_number_in T.d_number_in ["text"] (spF K F_number_in) := by
  refine T.F_number_in.ok sc_number_in (fun vs H Q E h => len_O (n := 3) (fS := B_number_in) h) (fun cdv A outer s H vs Q E hr h => ?_)
  refine ⟨_, (pss_cons (ps_set (i := 1) sc_number_in.nd rfl (by first | exact Or.inl rfl | exact Or.inr rfl) (pe_bmK (K := K) rfl PySem.F.plainAttrs_str PySem.F.slot_str_removeprefix PySem.F.type_str_removeprefix mt_removeprefix (pv 0) (pa_cons pe_str pa_nil))) (pss_cons (ps_if (PW.pt (pw_or (pt_not (pt_truthK (K := K) rfl (pv 1) (fun _ => rfl))) (pw_or1 (pt_not (pt_truthK (K := K) rfl (pe_callB (r := rAll K) (all_K rfl rfl) rfl T.n_all boot_all (pa_cons (pe_lc (own := [("sign", 2)]) (g := gName 2) (tt := tYes) rfl sc_number_in.nd (pi_anyK (K := K) rfl (pv 1)) (blkOk_by (N := n_number_in) (sc := defScope s_number_in) (by decide +kernel)) (fun _ _ _ _ _ => pg_name (i := 2) sc_number_in.nd rfl (by first | exact Or.inl rfl | exact Or.inr rfl)) (fun _ _ _ _ _ => pts_nil) (fun _ _ _ _ _ => (pe_cmpR op_in_str (pv 2) (pe_glob (v := .str "0123456789") rfl T.c_DIGITS ⟨_, rfl⟩) (by with_unfolding_all rfl)))) pa_nil)) (fun _ => rfl)))))) (pss_one (ps_ret pe_non)) pss_nil) (pss_one (ps_ret (pe_callTy call_int rfl T.n_int boot_int (pa_cons (pv 0) pa_nil)))))), ?_⟩
  exact body_O (Ns := n_number_in) (fS := B_number_in) h (sim_seq (sim_asg (sim_bm sim_rmPre sim_var (sim_cons sim_str sim_nil))) (sim_seq (sim_ifS (sim_or (sim_not (sim_tru sim_var)) (sim_not (sim_tru (sim_cb sim_all (sim_cons (sim_lc (sim_wAny sim_var) sim_gname sim_yes (sim_op sim_inS sim_var sim_str)) sim_nil))))) (sim_ret sim_non) sim_next) (sim_ret (sim_cb sim_int1 (sim_cons sim_var sim_nil)))))
theorem okE_Point_read (T : Tx w K mg) : FnOk P w K mg base (L2.CX P w) 6 T.f_Point_read T.d_Point_read ["cls", "text"] (spF K FE_Point_read) := by
  refine T.F_Point_read.okX sc_Point_read (fun vs H Q E h => len_F (n := 6) (fS := B_Point_read) h) (fun cdv A outer s H vs Q E hr h => ?_)
  refine ⟨_, (pss_cons (ps_set (i := 2) sc_Point_read.nd rfl (by first | exact Or.inl rfl | exact Or.inr rfl) (pe_ifExp (pt_truthK (K := K) rfl (pe_callB (r := rIsi K) (isi_K rfl) rfl T.n_isinstance boot_isinstance (pa_cons (pv 1) (pa_cons (pe_bltn (v := .ty "str") rfl T.n_str boot_str rfl) pa_nil))) (fun _ => rfl)) (pe_bmK (K := K) rfl PySem.F.plainAttrs_str PySem.F.slot_str_split PySem.F.type_str_split mt_split (pv 1) (pa_cons pe_str pa_nil)) (pe_lst pa_nil))) (pss_cons (ps_set (i := 3) sc_Point_read.nd rfl (by first | exact Or.inl rfl | exact Or.inr rfl) (pe_callTy (tupOf_K (K := K) rfl) rfl T.n_tuple boot_tuple (pa_cons (pe_lc (own := [("part", 5)]) (g := gName 5) (tt := tYes) rfl sc_Point_read.nd (pi_anyK (K := K) rfl (pe_slice (sl_K (K := K) rfl) (pv 2) (po_some pe_int) po_none)) (blkOk_by (N := n_Point_read) (sc := defScope s_Point_read) (by decide +kernel)) (fun _ _ _ _ _ => pg_name (i := 5) sc_Point_read.nd rfl (by first | exact Or.inl rfl | exact Or.inr rfl)) (fun _ _ _ _ _ => pts_nil) (fun _ _ _ _ _ => (pe_call (ok_number_in T) (hr.mono (by decide)) rfl T.mg_number_in T.F_number_in.kp T.b_number_in .nil (passZ (E := E)) (pa_cons (pv 5) pa_nil)))) pa_nil))) (pss_cons (ps_if (pt_truthK (K := K) rfl (pe_call (ok_is_numbers T) (hr.mono (by decide)) rfl T.mg_is_numbers T.F_is_numbers.kp T.b_is_numbers .nil (passZ (E := E)) (pa_cons (pv 3) pa_nil)) (fun _ => rfl)) (pss_cons (ps_set (i := 4) sc_Point_read.nd rfl (by first | exact Or.inl rfl | exact Or.inr rfl) (pe_makeL (i := 0) T.mk_Point (okE_Point_init T) (hr.mono (by decide)) rfl (by first | exact Or.inl rfl | exact Or.inr rfl | exact (sc_Point_read.vis rfl)) T.b_Point_init passX (pa_cons (pv 3) pa_nil))) (pss_one (ps_if (pt_cmpR (eq_K (K := K) rfl (units64 hr)) (pe_callTy (DF.CallR.or call_str (call_strI T.stC_Point (ok_Point_str T) T.b_Point_str (hr.mono (by decide)))) rfl T.n_str boot_str (pa_cons (pv 4) pa_nil)) (pv 1) (nomark _)) (pss_one (ps_ret (pv 4))) pss_nil))) pss_nil) (pss_one (ps_raise rfl takesX (pmk_T T.ox_InvalidText T.tk_InvalidText T.ii_InvalidText T.ty_InvalidText (okI_InvalidText T) (hr.mono (by decide)) T.b_InvalidText_init rfl T.mg_InvalidText (pa_cons (pv 1) pa_nil))))))), ?_⟩
  exact body_F (Ns := n_Point_read) (fS := B_Point_read) h (sim_seq (sim_asg (sim_if (sim_tru (sim_cb (sim_isi (isiT T)) (sim_cons sim_var (sim_cons sim_ty sim_nil)))) (sim_bm sim_split sim_var (sim_cons sim_str sim_nil)) (sim_lst sim_nil))) (sim_seq (sim_asg (sim_cb sim_tupOf (sim_cons (sim_lc (sim_wAny (sim_sl sim_var (sim_part sim_int) sim_noPart)) sim_gname sim_yes (sim_call (fun _ _ _ _ z => z) (sim_cons sim_var sim_nil))) sim_nil))) (sim_seq (sim_ifS (sim_tru (sim_call (fun _ _ _ _ z => z) (sim_cons sim_var sim_nil))) (sim_seq (sim_asg (sim_makeL T.ct_Point (fun _ _ _ _ z => z) (sim_cons sim_var sim_nil))) (sim_ifS (sim_test (sim_op sim_eq (sim_cb (DF.SimC.or sim_str1 (sim_strI T.ct_Point)) (sim_cons sim_var sim_nil)) sim_var)) (sim_ret sim_var) sim_next)) sim_next) (sim_raise T.ct_InvalidText sim_var))))
theorem ok_Point_read (T : Tx w K mg) : FnOk P w K mg base CX0 6 T.f_Point_read T.d_Point_read ["cls", "text"] (spF K F_Point_read) := ok_of (okE_Point_read T)

theorem kb_Point_read_1_text (T : Tx w K mg) : KBn K T.d_Point_read ["cls", "text"] 1 ["text"] (fun us ws => permU [0, 1] (us ++ ws)) (fun vs zs => permV [0, 1] (vs ++ zs)) :=
  kbn [0, 1] T.F_Point_read fun kV doc pm an cdv ct us ws h1 h2 => match us, ws, h1, h2 with | [_], [_], _, _ => rfl
theorem ok_l_bent (T : Tx w K mg) : FnOk P w K mg base CX0 3 T.f_l_bent T.d_l_bent ["_law_tun_here", "_law_text_here"] (spF K F_l_bent) := by
  refine T.F_l_bent.ok sc_l_bent (fun vs H Q E h => len_O (n := 8) (fS := B_l_bent) h) (fun cdv A outer s H vs Q E hr h => ?_)
  refine ⟨_, (pss_cons (ps_par (i := 2) (j := 3) rfl sc_l_bent.nd rfl rfl (by decide) rfl rfl (pa_cons (pe_call (ok_l_sip T) (hr.mono (by decide)) rfl T.mg_l_sip T.F_l_sip.kp T.b_l_sip .nil pass0 (pa_cons (pv 0) (pa_cons pe_int pa_nil))) (pa_cons (pe_call (ok_l_sip T) (hr.mono (by decide)) rfl T.mg_l_sip T.F_l_sip.kp T.b_l_sip .nil pass0 (pa_cons (pv 0) (pa_cons (pe_op (add_K (K := K) rfl) (pe_callB (r := DF.rLen K) (len_K rfl) rfl T.n_len boot_len (pa_cons (pv 1) pa_nil)) pe_int) pa_nil))) pa_nil)) rfl) (pss_cons (ps_par (i := 4) (j := 5) rfl sc_l_bent.nd rfl rfl (by decide) rfl rfl (pa_cons (pe_call (ok_l_choose T) (hr.mono (by decide)) rfl T.mg_l_choose T.F_l_choose.kp T.b_l_choose .nil pass0 (pa_cons (pv 0) (pa_cons (pe_lst (pa_cons pe_str (pa_cons pe_str (pa_cons pe_str (pa_cons pe_str (pa_cons pe_str (pa_cons pe_str (pa_cons pe_str (pa_cons pe_str pa_nil))))))))) pa_nil))) (pa_cons (pe_bmK (K := K) rfl PySem.F.plainAttrs_str PySem.F.slot_str_split PySem.F.type_str_split mt_split (pv 1) (pa_cons pe_str pa_nil)) pa_nil)) rfl) (pss_cons (ps_if (pt_cmpR op_ltU (pv 2) pe_int (nomark _)) (pss_one (ps_ret (pe_op (add_K (K := K) rfl) (pe_op (add_K (K := K) rfl) (pe_slice (sl_K (K := K) rfl) (pv 1) po_none (po_some (pv 3))) (pv 4)) (pe_slice (sl_K (K := K) rfl) (pv 1) (po_some (pv 3)) po_none)))) pss_nil) (pss_cons (ps_if (pt_cmpR (eq_K (K := K) rfl (units64 hr)) (pv 2) pe_int (nomark _)) (pss_one (ps_ret (pe_op (add_K (K := K) rfl) (pe_slice (sl_K (K := K) rfl) (pv 1) po_none (po_some (pv 3))) (pe_slice (sl_K (K := K) rfl) (pv 1) (po_some (pe_op (add_K (K := K) rfl) (pv 3) pe_int)) po_none)))) pss_nil) (pss_cons (ps_if (pt_cmpR (eq_K (K := K) rfl (units64 hr)) (pv 2) pe_int (nomark _)) (pss_one (ps_ret (pe_op (add_K (K := K) rfl) (pe_op (add_K (K := K) rfl) (pe_slice (sl_K (K := K) rfl) (pv 1) po_none (po_some (pv 3))) (pv 4)) (pe_slice (sl_K (K := K) rfl) (pv 1) (po_some (pe_op (add_K (K := K) rfl) (pv 3) pe_int)) po_none)))) pss_nil) (pss_cons (ps_set (i := 6) sc_l_bent.nd rfl (by first | exact Or.inl rfl | exact Or.inr rfl) (pe_call (ok_l_sip T) (hr.mono (by decide)) rfl T.mg_l_sip T.F_l_sip.kp T.b_l_sip .nil pass0 (pa_cons (pv 0) (pa_cons (pe_callB (r := DF.rLen K) (len_K rfl) rfl T.n_len boot_len (pa_cons (pv 5) pa_nil)) pa_nil)))) (pss_cons (ps_if (pt_cmpR op_ltU (pv 2) pe_int (nomark _)) (pss_cons (ps_set (i := 7) sc_l_bent.nd rfl (by first | exact Or.inl rfl | exact Or.inr rfl) (pe_call (ok_l_choose T) (hr.mono (by decide)) rfl T.mg_l_choose T.F_l_choose.kp T.b_l_choose .nil pass0 (pa_cons (pv 0) (pa_cons (pe_lst (pa_cons pe_str (pa_cons pe_str (pa_cons pe_str (pa_cons pe_str (pa_cons pe_str (pa_cons pe_str (pa_cons pe_str (pa_cons pe_str (pa_cons pe_str (pa_cons pe_str (pa_cons pe_str (pa_cons pe_str pa_nil))))))))))))) pa_nil)))) (pss_one (ps_ret (pe_bmK (K := K) rfl PySem.F.plainAttrs_str PySem.F.slot_str_join PySem.F.type_str_join (join_K (K := K) rfl) pe_str (pa_cons (pe_op (add_K (K := K) rfl) (pe_op (add_K (K := K) rfl) (pe_slice (sl_K (K := K) rfl) (pv 5) po_none (po_some (pv 6))) (pe_lst (pa_cons (pv 7) pa_nil))) (pe_slice (sl_K (K := K) rfl) (pv 5) (po_some (pe_op (add_K (K := K) rfl) (pv 6) pe_int)) po_none)) pa_nil))))) pss_nil) (pss_one (ps_ret (pe_bmK (K := K) rfl PySem.F.plainAttrs_str PySem.F.slot_str_join PySem.F.type_str_join (join_K (K := K) rfl) pe_str (pa_cons (pe_ifExp (pt_cmpR (eq_K (K := K) rfl (units64 hr)) (pv 2) pe_int (nomark _)) (pe_op (add_K (K := K) rfl) (pe_slice (sl_K (K := K) rfl) (pv 5) po_none (po_some (pv 6))) (pe_slice (sl_K (K := K) rfl) (pv 5) (po_some (pe_op (add_K (K := K) rfl) (pv 6) pe_int)) po_none)) (pe_op (add_K (K := K) rfl) (pe_op (add_K (K := K) rfl) (pe_slice (sl_K (K := K) rfl) (pv 5) po_none (po_some (pv 6))) (pe_slice (sl_K (K := K) rfl) (pv 5) (po_some (pv 6)) (po_some (pe_op (add_K (K := K) rfl) (pv 6) pe_int)))) (pe_slice (sl_K (K := K) rfl) (pv 5) (po_some (pv 6)) po_none))) pa_nil))))))))))), ?_⟩
  exact body_O (Ns := n_l_bent) (fS := B_l_bent) h (sim_seq (sim_par (sim_cons (sim_call hE0 (sim_cons sim_var (sim_cons sim_int sim_nil))) (sim_cons (sim_call hE0 (sim_cons sim_var (sim_cons (sim_op sim_add (sim_cb sim_len (sim_cons sim_var sim_nil)) sim_int) sim_nil))) sim_nil))) (sim_seq (sim_par (sim_cons (sim_call hE0 (sim_cons sim_var (sim_cons (sim_lst (sim_cons sim_str (sim_cons sim_str (sim_cons sim_str (sim_cons sim_str (sim_cons sim_str (sim_cons sim_str (sim_cons sim_str (sim_cons sim_str sim_nil))))))))) sim_nil))) (sim_cons (sim_bm sim_split sim_var (sim_cons sim_str sim_nil)) sim_nil))) (sim_seq (sim_ifS (sim_test (sim_op sim_lt sim_var sim_int)) (sim_ret (sim_op sim_add (sim_op sim_add (sim_sl sim_var sim_noPart (sim_part sim_var)) sim_var) (sim_sl sim_var (sim_part sim_var) sim_noPart))) sim_next) (sim_seq (sim_ifS (sim_test (sim_op sim_eq sim_var sim_int)) (sim_ret (sim_op sim_add (sim_sl sim_var sim_noPart (sim_part sim_var)) (sim_sl sim_var (sim_part (sim_op sim_add sim_var sim_int)) sim_noPart))) sim_next) (sim_seq (sim_ifS (sim_test (sim_op sim_eq sim_var sim_int)) (sim_ret (sim_op sim_add (sim_op sim_add (sim_sl sim_var sim_noPart (sim_part sim_var)) sim_var) (sim_sl sim_var (sim_part (sim_op sim_add sim_var sim_int)) sim_noPart))) sim_next) (sim_seq (sim_asg (sim_call hE0 (sim_cons sim_var (sim_cons (sim_cb sim_len (sim_cons sim_var sim_nil)) sim_nil)))) (sim_seq (sim_ifS (sim_test (sim_op sim_lt sim_var sim_int)) (sim_seq (sim_asg (sim_call hE0 (sim_cons sim_var (sim_cons (sim_lst (sim_cons sim_str (sim_cons sim_str (sim_cons sim_str (sim_cons sim_str (sim_cons sim_str (sim_cons sim_str (sim_cons sim_str (sim_cons sim_str (sim_cons sim_str (sim_cons sim_str (sim_cons sim_str (sim_cons sim_str sim_nil))))))))))))) sim_nil)))) (sim_ret (sim_bm sim_join sim_str (sim_cons (sim_op sim_add (sim_op sim_add (sim_sl sim_var sim_noPart (sim_part sim_var)) (sim_lst (sim_cons sim_var sim_nil))) (sim_sl sim_var (sim_part (sim_op sim_add sim_var sim_int)) sim_noPart)) sim_nil)))) sim_next) (sim_ret (sim_bm sim_join sim_str (sim_cons (sim_if (sim_test (sim_op sim_eq sim_var sim_int)) (sim_op sim_add (sim_sl sim_var sim_noPart (sim_part sim_var)) (sim_sl sim_var (sim_part (sim_op sim_add sim_var sim_int)) sim_noPart)) (sim_op sim_add (sim_op sim_add (sim_sl sim_var sim_noPart (sim_part sim_var)) (sim_sl sim_var (sim_part sim_var) (sim_part (sim_op sim_add sim_var sim_int)))) (sim_sl sim_var (sim_part sim_var) sim_noPart))) sim_nil))))))))))
theorem ok_l_is_integer (T : Tx w K mg) : FnOk P w K mg base CX0 1 T.f_l_is_integer T.d_l_is_integer ["_law_word_here"] (spF K F_l_is_integer) := by
  refine T.F_l_is_integer.ok sc_l_is_integer (fun vs H Q E h => len_O (n := 3) (fS := B_l_is_integer) h) (fun cdv A outer s H vs Q E hr h => ?_)
  refine ⟨_, (pss_cons (ps_set (i := 1) sc_l_is_integer.nd rfl (by first | exact Or.inl rfl | exact Or.inr rfl) (pe_ifExp (pt_cmpR (eq_K (K := K) rfl (units64 hr)) (pe_slice (sl_K (K := K) rfl) (pv 0) po_none (po_some pe_int)) pe_str (nomark _)) (pe_slice (sl_K (K := K) rfl) (pv 0) (po_some pe_int) po_none) (pv 0))) (pss_cons (ps_if (PW.pt (pw_or (pt_cmpR (eq_K (K := K) rfl (units64 hr)) (pv 1) pe_str (nomark _)) (pw_or (pt_cmpR op_gt (pe_callB (r := DF.rLen K) (len_K rfl) rfl T.n_len boot_len (pa_cons (pv 1) pa_nil)) pe_int (nomark _)) (pw_or1 (pt_cmpR (ne_K (K := K) rfl (units64 hr)) (pe_lc (own := [("_law_sign", 2)]) (g := gName 2) (tt := _) rfl sc_l_is_integer.nd (pi_anyK (K := K) rfl (pv 1)) (blkOk_by (N := n_l_is_integer) (sc := defScope s_l_is_integer) (by decide +kernel)) (fun _ _ _ _ _ => pg_name (i := 2) sc_l_is_integer.nd rfl (by first | exact Or.inl rfl | exact Or.inr rfl)) (fun _ _ _ _ _ => pts_one (pt_cmpR op_notin_str (pv 2) pe_str (by with_unfolding_all rfl))) (fun _ _ _ _ _ => (pv 2))) (pe_lst pa_nil) (nomark _)))))) (pss_one (ps_ret pe_bl)) pss_nil) (pss_one (ps_ret (pe_cmpR (eq_K (K := K) rfl (units64 hr)) (pe_callTy call_str rfl T.n_str boot_str (pa_cons (pe_callTy call_int rfl T.n_int boot_int (pa_cons (pv 0) pa_nil)) pa_nil)) (pv 0) (nomark _)))))), ?_⟩
  exact body_O (Ns := n_l_is_integer) (fS := B_l_is_integer) h (sim_seq (sim_asg (sim_if (sim_test (sim_op sim_eq (sim_sl sim_var sim_noPart (sim_part sim_int)) sim_str)) (sim_sl sim_var (sim_part sim_int) sim_noPart) sim_var)) (sim_seq (sim_ifS (sim_or (sim_test (sim_op sim_eq sim_var sim_str)) (sim_or (sim_test (sim_op sim_gt (sim_cb sim_len (sim_cons sim_var sim_nil)) sim_int)) (sim_test (sim_op sim_ne (sim_lc (sim_wAny sim_var) sim_gname (sim_test (sim_op sim_notInS sim_var sim_str)) sim_var) (sim_lst sim_nil))))) (sim_ret sim_bl) sim_next) (sim_ret (sim_op sim_eq (sim_cb sim_str1 (sim_cons (sim_cb sim_int1 (sim_cons sim_var sim_nil)) sim_nil)) sim_var))))
theorem ok_l_read (T : Tx w K mg) : FnOk P w K mg base CX0 2 T.f_l_read T.d_l_read ["_law_text_here"] (spF K F_l_read) := by
  refine T.F_l_read.ok sc_l_read (fun vs H Q E h => len_O (n := 3) (fS := B_l_read) h) (fun cdv A outer s H vs Q E hr h => ?_)
  refine ⟨_, (pss_cons (ps_set (i := 1) sc_l_read.nd rfl (by first | exact Or.inl rfl | exact Or.inr rfl) (pe_bmK (K := K) rfl PySem.F.plainAttrs_str PySem.F.slot_str_split PySem.F.type_str_split mt_split (pv 0) (pa_cons pe_str pa_nil))) (pss_cons (ps_if (PW.pt (pw_or (pt_cmpR op_ltU (pe_callB (r := DF.rLen K) (len_K rfl) rfl T.n_len boot_len (pa_cons (pv 1) pa_nil)) pe_int (nomark _)) (pw_or (pt_cmpR (ne_K (K := K) rfl (units64 hr)) (pe_ix (r := rIx K) (ix_K (K := K) rfl) (pv 1) pe_int (fun _ _ => rfl)) pe_str (nomark _)) (pw_or (pt_cmpR (notIn_K (K := K) rfl) (pe_ix (r := rIx K) (ix_K (K := K) rfl) (pv 1) pe_int (fun _ _ => rfl)) (pe_lst (pa_cons pe_str (pa_cons pe_str (pa_cons pe_str pa_nil)))) (by with_unfolding_all rfl)) (pw_or1 (pt_cmpR (ne_K (K := K) rfl (units64 hr)) (pe_callB (r := DF.rLen K) (len_K rfl) rfl T.n_len boot_len (pa_cons (pv 1) pa_nil)) (pe_op (add_K (K := K) rfl) pe_int (pe_callTy call_int rfl T.n_int boot_int (pa_cons (pe_ix (r := rIx K) (ix_K (K := K) rfl) (pv 1) pe_int (fun _ _ => rfl)) pa_nil))) (nomark _))))))) (pss_one (ps_ret (pe_tup pa_nil))) pss_nil) (pss_cons (ps_if (pt_cmpR (ne_K (K := K) rfl (units64 hr)) (pe_lc (own := [("_law_word_here", 2)]) (g := gName 2) (tt := _) rfl sc_l_read.nd (pi_anyK (K := K) rfl (pe_slice (sl_K (K := K) rfl) (pv 1) (po_some pe_int) po_none)) (blkOk_by (N := n_l_read) (sc := defScope s_l_read) (by decide +kernel)) (fun _ _ _ _ _ => pg_name (i := 2) sc_l_read.nd rfl (by first | exact Or.inl rfl | exact Or.inr rfl)) (fun _ _ _ _ _ => pts_one (pt_not (pt_truthK (K := K) rfl (pe_call (ok_l_is_integer T) (hr.mono (by decide)) rfl T.mg_l_is_integer T.F_l_is_integer.kp T.b_l_is_integer .nil pass0 (pa_cons (pv 2) pa_nil)) (fun _ => rfl)))) (fun _ _ _ _ _ => (pv 2))) (pe_lst pa_nil) (nomark _)) (pss_one (ps_ret (pe_tup pa_nil))) pss_nil) (pss_one (ps_ret (pe_callTy (tupOf_K (K := K) rfl) rfl T.n_tuple boot_tuple (pa_cons (pe_lc (own := [("_law_word_here", 2)]) (g := gName 2) (tt := tYes) rfl sc_l_read.nd (pi_anyK (K := K) rfl (pe_slice (sl_K (K := K) rfl) (pv 1) (po_some pe_int) po_none)) (blkOk_by (N := n_l_read) (sc := defScope s_l_read) (by decide +kernel)) (fun _ _ _ _ _ => pg_name (i := 2) sc_l_read.nd rfl (by first | exact Or.inl rfl | exact Or.inr rfl)) (fun _ _ _ _ _ => pts_nil) (fun _ _ _ _ _ => (pe_callTy call_int rfl T.n_int boot_int (pa_cons (pv 2) pa_nil)))) pa_nil))))))), ?_⟩
  exact body_O (Ns := n_l_read) (fS := B_l_read) h (sim_seq (sim_asg (sim_bm sim_split sim_var (sim_cons sim_str sim_nil))) (sim_seq (sim_ifS (sim_or (sim_test (sim_op sim_lt (sim_cb sim_len (sim_cons sim_var sim_nil)) sim_int)) (sim_or (sim_test (sim_op sim_ne (sim_op sim_ix sim_var sim_int) sim_str)) (sim_or (sim_test (sim_op sim_inF (sim_op sim_ix sim_var sim_int) (sim_lst (sim_cons sim_str (sim_cons sim_str (sim_cons sim_str sim_nil)))))) (sim_test (sim_op sim_ne (sim_cb sim_len (sim_cons sim_var sim_nil)) (sim_op sim_add sim_int (sim_cb sim_int1 (sim_cons (sim_op sim_ix sim_var sim_int) sim_nil)))))))) (sim_ret (sim_tup sim_nil)) sim_next) (sim_seq (sim_ifS (sim_test (sim_op sim_ne (sim_lc (sim_wAny (sim_sl sim_var (sim_part sim_int) sim_noPart)) sim_gname (sim_not (sim_tru (sim_call hE0 (sim_cons sim_var sim_nil)))) sim_var) (sim_lst sim_nil))) (sim_ret (sim_tup sim_nil)) sim_next) (sim_ret (sim_cb sim_tupOf (sim_cons (sim_lc (sim_wAny (sim_sl sim_var (sim_part sim_int) sim_noPart)) sim_gname sim_yes (sim_cb sim_int1 (sim_cons sim_var sim_nil))) sim_nil))))))
theorem ok_l_shown (T : Tx w K mg) : FnG P w K mg base CX0 6 T.f_l_shown T.d_l_shown ["_law_thing"] (spF K F_l_shown) := by
  refine okG T.F_l_shown sc_l_shown (fun vs H Q E h => len_O (n := 1) (fS := B_l_shown) h) (fun cdv A outer s H vs Q E hr hgd h => ?_)
  refine ⟨_, (pss_one (ps_ret (pe_ifExp (pt_truthK (K := K) rfl (pe_callB (r := rIsi K) (isi_K rfl) rfl T.n_isinstance boot_isinstance (pa_cons (pv 0) (pa_cons (pe_glob (v := .ref T.C_Point) rfl T.mg_Point rfl) pa_nil))) (fun _ => rfl)) (pe_op (add_K (K := K) rfl) pe_str (pe_callTy (DF.CallR.or call_str (call_strI T.stC_Point (ok_Point_str T) T.b_Point_str (hr.mono (by decide)))) rfl T.n_str boot_str (pa_cons (pv 0) pa_nil))) (pe_callB (reprZ_K (K := K) rfl hgd (units128 hr)) rfl T.n_repr boot_repr (pa_cons (pv 0) pa_nil))))), ?_⟩
  exact body_O (Ns := n_l_shown) (fS := B_l_shown) h (sim_ret (sim_if (sim_tru (sim_cb (sim_isi (isiT T)) (sim_cons sim_var (sim_cons (sim_cls T.ct_Point) sim_nil)))) (sim_op sim_add sim_str (sim_cb (DF.SimC.or sim_str1 (sim_strI T.ct_Point)) (sim_cons sim_var sim_nil))) (sim_cb (DF.SimC.or sim_repr sim_repr0) (sim_cons sim_var sim_nil))))
theorem okQ_l_shown (T : Tx w K mg) {a : Addr} {oe : Obj} : FnQ P w K mg base 6 T.f_l_shown T.d_l_shown ["_law_thing"] a oe (spF K FQ_l_shown) := by
  refine okQ T.F_l_shown sc_l_shown (fun vs H Q E h => len_O (n := 1) (fS := BQ_l_shown) h) (fun cdv A outer s H vs Q E hr hgd h => ?_)
  refine ⟨_, (pss_one (ps_ret (pe_ifExp (pt_truthK (K := K) rfl (pe_callB (r := rIsi K) (isi_K rfl) rfl T.n_isinstance boot_isinstance (pa_cons (pv 0) (pa_cons (pe_glob (v := .ref T.C_Point) rfl T.mg_Point rfl) pa_nil))) (fun _ => rfl)) (pe_op (add_K (K := K) rfl) pe_str (pe_callTy call_str rfl T.n_str boot_str (pa_cons (pv 0) pa_nil))) (pe_callB (reprZ_K (K := K) rfl hgd (units128H hr)) rfl T.n_repr boot_repr (pa_cons (pv 0) pa_nil))))), ?_⟩
  exact body_O (Ns := n_l_shown) (fS := BQ_l_shown) h (sim_ret (sim_if (sim_tru (sim_cb (sim_isi (isiT T)) (sim_cons sim_var (sim_cons (sim_cls T.ct_Point) sim_nil)))) (sim_op sim_add sim_str (sim_cb sim_str1 (sim_cons sim_var sim_nil))) (sim_cb (DF.SimC.or sim_repr sim_repr0) (sim_cons sim_var sim_nil))))
omit [TbC] in
theorem ok_l_class (T : Tx w K mg) {a : Addr} {oe : Obj} {cls : Value} {dd0 : Option Addr} (hz : Zc cls dd0 oe) (hf : ∃ vs, oe.data = Data.fields vs) : FnQ P w K mg base 7 T.f_l_class T.d_l_class ["_law_e"] a oe (spZ K a cls dd0 F_l_class) := by
  refine fnZ fun t C dd c f fv d e1 e2 ct ea hzz => ?_
  subst e1 e2 ea
  refine okQ T.F_l_class sc_l_class (fun vs H Q E h => len_O (n := 5) (fS := B_l_class c f d) h) (fun cdv A outer s H vs Q E hr hgd h => ?_)
  refine ⟨_, (pss_cons (ps_set (i := 1) sc_l_class.nd rfl (by first | exact Or.inl rfl | exact Or.inr rfl) (pe_lst (pa_cons (pe_callB (call_isQ (K := K) rfl (by exact List.mem_cons_self) hz hf) rfl T.n_isinstance boot_isinstance (pa_cons (pv 0) (pa_cons (pe_glob (v := .ref T.C_InvalidNumbers) rfl T.mg_InvalidNumbers rfl) pa_nil))) (pa_cons (pe_callB (call_isQ (K := K) rfl (by exact List.mem_cons_self) hz hf) rfl T.n_isinstance boot_isinstance (pa_cons (pv 0) (pa_cons (pe_glob (v := .ref T.C_InvalidText) rfl T.mg_InvalidText rfl) pa_nil))) (pa_cons (pe_callB (call_isQ (K := K) rfl (by exact List.mem_cons_self) hz hf) rfl T.n_isinstance boot_isinstance (pa_cons (pv 0) (pa_cons (pe_glob (v := .ref T.C_InvalidNumber) rfl T.mg_InvalidNumber rfl) pa_nil))) pa_nil))))) (pss_cons (ps_set (i := 1) sc_l_class.nd rfl (by first | exact Or.inl rfl | exact Or.inr rfl) (pe_op (add_K (K := K) rfl) (pv 1) (pe_lst (pa_cons (pe_callB (call_isQ (K := K) rfl (by exact List.mem_cons_self) hz hf) rfl T.n_isinstance boot_isinstance (pa_cons (pv 0) (pa_cons (pe_glob (v := .ref T.C_NotAChange) rfl T.mg_NotAChange rfl) pa_nil))) (pa_cons (pe_callB (call_isQ (K := K) rfl (by exact List.mem_cons_self) hz hf) rfl T.n_isinstance boot_isinstance (pa_cons (pv 0) (pa_cons (pe_glob (v := .ref T.C_OtherWorld) rfl T.mg_OtherWorld rfl) pa_nil))) pa_nil))))) (pss_cons (ps_set (i := 2) sc_l_class.nd rfl (by first | exact Or.inl rfl | exact Or.inr rfl) (pe_ifExp (pt_cmpR (eq_K (K := K) rfl (units64H hr)) (pe_bmK (K := K) rfl PySem.F.plainAttrs_list PySem.F.slot_list_count PySem.F.type_list_count (lcount_K (K := K) rfl) (pv 1) (pa_cons pe_bl pa_nil)) pe_int (nomark _)) (pe_bmK (K := K) rfl PySem.F.plainAttrs_list PySem.F.slot_list_index PySem.F.type_list_index (index_K (K := K) rfl) (pv 1) (pa_cons pe_bl pa_nil)) pe_int)) (pss_cons (ps_set (i := 3) sc_l_class.nd rfl (by first | exact Or.inl rfl | exact Or.inr rfl) (pe_lst (pa_cons (pe_callB (call_isQ (K := K) rfl (by exact List.mem_cons_self) hz hf) rfl T.n_isinstance boot_isinstance (pa_cons (pv 0) (pa_cons (pe_glob (v := .ref T.C_WrongValue) rfl T.mg_WrongValue rfl) pa_nil))) (pa_cons (pe_callB (call_isQ (K := K) rfl (by exact List.mem_cons_self) hz hf) rfl T.n_isinstance boot_isinstance (pa_cons (pv 0) (pa_cons (pe_glob (v := .ref T.C_WrongName) rfl T.mg_WrongName rfl) pa_nil))) (pa_cons (pe_callB (call_isQ (K := K) rfl (by exact List.mem_cons_self) hz hf) rfl T.n_isinstance boot_isinstance (pa_cons (pv 0) (pa_cons (pe_glob (v := .ref T.C_NotPossible) rfl T.mg_NotPossible rfl) pa_nil))) pa_nil))))) (pss_cons (ps_set (i := 4) sc_l_class.nd rfl (by first | exact Or.inl rfl | exact Or.inr rfl) (pe_lst (pa_cons (pe_callB (call_isQ (K := K) rfl (by exact List.mem_cons_self) hz hf) rfl T.n_isinstance boot_isinstance (pa_cons (pv 0) (pa_cons (pe_bltn (v := .ty "ValueError") rfl T.n_ValueError bt_ValueError rfl) pa_nil))) (pa_cons (pe_callB (call_isQ (K := K) rfl (by exact List.mem_cons_self) hz hf) rfl T.n_isinstance boot_isinstance (pa_cons (pv 0) (pa_cons (pe_bltn (v := .ty "LookupError") rfl T.n_LookupError bt_LookupError rfl) pa_nil))) (pa_cons (pe_callB (call_isQ (K := K) rfl (by exact List.mem_cons_self) hz hf) rfl T.n_isinstance boot_isinstance (pa_cons (pv 0) (pa_cons (pe_bltn (v := .ty "ArithmeticError") rfl T.n_ArithmeticError bt_ArithmeticError rfl) pa_nil))) pa_nil))))) (pss_cons (ps_if (PW.pt (pw_or (pt_cmpR op_gt (pv 2) pe_int (nomark _)) (pw_or (pt_cmpR (ne_K (K := K) rfl (units64H hr)) (pv 3) (pv 4) (nomark _)) (pw_or1 (pt_cmpR (ne_K (K := K) rfl (units64H hr)) (pv 3) (pe_lst (pa_cons (pe_cmpR op_ltU (pv 2) pe_int (nomark _)) (pa_cons pe_bl (pa_cons (pe_cmpR (eq_K (K := K) rfl (units64H hr)) (pv 2) pe_int (nomark _)) pa_nil)))) (nomark _)))))) (pss_one (ps_ret (pe_lst (pa_cons pe_str (pa_cons pe_str pa_nil))))) pss_nil) (pss_one (ps_ret (pe_lst (pa_cons (pe_ix (r := rIx K) (ix_K (K := K) rfl) (pe_lst (pa_cons pe_str (pa_cons pe_str (pa_cons pe_str (pa_cons pe_str (pa_cons pe_str pa_nil)))))) (pv 2) (fun _ _ => rfl)) (pa_cons (pe_callQ2 (okQ_l_shown T) (hr.mono (by decide)) hgd (by exact List.mem_cons_self) rfl T.mg_l_shown T.F_l_shown.kp T.b_l_shown (pa_cons (pe_xfQ (K := K) rfl (by exact List.mem_cons_self) hz hf (pv 0)) pa_nil)) pa_nil))))))))))), ?_⟩
  exact body_O (Ns := n_l_class) (fS := B_l_class c f d) h (sim_seq (sim_asg (sim_lst (sim_cons (sim_isC T.kt T.lv ct T.ct_InvalidNumbers hzz) (sim_cons (sim_isC T.kt T.lv ct T.ct_InvalidText hzz) (sim_cons (sim_isC T.kt T.lv ct T.ct_InvalidNumber hzz) sim_nil))))) (sim_seq (sim_asg (sim_op sim_add sim_var (sim_lst (sim_cons (sim_isC T.kt T.lv ct T.ct_NotAChange hzz) (sim_cons (sim_isC T.kt T.lv ct T.ct_OtherWorld hzz) sim_nil))))) (sim_seq (sim_asg (sim_if (sim_test (sim_op sim_eq (sim_bm sim_lcount sim_var (sim_cons sim_bl sim_nil)) sim_int)) (sim_bm sim_index sim_var (sim_cons sim_bl sim_nil)) sim_int)) (sim_seq (sim_asg (sim_lst (sim_cons (sim_isC T.kt T.lv ct T.ct_WrongValue hzz) (sim_cons (sim_isC T.kt T.lv ct T.ct_WrongName hzz) (sim_cons (sim_isC T.kt T.lv ct T.ct_NotPossible hzz) sim_nil))))) (sim_seq (sim_asg (sim_lst (sim_cons (sim_isCT T.kty T.lv ct hzz) (sim_cons (sim_isCT T.kty T.lv ct hzz) (sim_cons (sim_isCT T.kty T.lv ct hzz) sim_nil))))) (sim_seq (sim_ifS (sim_or (sim_test (sim_op sim_gt sim_var sim_int)) (sim_or (sim_test (sim_op sim_ne sim_var sim_var)) (sim_test (sim_op sim_ne sim_var (sim_lst (sim_cons (sim_op sim_lt sim_var sim_int) (sim_cons sim_bl (sim_cons (sim_op sim_eq sim_var sim_int) sim_nil)))))))) (sim_ret (sim_lst (sim_cons sim_str (sim_cons sim_str sim_nil)))) sim_next) (sim_ret (sim_lst (sim_cons (sim_op sim_ix (sim_lst (sim_cons sim_str (sim_cons sim_str (sim_cons sim_str (sim_cons sim_str (sim_cons sim_str sim_nil)))))) sim_var) (sim_cons (sim_call hE0 (sim_cons (sim_gvC T.lv ct hzz) sim_nil)) sim_nil))))))))))

theorem gv_l_heard (T : Tx w K mg) : ∀ cdv, LamD P w K mg base true 7 "_law_heard" (defScope s_l_heard) T.f_l_heard cdv n_l_heard (defBody s_l_heard) "_law_act" B_l_heard := fun cdv => by
  refine ⟨fun A out s H aT hr hgd hact => ?_⟩
  have hgd := hgd rfl
  refine ⟨_, (pss_cons (ps_try_T rfl rfl sc_l_heard.nd L2.takes0 (fun W pn xe tk _ => (pss_one (ps_set (i := 1) sc_l_heard.nd rfl (by first | exact Or.inl rfl | exact Or.inr rfl) (hact W pn xe _ _ tk)))) (by exact (.cons (i := 2) (.tup (.cons ⟨rfl, by decide, .inl T.mg_WrongValue⟩ (.cons ⟨rfl, by decide, .inl T.mg_WrongName⟩ (.cons ⟨rfl, by decide, .inl T.mg_NotPossible⟩ .nil))) (Nat.le_of_ble_eq_true rfl)) rfl rfl (fun a oe cls d pn hz hf hnb => (pss_one (ps_ret (pe_callQ (ok_l_class T hz hf) (hr.mono (by decide)) hgd rfl T.mg_l_class T.F_l_class.kp T.b_l_class (pa_cons (pv 2) pa_nil))))) .nil))) (pss_one (ps_ret (pe_lst (pa_cons pe_str (pa_cons (pe_callG (okAG fun t2 => letI : TbC := t2; ok_l_shown T) (hr.mono (by decide)) hgd rfl T.mg_l_shown T.F_l_shown.kp T.b_l_shown (pa_cons (pv 1) pa_nil)) pa_nil)))))), fun t1 act hsim => ?_⟩
  exact (sim_seq (sim_try T.xt (.cons (.cons T.ct_WrongValue (.cons T.ct_WrongName (.cons T.ct_NotPossible .nil))) (fun t C dd c f fv d ct hzz => (sim_ret (sim_callX ct hzz))) .nil) (fun W => (sim_asg (hsim W)))) (sim_ret (sim_lst (sim_cons sim_str (sim_cons (sim_callA hE0 (sim_cons sim_var sim_nil)) sim_nil)))))

theorem ok_l_refused_right (T : Tx w K mg) (B : Tb T base) : FnG P w K mg base CX0 9 T.f_l_refused_right T.d_l_refused_right ["_law_tun_here"] (spF K F_l_refused_right) := by
  have hT := B.ne
  refine okGC T.F_l_refused_right sc_l_refused_right (fun vs H Q E h => len_O (n := 5) (fS := B_l_refused_right) h) (fun A outer s H vs Q E hr hgd h => ?_)
  refine ⟨_, (pss_cons (ps_set (i := 1) sc_l_refused_right.nd rfl (by first | exact Or.inl rfl | exact Or.inr rfl) (pe_lst (pa_cons pe_non (pa_cons pe_int (pa_cons pe_str (pa_cons (pe_lst (pa_cons pe_int (pa_cons (pe_un un_neg pe_int) pa_nil))) (pa_cons (pe_tup pa_nil) (pa_cons (pe_tup (pa_cons pe_int (pa_cons pe_int (pa_cons pe_int (pa_cons pe_int pa_nil))))) (pa_cons (pe_tup (pa_cons pe_bl pa_nil)) (pa_cons (pe_tup (pa_cons pe_int (pa_cons pe_non pa_nil))) (pa_cons (pe_tup (pa_cons pe_int (pa_cons pe_str pa_nil))) (pa_cons (pe_tup (pa_cons (pe_tup (pa_cons pe_int pa_nil)) pa_nil)) (pa_cons (pe_tup (pa_cons pe_int (pa_cons pe_bl pa_nil))) (pa_cons pe_dnewK (pa_cons (pe_tup (pa_cons pe_int (pa_cons (pe_lst (pa_cons pe_int pa_nil)) pa_nil))) pa_nil))))))))))))))) (pss_cons (ps_set (i := 2) sc_l_refused_right.nd rfl (by first | exact Or.inl rfl | exact Or.inr rfl) (pe_call (ok_l_choose T) (hr.mono (by decide)) rfl T.mg_l_choose T.F_l_choose.kp T.b_l_choose .nil pass0 (pa_cons (pv 0) (pa_cons (pv 1) pa_nil)))) (pss_cons (ps_set (i := 3) sc_l_refused_right.nd rfl (by first | exact Or.inl rfl | exact Or.inr rfl) (pe_lst (pa_cons (pe_lamF (k := 6) (q0 := ("_law_refused_right" : Str) ++ ".<locals>.") (gd := true) (Ng := n_l_heard) (c := T.c_l_refused_right) (P := T.P_l_refused_right) (B := B_l_heard) (a := "_law_act") (x := "_law_heard") (T := TbC.T) T.F_l_heard (fun cdv => (gv_l_heard (P := P) (base := base) T cdv).mono (by decide)) (fun _ => hgd) rfl T.mg_l_heard T.b_l_heard sc_l_heard rfl (Or.inl rfl) (B.tb_l_refused_right) rfl rfl B.m_l_refused_right B.u_l_refused_right (hr.mono (by decide)) (lamS_by (by kernel_rfl)) rfl (fun _ _ _ _ _ => rfl) (fun A out s H E f c' hr => (pe_make (CX := L2.CX P w) (E := E) T.mk_Point (okE_Point_init T) (hr.mono (by decide)) rfl T.mg_Point T.b_Point_init .nil (by exact passLm) (pa_cons (pv 2) pa_nil)))) pa_nil))) (pss_cons (ps_expr (pe_bmK (K := K) rfl (r := rAppend) PySem.F.plainAttrs_list PySem.F.slot_list_append PySem.F.type_list_append mt_append (pv 3) (pa_cons (pe_lamF (k := 6) (q0 := ("_law_refused_right" : Str) ++ ".<locals>.") (gd := true) (Ng := n_l_heard) (c := T.c_l_refused_right) (P := T.P_l_refused_right) (B := B_l_heard) (a := "_law_act") (x := "_law_heard") (T := TbC.T) T.F_l_heard (fun cdv => (gv_l_heard (P := P) (base := base) T cdv).mono (by decide)) (fun _ => hgd) rfl T.mg_l_heard T.b_l_heard sc_l_heard rfl (Or.inl rfl) (B.tb_l_refused_right) rfl rfl B.m_l_refused_right B.u_l_refused_right (hr.mono (by decide)) (lamS_by (by kernel_rfl)) rfl (fun _ _ _ _ _ => rfl) (fun A out s H E f c' hr => (pe_makeK0 (CX := L2.CX P w) (E := E) T.mk_Point (okE_Point_init T) (hr.mono (by decide)) rfl T.mg_Point (kb_Point_init_0_numbers T) (by exact passLm) (pk_cons (pv 2) pk_nil)))) pa_nil))) (pss_cons (ps_set (i := 1) sc_l_refused_right.nd rfl (by first | exact Or.inl rfl | exact Or.inr rfl) (pe_lst (pa_cons pe_non (pa_cons pe_int (pa_cons pe_bl (pa_cons (pe_tup (pa_cons pe_str pa_nil)) (pa_cons (pe_lst (pa_cons pe_str pa_nil)) (pa_cons pe_str (pa_cons pe_str (pa_cons pe_str (pa_cons pe_str (pa_cons pe_dnewK (pa_cons pe_str pa_nil))))))))))))) (pss_cons (ps_set (i := 4) sc_l_refused_right.nd rfl (by first | exact Or.inl rfl | exact Or.inr rfl) (pe_call (ok_l_choose T) (hr.mono (by decide)) rfl T.mg_l_choose T.F_l_choose.kp T.b_l_choose .nil pass0 (pa_cons (pv 0) (pa_cons (pe_op (add_K (K := K) rfl) (pv 1) (pe_lst (pa_cons pe_str pa_nil))) pa_nil)))) (pss_cons (ps_expr (pe_bmK (K := K) rfl (r := rAppend) PySem.F.plainAttrs_list PySem.F.slot_list_append PySem.F.type_list_append mt_append (pv 3) (pa_cons (pe_lamF (k := 6) (q0 := ("_law_refused_right" : Str) ++ ".<locals>.") (gd := true) (Ng := n_l_heard) (c := T.c_l_refused_right) (P := T.P_l_refused_right) (B := B_l_heard) (a := "_law_act") (x := "_law_heard") (T := TbC.T) T.F_l_heard (fun cdv => (gv_l_heard (P := P) (base := base) T cdv).mono (by decide)) (fun _ => hgd) rfl T.mg_l_heard T.b_l_heard sc_l_heard rfl (Or.inl rfl) (B.tb_l_refused_right) rfl rfl B.m_l_refused_right B.u_l_refused_right (hr.mono (by decide)) (lamS_by (by kernel_rfl)) rfl (fun _ _ _ _ _ => rfl) (fun A out s H E f c' hr => (ClX.pe_cmeth (CX := L2.CX P w) (E := E) (pe_glob (v := .ref T.C_Point) rfl T.mg_Point rfl) T.cr_Point T.cm_Point_read (toR (okE_Point_read T) T.b_Point_read) (hr.mono (by decide)) (by exact passLm) (pa_cons (pv 4) pa_nil)))) pa_nil))) (pss_cons (ps_expr (pe_bmK (K := K) rfl (r := rAppend) PySem.F.plainAttrs_list PySem.F.slot_list_append PySem.F.type_list_append mt_append (pv 3) (pa_cons (pe_lamF (k := 6) (q0 := ("_law_refused_right" : Str) ++ ".<locals>.") (gd := true) (Ng := n_l_heard) (c := T.c_l_refused_right) (P := T.P_l_refused_right) (B := B_l_heard) (a := "_law_act") (x := "_law_heard") (T := TbC.T) T.F_l_heard (fun cdv => (gv_l_heard (P := P) (base := base) T cdv).mono (by decide)) (fun _ => hgd) rfl T.mg_l_heard T.b_l_heard sc_l_heard rfl (Or.inl rfl) (B.tb_l_refused_right) rfl rfl B.m_l_refused_right B.u_l_refused_right (hr.mono (by decide)) (lamS_by (by kernel_rfl)) rfl (fun _ _ _ _ _ => rfl) (fun A out s H E f c' hr => (pe_cmethN (CX := L2.CX P w) (E := E) (pe_glob (v := .ref T.C_Point) rfl T.mg_Point rfl) T.cr_Point T.cm_Point_read (okE_Point_read T) (hr.mono (by decide)) (kb_Point_read_1_text T) (by exact passLm) (pk_cons (pv 4) pk_nil)))) pa_nil))) (pss_one (ps_ret (pe_cmpR (eq_K (K := K) rfl (units64 hr)) (pv 3) (pe_op (add_K (K := K) rfl) (pe_op (mul_K (K := K) rfl) (pe_lst (pa_cons (pe_lst (pa_cons pe_str (pa_cons (pe_callB (reprZ_K (K := K) rfl hgd (units128 hr)) rfl T.n_repr boot_repr (pa_cons (pv 2) pa_nil)) pa_nil))) pa_nil)) pe_int) (pe_op (mul_K (K := K) rfl) (pe_lst (pa_cons (pe_lst (pa_cons pe_str (pa_cons (pe_callB (reprZ_K (K := K) rfl hgd (units128 hr)) rfl T.n_repr boot_repr (pa_cons (pv 4) pa_nil)) pa_nil))) pa_nil)) pe_int)) (nomark _)))))))))))), ?_⟩
  exact body_O (Ns := n_l_refused_right) (fS := B_l_refused_right) h (sim_seq (sim_asg (sim_lst (sim_cons sim_non (sim_cons sim_int (sim_cons sim_str (sim_cons (sim_lst (sim_cons sim_int (sim_cons (sim_un sim_neg sim_int) sim_nil))) (sim_cons (sim_tup sim_nil) (sim_cons (sim_tup (sim_cons sim_int (sim_cons sim_int (sim_cons sim_int (sim_cons sim_int sim_nil))))) (sim_cons (sim_tup (sim_cons sim_bl sim_nil)) (sim_cons (sim_tup (sim_cons sim_int (sim_cons sim_non sim_nil))) (sim_cons (sim_tup (sim_cons sim_int (sim_cons sim_str sim_nil))) (sim_cons (sim_tup (sim_cons (sim_tup (sim_cons sim_int sim_nil)) sim_nil)) (sim_cons (sim_tup (sim_cons sim_int (sim_cons sim_bl sim_nil))) (sim_cons sim_dnew (sim_cons (sim_tup (sim_cons sim_int (sim_cons (sim_lst (sim_cons sim_int sim_nil)) sim_nil))) sim_nil))))))))))))))) (sim_seq (sim_asg (sim_call hE0 (sim_cons sim_var (sim_cons sim_var sim_nil)))) (sim_seq (sim_asg (sim_lstO (sim_cons (sim_lam hT (by decide) (fun E => (sim_make T.ct_Point (fun _ _ _ _ z => z) (sim_cons sim_var sim_nil)))) sim_nil))) (sim_seq (sim_drop (sim_append (sim_lam hT (by decide) (fun E => (sim_makeN (ix := [0]) T.ct_Point (fun _ _ _ _ z => z) sim_nil (sim_cons sim_var sim_nil)))))) (sim_seq (sim_asg (sim_lst (sim_cons sim_non (sim_cons sim_int (sim_cons sim_bl (sim_cons (sim_tup (sim_cons sim_str sim_nil)) (sim_cons (sim_lst (sim_cons sim_str sim_nil)) (sim_cons sim_str (sim_cons sim_str (sim_cons sim_str (sim_cons sim_str (sim_cons sim_dnew (sim_cons sim_str sim_nil))))))))))))) (sim_seq (sim_asg (sim_call hE0 (sim_cons sim_var (sim_cons (sim_op sim_add sim_var (sim_lst (sim_cons sim_str sim_nil))) sim_nil)))) (sim_seq (sim_drop (sim_append (sim_lam hT (by decide) (fun E => (sim_cmeth T.ct_Point (fun _ _ _ _ z => z) (sim_cons sim_var sim_nil)))))) (sim_seq (sim_drop (sim_append (sim_lam hT (by decide) (fun E => (sim_cmethN T.ct_Point (fun _ _ _ _ z => z) (sim_cons sim_var sim_nil)))))) (sim_ret (sim_pk (sim_op sim_eq sim_var (sim_op sim_add (sim_op sim_mul (sim_lst (sim_cons (sim_lst (sim_cons sim_str (sim_cons (sim_cb (DF.SimC.or sim_repr sim_repr0) (sim_cons sim_var sim_nil)) sim_nil))) sim_nil)) sim_int) (sim_op sim_mul (sim_lst (sim_cons (sim_lst (sim_cons sim_str (sim_cons (sim_cb (DF.SimC.or sim_repr sim_repr0) (sim_cons sim_var sim_nil)) sim_nil))) sim_nil)) sim_int)))))))))))))
theorem ok_l_right (T : Tx w K mg) (B : Tb T base) : FnG P w K mg base CX0 12 T.f_l_right T.d_l_right ["_law_tun_here"] (spF K F_l_right) := by
  have hT := B.ne
  refine okGC T.F_l_right sc_l_right (fun vs H Q E h => len_O (n := 14) (fS := B_l_right) h) (fun A outer s H vs Q E hr hgd h => ?_)
  refine ⟨_, (pss_cons (ps_for PassesOwn.never rfl (pi_range1 rfl T.n_range (pa_cons pe_int pa_nil)) (pg_name (i := 1) sc_l_right.nd rfl (by first | exact Or.inl rfl | exact Or.inr rfl)) (pss_cons (ps_par (i := 2) (j := 3) rfl sc_l_right.nd rfl rfl (by decide) rfl rfl (pa_cons (pe_call (ok_l_numbers T) (hr.mono (by decide)) rfl T.mg_l_numbers T.F_l_numbers.kp T.b_l_numbers .nil pass0 (pa_cons (pv 0) (pa_cons (pe_op (add_K (K := K) rfl) pe_int (pe_call (ok_l_sip T) (hr.mono (by decide)) rfl T.mg_l_sip T.F_l_sip.kp T.b_l_sip .nil pass0 (pa_cons (pv 0) (pa_cons pe_int pa_nil)))) pa_nil))) (pa_cons (pe_call (ok_l_numbers T) (hr.mono (by decide)) rfl T.mg_l_numbers T.F_l_numbers.kp T.b_l_numbers .nil pass0 (pa_cons (pv 0) (pa_cons (pe_op (add_K (K := K) rfl) pe_int (pe_call (ok_l_sip T) (hr.mono (by decide)) rfl T.mg_l_sip T.F_l_sip.kp T.b_l_sip .nil pass0 (pa_cons (pv 0) (pa_cons pe_int pa_nil)))) pa_nil))) pa_nil)) rfl) (pss_cons (ps_asg (pe_tup (pa_cons (pe_make T.mk_Point (ok_Point_init T) (hr.mono (by decide)) rfl T.mg_Point T.b_Point_init .nil pass0 (pa_cons (pv 2) pa_nil)) (pa_cons (pe_call (ok_l_page T) (hr.mono (by decide)) rfl T.mg_l_page T.F_l_page.kp T.b_l_page .nil pass0 (pa_cons (pv 2) pa_nil)) pa_nil))) (pg_tup rfl (pgs_cons (pg_name (i := 4) sc_l_right.nd rfl (by first | exact Or.inl rfl | exact Or.inr rfl)) (pgs_cons (pg_name (i := 5) sc_l_right.nd rfl (by first | exact Or.inl rfl | exact Or.inr rfl)) pgs_nil)))) (pss_cons (ps_if (pt_cmpR (DF.OpR.or (ne_K (K := K) rfl (units64 hr)) (neI_K (K := K) rfl T.eqC_Point (ok_Point_eq T) T.b_Point_eq (hr.mono (by decide)))) (pe_callB (r := DF.rReprU K) (repr_K rfl hgd (units128 hr)) rfl T.n_repr boot_repr (pa_cons (pe_lst (pa_cons (pe_prop (pv 4) T.cl_Point T.pr_Point_numbers (ok_Point_numbers T) (hr.mono (by decide)) T.b_Point_numbers .nil pass0 rfl) (pa_cons (pe_callTy (DF.CallR.or call_str (call_strI T.stC_Point (ok_Point_str T) T.b_Point_str (hr.mono (by decide)))) rfl T.n_str boot_str (pa_cons (pv 4) pa_nil)) (pa_cons (pe_callB (call_lenI T.lnC_Point (ok_Point_len T) T.b_Point_len (hr.mono (by decide))) rfl T.n_len boot_len (pa_cons (pv 4) pa_nil)) (pa_cons (pe_callTy (call_boolL T.nb_Point T.lnC_Point (ok_Point_len T) T.b_Point_len (hr.mono (by decide))) rfl T.n_bool boot_bool (pa_cons (pv 4) pa_nil)) pa_nil))))) pa_nil)) (pe_callB (r := DF.rReprU K) (repr_K rfl hgd (units128 hr)) rfl T.n_repr boot_repr (pa_cons (pe_lst (pa_cons (pv 2) (pa_cons (pv 5) (pa_cons (pe_callB (r := DF.rLen K) (len_K rfl) rfl T.n_len boot_len (pa_cons (pv 2) pa_nil)) (pa_cons pe_bl pa_nil))))) pa_nil)) (nomark _)) (pss_one (ps_ret pe_bl)) pss_nil) (pss_cons (ps_set (i := 6) sc_l_right.nd rfl (by first | exact Or.inl rfl | exact Or.inr rfl) (pe_lst (pa_cons (pe_makeK0 T.mk_Point (ok_Point_init T) (hr.mono (by decide)) rfl T.mg_Point (kb_Point_init_0_numbers T) pass0 (pk_cons (pv 2) pk_nil)) (pa_cons (ClX.pe_cmeth (pe_glob (v := .ref T.C_Point) rfl T.mg_Point rfl) T.cr_Point T.cm_Point_read (toR (ok_Point_read T) T.b_Point_read) (hr.mono (by decide)) pass0 (pa_cons (pv 5) pa_nil)) (pa_cons (pe_cmethN (pe_glob (v := .ref T.C_Point) rfl T.mg_Point rfl) T.cr_Point T.cm_Point_read (ok_Point_read T) (hr.mono (by decide)) (kb_Point_read_1_text T) pass0 (pk_cons (pv 5) pk_nil)) pa_nil))))) (pss_cons (ps_if (PW.pt (pw_or (pt_cmpR (DF.OpR.or (ne_K (K := K) rfl (units64 hr)) (neI_K (K := K) rfl T.eqC_Point (ok_Point_eq T) T.b_Point_eq (hr.mono (by decide)))) (pe_lc (own := [("_law_mate", 12)]) (g := gName 12) (tt := tYes) rfl sc_l_right.nd (pi_anyK (K := K) rfl (pv 6)) (blkOk_by (N := n_l_right) (sc := defScope s_l_right) (by decide +kernel)) (fun _ _ _ _ _ => pg_name (i := 12) sc_l_right.nd rfl (by first | exact Or.inl rfl | exact Or.inr rfl)) (fun _ _ _ _ _ => pts_nil) (fun _ _ _ _ _ => (pe_cmpR (DF.OpR.or (eq_K (K := K) rfl (units64 hr)) (eqI_K (K := K) rfl T.eqC_Point (ok_Point_eq T) T.b_Point_eq (hr.mono (by decide)))) (pv 12) (pv 4) (nomark _)))) (pe_op (mul_K (K := K) rfl) (pe_lst (pa_cons pe_bl pa_nil)) pe_int) (nomark _)) (pw_or1 (pt_cmpR (DF.OpR.or (ne_K (K := K) rfl (units64 hr)) (neI_K (K := K) rfl T.eqC_Point (ok_Point_eq T) T.b_Point_eq (hr.mono (by decide)))) (pe_lc (own := [("_law_mate", 12)]) (g := gName 12) (tt := tYes) rfl sc_l_right.nd (pi_anyK (K := K) rfl (pv 6)) (blkOk_by (N := n_l_right) (sc := defScope s_l_right) (by decide +kernel)) (fun _ _ _ _ _ => pg_name (i := 12) sc_l_right.nd rfl (by first | exact Or.inl rfl | exact Or.inr rfl)) (fun _ _ _ _ _ => pts_nil) (fun _ _ _ _ _ => (pe_cmpR (DF.OpR.or (ne_K (K := K) rfl (units64 hr)) (neI_K (K := K) rfl T.eqC_Point (ok_Point_eq T) T.b_Point_eq (hr.mono (by decide)))) (pv 12) (pv 4) (nomark _)))) (pe_op (mul_K (K := K) rfl) (pe_lst (pa_cons pe_bl pa_nil)) pe_int) (nomark _))))) (pss_one (ps_ret pe_bl)) pss_nil) (pss_cons (ps_set (i := 7) sc_l_right.nd rfl (by first | exact Or.inl rfl | exact Or.inr rfl) (pe_lst (pa_cons (pe_make T.mk_Point (ok_Point_init T) (hr.mono (by decide)) rfl T.mg_Point T.b_Point_init .nil pass0 (pa_cons (pe_op (add_K (K := K) rfl) (pe_tup (pa_cons (pe_op (add_K (K := K) rfl) (pe_ix (r := rIx K) (ix_K (K := K) rfl) (pv 2) pe_int (fun _ _ => rfl)) pe_int) pa_nil)) (pe_slice (sl_K (K := K) rfl) (pv 2) (po_some pe_int) po_none)) pa_nil)) (pa_cons (pe_ifExp (pt_cmpR op_ltU (pe_callB (r := DF.rLen K) (len_K rfl) rfl T.n_len boot_len (pa_cons (pv 2) pa_nil)) pe_int (nomark _)) (pe_make T.mk_Point (ok_Point_init T) (hr.mono (by decide)) rfl T.mg_Point T.b_Point_init .nil pass0 (pa_cons (pe_op (add_K (K := K) rfl) (pe_tup (pa_cons pe_int pa_nil)) (pe_slice (sl_K (K := K) rfl) (pv 2) po_none (po_some pe_int))) pa_nil)) pe_non) (pa_cons (pv 5) (pa_cons (pv 2) (pa_cons pe_non pa_nil))))))) (pss_cons (ps_if (PW.pt (pw_or (pt_cmpR (DF.OpR.or (ne_K (K := K) rfl (units64 hr)) (neI_K (K := K) rfl T.eqC_Point (ok_Point_eq T) T.b_Point_eq (hr.mono (by decide)))) (pe_lc (own := [("_law_each", 13)]) (g := gName 13) (tt := tYes) rfl sc_l_right.nd (pi_anyK (K := K) rfl (pv 7)) (blkOk_by (N := n_l_right) (sc := defScope s_l_right) (by decide +kernel)) (fun _ _ _ _ _ => pg_name (i := 13) sc_l_right.nd rfl (by first | exact Or.inl rfl | exact Or.inr rfl)) (fun _ _ _ _ _ => pts_nil) (fun _ _ _ _ _ => (pe_cmpR (DF.OpR.or (eq_K (K := K) rfl (units64 hr)) (eqI_K (K := K) rfl T.eqC_Point (ok_Point_eq T) T.b_Point_eq (hr.mono (by decide)))) (pv 4) (pv 13) (nomark _)))) (pe_op (mul_K (K := K) rfl) (pe_lst (pa_cons pe_bl pa_nil)) pe_int) (nomark _)) (pw_or1 (pt_cmpR (DF.OpR.or (ne_K (K := K) rfl (units64 hr)) (neI_K (K := K) rfl T.eqC_Point (ok_Point_eq T) T.b_Point_eq (hr.mono (by decide)))) (pe_lc (own := [("_law_each", 13)]) (g := gName 13) (tt := tYes) rfl sc_l_right.nd (pi_anyK (K := K) rfl (pv 7)) (blkOk_by (N := n_l_right) (sc := defScope s_l_right) (by decide +kernel)) (fun _ _ _ _ _ => pg_name (i := 13) sc_l_right.nd rfl (by first | exact Or.inl rfl | exact Or.inr rfl)) (fun _ _ _ _ _ => pts_nil) (fun _ _ _ _ _ => (pe_cmpR (DF.OpR.or (ne_K (K := K) rfl (units64 hr)) (neI_K (K := K) rfl T.eqC_Point (ok_Point_eq T) T.b_Point_eq (hr.mono (by decide)))) (pv 4) (pv 13) (nomark _)))) (pe_op (mul_K (K := K) rfl) (pe_lst (pa_cons pe_bl pa_nil)) pe_int) (nomark _))))) (pss_one (ps_ret pe_bl)) pss_nil) (pss_cons (ps_if (pt_cmpR (DF.OpR.or (ne_K (K := K) rfl (units64 hr)) (neI_K (K := K) rfl T.eqC_Point (ok_Point_eq T) T.b_Point_eq (hr.mono (by decide)))) (pe_cmpR (DF.OpR.or (eq_K (K := K) rfl (units64 hr)) (eqI_K (K := K) rfl T.eqC_Point (ok_Point_eq T) T.b_Point_eq (hr.mono (by decide)))) (pv 4) (pe_make T.mk_Point (ok_Point_init T) (hr.mono (by decide)) rfl T.mg_Point T.b_Point_init .nil pass0 (pa_cons (pv 3) pa_nil)) (nomark _)) (pe_cmpR (DF.OpR.or (eq_K (K := K) rfl (units64 hr)) (eqI_K (K := K) rfl T.eqC_Point (ok_Point_eq T) T.b_Point_eq (hr.mono (by decide)))) (pv 2) (pv 3) (nomark _)) (nomark _)) (pss_one (ps_ret pe_bl)) pss_nil) (pss_cons (ps_for PassesOwn.never rfl (pi_range1 rfl T.n_range (pa_cons pe_int pa_nil)) (pg_name (i := 8) sc_l_right.nd rfl (by first | exact Or.inl rfl | exact Or.inr rfl)) (pss_cons (ps_set (i := 9) sc_l_right.nd rfl (by first | exact Or.inl rfl | exact Or.inr rfl) (pe_call (ok_l_bent T) (hr.mono (by decide)) rfl T.mg_l_bent T.F_l_bent.kp T.b_l_bent .nil pass0 (pa_cons (pv 0) (pa_cons (pv 5) pa_nil)))) (pss_cons (ps_set (i := 10) sc_l_right.nd rfl (by first | exact Or.inl rfl | exact Or.inr rfl) (pe_call (ok_l_read T) (hr.mono (by decide)) rfl T.mg_l_read T.F_l_read.kp T.b_l_read .nil pass0 (pa_cons (pv 9) pa_nil))) (pss_cons (ps_set (i := 11) sc_l_right.nd rfl (by first | exact Or.inl rfl | exact Or.inr rfl) (pe_ifExp (pt_cmpR (DF.OpR.or (eq_K (K := K) rfl (units64 hr)) (eqI_K (K := K) rfl T.eqC_Point (ok_Point_eq T) T.b_Point_eq (hr.mono (by decide)))) (pv 10) (pe_tup pa_nil) (nomark _)) (pe_lst (pa_cons pe_str (pa_cons (pe_callB (r := DF.rReprU K) (repr_K rfl hgd (units128 hr)) rfl T.n_repr boot_repr (pa_cons (pv 9) pa_nil)) pa_nil))) (pe_lst (pa_cons pe_str (pa_cons (pe_op (add_K (K := K) rfl) pe_str (pe_call (ok_l_page T) (hr.mono (by decide)) rfl T.mg_l_page T.F_l_page.kp T.b_l_page .nil pass0 (pa_cons (pv 10) pa_nil))) pa_nil))))) (pss_one (ps_if (pt_cmpR (DF.OpR.or (ne_K (K := K) rfl (units64 hr)) (neI_K (K := K) rfl T.eqC_Point (ok_Point_eq T) T.b_Point_eq (hr.mono (by decide)))) (pe_lamF (k := 9) (q0 := ("_law_right" : Str) ++ ".<locals>.") (gd := true) (Ng := n_l_heard) (c := T.c_l_right) (P := T.P_l_right) (B := B_l_heard) (a := "_law_act") (x := "_law_heard") (T := TbC.T) T.F_l_heard (fun cdv => (gv_l_heard (P := P) (base := base) T cdv).mono (by decide)) (fun _ => hgd) rfl T.mg_l_heard T.b_l_heard sc_l_heard rfl (Or.inl rfl) (B.tb_l_right) rfl rfl B.m_l_right B.u_l_right (hr.mono (by decide)) (lamS_by (by kernel_rfl)) rfl (fun _ _ _ _ _ => rfl) (fun A out s H E f c' hr => (ClX.pe_cmeth (CX := L2.CX P w) (E := E) (pe_glob (v := .ref T.C_Point) rfl T.mg_Point rfl) T.cr_Point T.cm_Point_read (toR (okE_Point_read T) T.b_Point_read) (hr.mono (by decide)) (by exact passLm) (pa_cons (pv 9) pa_nil)))) (pv 11) (nomark _)) (pss_one (ps_ret pe_bl)) pss_nil)))))) (pss_one (ps_if (pt_not (pt_truthK (K := K) rfl (pe_callG (ok_l_refused_right T B) (hr.mono (by decide)) hgd rfl T.mg_l_refused_right T.F_l_refused_right.kp T.b_l_refused_right (pa_cons (pv 0) pa_nil)) (fun _ => rfl))) (pss_one (ps_ret pe_bl)) pss_nil)))))))))))) (pss_one (ps_ret pe_bl))), ?_⟩
  exact body_O (Ns := n_l_right) (fS := B_l_right) h (sim_seq (sim_for (sim_rng1 (sim_cons sim_int sim_nil)) sim_gname (sim_seq (sim_par (sim_cons (sim_call hE0 (sim_cons sim_var (sim_cons (sim_op sim_add sim_int (sim_call hE0 (sim_cons sim_var (sim_cons sim_int sim_nil)))) sim_nil))) (sim_cons (sim_call hE0 (sim_cons sim_var (sim_cons (sim_op sim_add sim_int (sim_call hE0 (sim_cons sim_var (sim_cons sim_int sim_nil)))) sim_nil))) sim_nil))) (sim_seq (sim_asgG (sim_tup (sim_cons (sim_make T.ct_Point hE0 (sim_cons sim_var sim_nil)) (sim_cons (sim_call hE0 (sim_cons sim_var sim_nil)) sim_nil))) (sim_gtup (sim_gcons sim_gname (sim_gcons sim_gname sim_gnil)))) (sim_seq (sim_ifS (sim_test (sim_op (DF.SimR2.or sim_ne (sim_eqI (isiT T) T.ct_Point)) (sim_cb sim_repr (sim_cons (sim_lst (sim_cons (sim_prop T.ct_Point hE0 sim_var) (sim_cons (sim_cb (DF.SimC.or sim_str1 (sim_strI T.ct_Point)) (sim_cons sim_var sim_nil)) (sim_cons (sim_cb (sim_lenI T.ct_Point) (sim_cons sim_var sim_nil)) (sim_cons (sim_cb (sim_boolL T.ct_Point) (sim_cons sim_var sim_nil)) sim_nil))))) sim_nil)) (sim_cb sim_repr (sim_cons (sim_lst (sim_cons sim_var (sim_cons sim_var (sim_cons (sim_cb sim_len (sim_cons sim_var sim_nil)) (sim_cons sim_bl sim_nil))))) sim_nil)))) (sim_ret sim_bl) sim_next) (sim_seq (sim_asg (sim_lst (sim_cons (sim_makeN (ix := [0]) T.ct_Point hE0 sim_nil (sim_cons sim_var sim_nil)) (sim_cons (sim_cmeth T.ct_Point hE0 (sim_cons sim_var sim_nil)) (sim_cons (sim_cmethN T.ct_Point hE0 (sim_cons sim_var sim_nil)) sim_nil))))) (sim_seq (sim_ifS (sim_or (sim_test (sim_op (DF.SimR2.or sim_ne (sim_eqI (isiT T) T.ct_Point)) (sim_lc (sim_wAny sim_var) sim_gname sim_yes (sim_op (DF.SimR2.or sim_eq (sim_eqI (isiT T) T.ct_Point)) sim_var sim_var)) (sim_op sim_mul (sim_lst (sim_cons sim_bl sim_nil)) sim_int))) (sim_test (sim_op (DF.SimR2.or sim_ne (sim_eqI (isiT T) T.ct_Point)) (sim_lc (sim_wAny sim_var) sim_gname sim_yes (sim_op (DF.SimR2.or sim_ne (sim_eqI (isiT T) T.ct_Point)) sim_var sim_var)) (sim_op sim_mul (sim_lst (sim_cons sim_bl sim_nil)) sim_int)))) (sim_ret sim_bl) sim_next) (sim_seq (sim_asg (sim_lst (sim_cons (sim_make T.ct_Point hE0 (sim_cons (sim_op sim_add (sim_tup (sim_cons (sim_op sim_add (sim_op sim_ix sim_var sim_int) sim_int) sim_nil)) (sim_sl sim_var (sim_part sim_int) sim_noPart)) sim_nil)) (sim_cons (sim_if (sim_test (sim_op sim_lt (sim_cb sim_len (sim_cons sim_var sim_nil)) sim_int)) (sim_make T.ct_Point hE0 (sim_cons (sim_op sim_add (sim_tup (sim_cons sim_int sim_nil)) (sim_sl sim_var sim_noPart (sim_part sim_int))) sim_nil)) sim_non) (sim_cons sim_var (sim_cons sim_var (sim_cons sim_non sim_nil))))))) (sim_seq (sim_ifS (sim_or (sim_test (sim_op (DF.SimR2.or sim_ne (sim_eqI (isiT T) T.ct_Point)) (sim_lc (sim_wAny sim_var) sim_gname sim_yes (sim_op (DF.SimR2.or sim_eq (sim_eqI (isiT T) T.ct_Point)) sim_var sim_var)) (sim_op sim_mul (sim_lst (sim_cons sim_bl sim_nil)) sim_int))) (sim_test (sim_op (DF.SimR2.or sim_ne (sim_eqI (isiT T) T.ct_Point)) (sim_lc (sim_wAny sim_var) sim_gname sim_yes (sim_op (DF.SimR2.or sim_ne (sim_eqI (isiT T) T.ct_Point)) sim_var sim_var)) (sim_op sim_mul (sim_lst (sim_cons sim_bl sim_nil)) sim_int)))) (sim_ret sim_bl) sim_next) (sim_seq (sim_ifS (sim_test (sim_op (DF.SimR2.or sim_ne (sim_eqI (isiT T) T.ct_Point)) (sim_op (DF.SimR2.or sim_eq (sim_eqI (isiT T) T.ct_Point)) sim_var (sim_make T.ct_Point hE0 (sim_cons sim_var sim_nil))) (sim_op (DF.SimR2.or sim_eq (sim_eqI (isiT T) T.ct_Point)) sim_var sim_var))) (sim_ret sim_bl) sim_next) (sim_seq (sim_for (sim_rng1 (sim_cons sim_int sim_nil)) sim_gname (sim_seq (sim_asg (sim_call hE0 (sim_cons sim_var (sim_cons sim_var sim_nil)))) (sim_seq (sim_asg (sim_call hE0 (sim_cons sim_var sim_nil))) (sim_seq (sim_asg (sim_if (sim_test (sim_op (DF.SimR2.or sim_eq (sim_eqI (isiT T) T.ct_Point)) sim_var (sim_tup sim_nil))) (sim_lst (sim_cons sim_str (sim_cons (sim_cb sim_repr (sim_cons sim_var sim_nil)) sim_nil))) (sim_lst (sim_cons sim_str (sim_cons (sim_op sim_add sim_str (sim_call hE0 (sim_cons sim_var sim_nil))) sim_nil))))) (sim_ifS (sim_test (sim_op (DF.SimR2.or sim_ne (sim_eqI (isiT T) T.ct_Point)) (sim_lam hT (by decide) (fun E => (sim_cmeth T.ct_Point (fun _ _ _ _ z => z) (sim_cons sim_var sim_nil)))) sim_var)) (sim_ret sim_bl) sim_next))))) (sim_ifS (sim_not (sim_tru (sim_call hE0 (sim_cons sim_var sim_nil)))) (sim_ret sim_bl) sim_next))))))))))) (sim_ret sim_bl))
theorem ok_l_tun (T : Tx w K mg) : FnOk P w K mg base CX0 1 T.f_l_tun T.d_l_tun ["_law_script", "_law_turn"] (spF K F_l_tun) := by
  refine T.F_l_tun.ok sc_l_tun (fun vs H Q E h => len_O (n := 5) (fS := B_l_tun) h) (fun cdv A outer s H vs Q E hr h => ?_)
  refine ⟨_, (pss_cons (ps_set (i := 2) sc_l_tun.nd rfl (by first | exact Or.inl rfl | exact Or.inr rfl) (pe_op (add_K (K := K) rfl) pe_int (pe_op (mul_K (K := K) rfl) pe_int (pv 1)))) (pss_cons (ps_for PassesOwn.never rfl (pi_anyK (K := K) rfl (pe_slice (sl_K (K := K) rfl) (pv 0) po_none (po_some pe_int))) (pg_name (i := 3) sc_l_tun.nd rfl (by first | exact Or.inl rfl | exact Or.inr rfl)) (pss_one (ps_set (i := 2) sc_l_tun.nd rfl (by first | exact Or.inl rfl | exact Or.inr rfl) (pe_op op_mod (pe_callTy call_int rfl T.n_int boot_int (pa_cons (pe_op (add_K (K := K) rfl) (pe_op (add_K (K := K) rfl) (pe_op (mul_K (K := K) rfl) (pv 2) pe_int) (pv 3)) pe_int) pa_nil)) pe_int)))) (pss_cons (ps_set (i := 4) sc_l_tun.nd rfl (by first | exact Or.inl rfl | exact Or.inr rfl) (pe_ifExp (pt_cmpR op_ltU (pv 1) (pe_callB (r := DF.rLen K) (len_K rfl) rfl T.n_len boot_len (pa_cons (pv 0) pa_nil)) (nomark _)) (pe_ix (r := rIx K) (ix_K (K := K) rfl) (pv 0) (pv 1) (fun _ _ => rfl)) (pe_op (add_K (K := K) rfl) (pe_op (mul_K (K := K) rfl) pe_int (pv 1)) pe_int))) (pss_one (ps_ret (pe_lst (pa_cons (pe_ifExp (pt_cmpR op_ge (pe_callB call_abs rfl T.n_abs boot_abs (pa_cons (pv 4) pa_nil)) (pe_op op_pow pe_int pe_int) (nomark _)) (pe_callB call_abs rfl T.n_abs boot_abs (pa_cons (pv 4) pa_nil)) pe_int) (pa_cons (pe_op op_mod (pe_callTy call_int rfl T.n_int boot_int (pa_cons (pe_op (add_K (K := K) rfl) (pe_op (add_K (K := K) rfl) (pe_op (mul_K (K := K) rfl) (pv 2) pe_int) (pe_op (mul_K (K := K) rfl) (pv 4) pe_int)) pe_int) pa_nil)) pe_int) (pa_cons pe_int pa_nil))))))))), ?_⟩
  exact body_O (Ns := n_l_tun) (fS := B_l_tun) h (sim_seq (sim_asg (sim_op sim_add sim_int (sim_op sim_mul sim_int sim_var))) (sim_seq (sim_for (sim_wAny (sim_sl sim_var sim_noPart (sim_part sim_int))) sim_gname (sim_asg (sim_op sim_mod (sim_cb sim_int1 (sim_cons (sim_op sim_add (sim_op sim_add (sim_op sim_mul sim_var sim_int) sim_var) sim_int) sim_nil)) sim_int))) (sim_seq (sim_asg (sim_if (sim_test (sim_op sim_lt sim_var (sim_cb sim_len (sim_cons sim_var sim_nil)))) (sim_op sim_ix sim_var sim_var) (sim_op sim_add (sim_op sim_mul sim_int sim_var) sim_int))) (sim_ret (sim_lstO (sim_cons (sim_if (sim_test (sim_op sim_ge (sim_cb sim_abs (sim_cons sim_var sim_nil)) (sim_op sim_pow sim_int sim_int))) (sim_cb sim_abs (sim_cons sim_var sim_nil)) sim_int) (sim_cons (sim_op sim_mod (sim_cb sim_int1 (sim_cons (sim_op sim_add (sim_op sim_add (sim_op sim_mul sim_var sim_int) (sim_op sim_mul sim_var sim_int)) sim_int) sim_nil)) sim_int) (sim_cons sim_int sim_nil))))))))
theorem ok_law (T : Tx w K mg) (B : Tb T base) : FnG P w K mg base CX0 13 T.f_law T.d_law ["_law_script"] (spF K F_law) := by
  refine okG T.F_law sc_law (fun vs H Q E h => len_O (n := 2) (fS := B_law) h) (fun cdv A outer s H vs Q E hr hgd h => ?_)
  refine ⟨_, (pss_one (ps_ret (pe_callB (r := rAll K) (all_K rfl rfl) rfl T.n_all boot_all (pa_cons (pe_lc (own := [("_law_turn", 1)]) (g := gName 1) (tt := tYes) rfl sc_law.nd (pi_range1 rfl T.n_range (pa_cons pe_int pa_nil)) (blkOk_by (N := n_law) (sc := defScope s_law) (by decide +kernel)) (fun _ _ _ _ _ => pg_name (i := 1) sc_law.nd rfl (by first | exact Or.inl rfl | exact Or.inr rfl)) (fun _ _ _ _ _ => pts_nil) (fun _ _ _ _ _ => (pe_callG (ok_l_right T B) (hr.mono (by decide)) hgd rfl T.mg_l_right T.F_l_right.kp T.b_l_right (pa_cons (pe_call (ok_l_tun T) (hr.mono (by decide)) rfl T.mg_l_tun T.F_l_tun.kp T.b_l_tun .nil pass0 (pa_cons (pv 0) (pa_cons (pv 1) pa_nil))) pa_nil)))) pa_nil)))), ?_⟩
  exact body_O (Ns := n_law) (fS := B_law) h (sim_ret (sim_cb sim_all (sim_cons (sim_lc (sim_rng1 (sim_cons sim_int sim_nil)) sim_gname sim_yes (sim_call hE0 (sim_cons (sim_call hE0 (sim_cons sim_var (sim_cons sim_var sim_nil))) sim_nil))) sim_nil)))
end
end Kq

set_option linter.all false
set_option maxRecDepth 100000
set_option maxHeartbeats 4000000
namespace Kq
open PySem PySem.Spec PyProof.Rows L2 DF TL NumText
variable [TbC]
/-! ### one step -/
local macro_rules | `(tactic| walk_at "set") => `(tactic| (refine' e_set ?qa ?_; (case qa => (simp only [wipeF, backF, List.set, List.getD_cons_succ, List.getD_cons_zero, Int.reduceToNat]; rfl))))
local macro_rules | `(tactic| walk_at "cnd") => `(tactic| first | assumption | decide | omega)
local macro_rules | `(tactic| walk_at "mul") => `(tactic| first | exact mulOk_r (by decide) (by decide) | exact mulOk_l (by decide) (by decide) | exact mulOk_l (by omega) (by omega) | exact mulOk_r (by omega) (by omega))
local macro_rules | `(tactic| walk_at "x") => `(tactic| first
  | with_reducible apply x_seq
  | with_reducible apply k_nx
  | with_reducible apply k_rt
  | with_reducible apply x_nx
  | with_reducible refine x_asgK (fa := fLstO _) ?_
  | with_reducible refine x_asgK (fa := fLcO _ _ _ _ _) ?_
  | with_reducible apply ak_own
  | with_reducible apply ak_val
  | with_reducible apply x_asg
  | with_reducible refine x_retK (fa := fLstO _) ?_
  | with_reducible apply rk_own
  | with_reducible apply x_ret
  | with_reducible apply x_ifS
  | with_reducible apply x_asgG
  | with_reducible apply x_drop
  | with_reducible apply x_par
  | with_reducible apply x_par3
  | with_reducible apply x_asg3
  | with_reducible apply x_for
  | with_reducible refine x_aug ⟨_, rfl, ?_⟩
  | with_reducible apply xv_c
  | (with_reducible refine xv_var rfl ?_)
  | (with_reducible refine x_varV rfl ?_)
  | (with_reducible refine x_varO rfl ?_)
  | with_reducible apply xv_op
  | with_reducible apply xv_un
  | with_reducible apply xv_cb
  | with_reducible apply xs_nil
  | with_reducible apply xs_cons
  | with_reducible apply xa_nil
  | with_reducible apply xa_cons
  | with_reducible apply xv_tup
  | with_reducible apply xv_lst
  | with_reducible apply x_lstO
  | with_reducible apply xv_if
  | with_reducible apply xv_andV
  | with_reducible apply xv_orV
  | with_reducible apply xv_notV
  | with_reducible apply xv_isN
  | with_reducible apply xv_notN
  | with_reducible apply xt_test
  | with_reducible apply xt_tru
  | with_reducible apply xt_not
  | with_reducible apply xt_and
  | with_reducible apply xt_or
  | with_reducible apply xt_yes
  | with_reducible apply xv_call
  | with_reducible apply xv_callN
  | with_reducible apply xv_cmeth
  | with_reducible apply xv_cmethN
  | with_reducible apply xv_fld
  | with_reducible apply xv_prop
  | with_reducible apply x_setF
  | with_reducible apply xv_make
  | with_reducible apply xv_makeN
  | (with_reducible refine xv_makeL rfl ?_)
  | with_reducible apply xg_name
  | with_reducible apply xg_nil
  | with_reducible apply xg_cons
  | (with_reducible refine xg_tup rfl ?_)
  | (with_reducible refine xg_unl rfl ?_)
  | (with_reducible refine xg_sub rfl ?_)
  | (with_reducible refine xv_ixO rfl ?_)
  | ((with_reducible refine' xv_pk ?qa ?_); (case qa => (simp only [List.map, seeO, odD]; rfl)))
  | ((with_reducible refine' xt_pk ?qa ?_); (case qa => (simp only [List.map, seeO, odD]; rfl)))
  | with_reducible apply xv_bm
  | with_reducible apply xv_bm0
  | with_reducible apply xv_sl
  | with_reducible apply xo_no
  | with_reducible apply xo_some
  | with_reducible apply xv_revS
  | with_reducible apply xv_revL
  | with_reducible apply xv_fmt
  | with_reducible apply xw_any
  | with_reducible apply xw_rng1
  | with_reducible apply xw_rng2
  | with_reducible apply xv_lc
  | with_reducible apply vk_val
  | with_reducible apply bk_none
  | with_reducible apply bk_tmp
  | (with_reducible refine bk_slot rfl ?_)
  | with_reducible apply rk_val
  | with_reducible apply fk_nx
  | with_reducible apply fk_rt
  | ((with_reducible refine' e_par ?qa ?_); (case qa => (simp only [List.set]; rfl)))
  | ((with_reducible refine' e_par3 ?qa ?_); (case qa => (simp only [List.set]; rfl)))
  | ((with_reducible refine' e_ixO ?qa ?qb ?_); (case qa => exact rfl); (case qb => exact rfl))
  | ((with_reducible refine' e_sub ?qa ?qb ?qc ?_); (case qa => exact rfl); (case qb => exact rfl); (case qc => (simp only [List.set, Int.reduceToNat]; rfl)))
  | ((with_reducible refine' e_setF ?qa ?qb ?qc ?_); (case qa => exact rfl); (case qb => (simp only [List.length_cons, List.length_nil]; decide)); (case qc => (simp only [List.set, Int.reduceToNat]; rfl)))
  | ((with_reducible refine' e_fields ?qa ?qb ?_); (case qa => exact rfl); (case qb => exact rfl))
  | ((with_reducible refine' e_has ?qa ?_); (case qa => exact rfl))
  | with_reducible apply r_addI
  | with_reducible apply r_sub
  | with_reducible apply r_lt
  | with_reducible apply r_gt
  | with_reducible apply r_le
  | with_reducible apply r_ge
  | with_reducible apply r_int
  | with_reducible apply r_intB
  | with_reducible apply r_abs
  | with_reducible refine r_dec2 (fun h => ?_) (fun h => ?_)
  | with_reducible refine r_decN2 (fun h => ?_) (fun h => ?_)
  | with_reducible refine r_decM2 (fun h => ?_) (fun h => ?_)
  | with_reducible apply r_bool
  | with_reducible apply r_truB
  | with_reducible apply r_len
  | with_reducible apply r_lenS
  | with_reducible apply r_orEqS
  | with_reducible apply r_orNeS
  | with_reducible apply r_orEqI
  | with_reducible apply r_orNeI
  | with_reducible apply xv_joined
  | with_reducible apply xj_cons
  | with_reducible apply xj_nil
  | with_reducible apply r_eqI
  | with_reducible apply r_neI
  | with_reducible apply r_eqS
  | with_reducible apply r_neS
  | ((with_reducible refine' e_addD ?qa ?_); (case qa => exact rfl))
  | ((with_reducible refine' e_subD ?qa ?_); (case qa => exact rfl))
  | ((with_reducible refine' r_mul ?qa ?_); (case qa => walk_at "mul"))
  | ((with_reducible refine' r_mod ?qa ?_); (case qa => walk_at "cnd"))
  | ((with_reducible refine' r_fdiv ?qa ?qb ?_); (case qa => walk_at "cnd"); (case qb => walk_at "cnd"))
  | ((with_reducible refine' r_divmod ?qa ?qb ?_); (case qa => walk_at "cnd"); (case qb => walk_at "cnd"))
  | ((with_reducible refine' e_ltD ?qa ?_); (case qa => exact rfl))
  | ((with_reducible refine' e_leD ?qa ?_); (case qa => exact rfl))
  | ((with_reducible refine' e_gtD ?qa ?_); (case qa => exact rfl))
  | ((with_reducible refine' e_geD ?qa ?_); (case qa => exact rfl))
  | ((with_reducible refine' e_negD ?qa ?_); (case qa => exact rfl))
  | ((with_reducible refine' e_ixD ?qa ?_); (case qa => exact rfl))
  | ((with_reducible refine' e_intD ?qa ?_); (case qa => exact rfl))
  | ((with_reducible refine' e_absD ?qa ?_); (case qa => exact rfl))
  | ((with_reducible refine' e_intOf ?qa ?_); (case qa => exact rfl))
  | ((with_reducible refine' e_tupOf ?qa ?_); (case qa => exact rfl))
  | ((with_reducible refine' e_lstOf ?qa ?_); (case qa => exact rfl))
  | ((with_reducible refine' e2_boolOf ?qa ?_ ?_); (case qa => exact rfl))
  | ((with_reducible refine' e_boolOf ?qa ?_); (case qa => exact rfl))
  | ((with_reducible refine' e_truD ?qa ?_); (case qa => exact rfl))
  | ((with_reducible refine' e_itemsOf ?qa ?_); (case qa => exact rfl))
  | ((with_reducible refine' e_slD ?qa ?_); (case qa => exact rfl))
  | ((with_reducible refine' e_isiD ?qa ?_); (case qa => exact rfl))
  | ((with_reducible refine' e_boolI ?qa ?_); (case qa => exact rfl))
  | ((with_reducible refine' e_rng ?qa ?_); (case qa => exact ⟨by omega, by omega⟩))
  | with_reducible apply e_some
  | with_reducible apply e_str
  | with_reducible apply e_rev
  | ((with_reducible refine' en_val ?qa ?_); (case qa => exact rfl))
  | ((with_reducible refine' en_own ?qa ?_); (case qa => exact rfl))
  | ((with_reducible refine' en_nx ?qa ?_); (case qa => exact rfl))
  | with_reducible apply x_call
  | with_reducible refine x_ofV (fa := fC _) ?_
  | with_reducible refine x_ofV (fa := fOp _ _ _) ?_
  | with_reducible refine x_ofV (fa := fUn _ _) ?_
  | with_reducible refine x_ofV (fa := fCB _ _) ?_
  | with_reducible refine x_ofV (fa := fTup _) ?_
  | with_reducible refine x_ofV (fa := fLst _) ?_
  | with_reducible refine x_ofV (fa := fBM _ _ _ _) ?_
  | with_reducible refine x_ofV (fa := fBM0 _ _ _) ?_
  | with_reducible refine x_ofV (fa := fLc _ _ _ _ _) ?_
  | with_reducible refine x_ofV (fa := fFld _ _ _) ?_
  | with_reducible refine x_ofV (fa := fProp _ _ _) ?_
  | with_reducible refine x_ofV (fa := fMake _ _ _) ?_
  | with_reducible refine x_ofV (fa := fMakeN _ _ _ _ _ _ _) ?_
  | with_reducible refine x_ofV (fa := fSl _ _ _) ?_
  | with_reducible refine x_ofV (fa := fJoined _) ?_
  | with_reducible refine x_ofV (fa := fAndV _ _) ?_
  | with_reducible refine x_ofV (fa := fOrV _ _) ?_
  | with_reducible refine x_ofV (fa := fNotV _) ?_
  | with_reducible refine x_ofV (fa := fIf _ _ _) ?_
  | with_reducible refine x_ofV (fa := fIxO _ _) ?_
  | with_reducible refine x_ofV (fa := fCMeth _ _ _) ?_
  | with_reducible refine x_ofV (fa := fCMethN _ _ _ _ _) ?_
  | with_reducible refine x_ofV (fa := fCallN _ _ _ _ _ _) ?_
  | with_reducible refine x_ofV (fa := fIsN _) ?_
  | with_reducible refine x_ofV (fa := fNotN _) ?_
  | with_reducible apply xl_nil
  | with_reducible refine xl_cons rfl ?_
  | (refine And.intro (show List.length _ ≤ 16777216 from by simp only [List.length_cons, List.length_nil]; decide) ?_)
  | (refine And.intro (show tyS _ = some _ from rfl) ?_)
  | (refine And.intro (show flat _ = true from rfl) ?_)
  | (refine And.intro (show List.length _ = _ from rfl) ?_)
  | (refine And.intro (show List.length _ < 16777216 from by simp only [List.length_cons, List.length_nil]; decide) ?_)
  | (refine And.intro (show List.map isOwn _ = List.map isOwn _ from rfl) ?_)
  | with_reducible apply tt_intro
  | with_reducible apply nt_intro
  | with_reducible apply nnf_intro
  | with_reducible apply nnt_intro
  | with_reducible apply nf_intro
  | with_reducible apply ff_intro
  | walk_at "set")
/-! ### the script's vial -/
abbrev rl (a b c : Int) : OD := .lst [.int a, .int b, .int c]
structure RO (n a b c : Int) : Prop where
  a0 : 0 ≤ a
  b0 : 0 ≤ b
  b1 : b < 2147480429
  c0 : 0 ≤ c
  c1 : c ≤ n
theorem RO.up {m n a b c : Int} (h : RO m a b c) (hm : m ≤ n) : RO n a b c := ⟨h.a0, h.b0, h.b1, h.c0, Int.le_trans h.c1 hm⟩
theorem p_sip {n a b c m : Int} {Φ : Vr → Option OD → Prop} (h : RO n a b c) (hn : n ≤ 10 ^ 15) (hm : 0 < m) (hm2 : m < 1073741824)
    (k : ∀ x a b c, 0 ≤ x → x < m → RO (n + 1) a b c → Φ (.val (.int x)) (some (rl a b c))) : Fp F_l_sip [.own 1 (rl a b c), .val (.int m)] Φ := by
  obtain ⟨a0, b0, b1, c0, c1⟩ := h
  refine f_def rfl ?_
  show X _ [_, _, _, _] _
  unfold B_l_sip
  repeat' walk_at "x"
  · exact k _ _ _ _ (Int.emod_nonneg _ (by omega)) (Int.emod_lt_of_pos _ hm) ⟨Int.ediv_nonneg a0 (by omega), b0, b1, c0, by omega⟩
  · exact k _ _ _ _ (Int.emod_nonneg _ (by omega)) (Int.emod_lt_of_pos _ hm) ⟨a0, Int.emod_nonneg _ (by decide), Int.emod_lt_of_pos _ (by decide), by omega, by omega⟩
/-- one of a menu -/
theorem p_choose {n a b c m : Int} {menu : D} {Φ : Vr → Option OD → Prop} (h : RO n a b c) (hn : n ≤ 10 ^ 15) (hl : lenD [menu] = some (.int m)) (hm : 0 < m) (hm2 : m < 1073741824)
    (k : ∀ x a b c, 0 ≤ x → x < m → RO (n + 1) a b c → ∃ d, ixD menu (.int x) = some d ∧ Φ (.val d) (some (rl a b c))) : Fp F_l_choose [.own 1 (rl a b c), .val menu] Φ := by
  refine f_def rfl ?_
  show X _ [_, _] _
  unfold B_l_choose
  repeat' walk_at "x"
  refine e_lenD hl ?_
  repeat' walk_at "x"
  refine x_callF rfl ?_
  refine (p_sip h hn hm hm2 fun x a b c h0 h1 hr => ?_)
  repeat' walk_at "x"
  obtain ⟨d, e, p⟩ := k x a b c h0 h1 hr
  refine e_ixD e ?_
  repeat' walk_at "x"
  exact p
theorem p_list {n a b c : Int} {ds : List D} {Φ : Vr → Option OD → Prop} (h : RO n a b c) (hn : n ≤ 10 ^ 15) (h0 : 0 < ds.length) (h1 : ds.length < 1000)
    (k : ∀ d a b c, d ∈ ds → RO (n + 1) a b c → Φ (.val d) (some (rl a b c))) : Fp F_l_choose [.own 1 (rl a b c), .val (.lst ds)] Φ :=
  p_choose h hn (m := ds.length) rfl (by omega) (by omega) fun x a b c x0 x1 hr => by
    obtain ⟨d, e, hd⟩ := atI_ok (ds := ds) x0 x1
    exact ⟨d, e, k d a b c hd hr⟩
def fit (i : Int) : Prop := i.natAbs ≤ 10 ^ 27
theorem p_integer {n a0 b0 c0 : Int} {Φ : Vr → Option OD → Prop} (h : RO n a0 b0 c0) (hn : n ≤ 10 ^ 14)
    (k : ∀ i a b c, fit i → RO (n + 2) a b c → Φ (.val (.int i)) (some (rl a b c))) : Fp F_l_integer [.own 1 (rl a0 b0 c0)] Φ := by
  refine f_def rfl ?_
  show X _ [_] _
  unfold B_l_integer
  repeat' walk_at "x"
  refine x_callF rfl ?_
  refine p_sip h (by omega) (by omega) (by omega) fun x a b c x0 x1 h => ?_
  repeat' walk_at "x"
  · refine r_pow (v := 1000000000000000000000000000) (by decide) (by decide) ?_
    repeat' walk_at "x"
    refine r_pow (v := 1000000000000000000000000000) (by decide) (by decide) ?_
    repeat' walk_at "x"
    refine r_pow (v := 100000000000000000) (by decide) (by decide) ?_
    repeat' walk_at "x"
    refine x_callF rfl ?_
    refine p_list h (by omega) (by decide) (by decide) fun d a b c hd h => ?_
    obtain ⟨i, rfl, hi⟩ : ∃ i, d = D.int i ∧ fit i := by
      simp only [List.mem_cons, List.not_mem_nil, or_false] at hd
      rcases hd with e | e | e | e | e <;> exact ⟨_, e, by unfold fit; decide⟩
    repeat' walk_at "x"
    exact k _ _ _ _ hi (h.up (by omega))
  · refine x_callF rfl ?_
    refine p_sip h (by omega) (by omega) (by omega) fun y a b c y0 y1 h => ?_
    repeat' walk_at "x"
    exact k _ _ _ _ (by unfold fit; omega) (h.up (by omega))
abbrev tn (ns : List Int) : D := .tup (ns.map .int)
theorem len_rng {m : Int} : (rangeD 0 m).length = m.toNat := by simp [rangeD]
theorem p_numbers {n a0 b0 c0 w : Int} {Φ : Vr → Option OD → Prop} (h : RO n a0 b0 c0) (hn : n ≤ 10 ^ 13) (w0 : 1 ≤ w) (w1 : w ≤ 3)
    (k : ∀ ns a b c, (ns.length : Int) = w → (∀ i ∈ ns, fit i) → RO (n + 6) a b c → Φ (.val (tn ns)) (some (rl a b c))) : Fp F_l_numbers [.own 1 (rl a0 b0 c0), .val (.int w)] Φ := by
  refine f_def rfl ?_
  show X _ [_, _, _] _
  unfold B_l_numbers
  repeat' walk_at "x"
  refine ⟨by rw [len_rng]; omega, ?_⟩
  refine x_lcL (fun ds acc Γ => (∃ ns : List Int, acc = ns.map D.int ∧ (∀ i ∈ ns, fit i) ∧ (ns.length : Int) + ds.length = w) ∧ ∃ n' a b c, RO n' a b c ∧ n' + 2 * ds.length = n + 2 * w ∧ Γ = [.own 1 (rl a b c), .val (.int w), .no]) ?_ ?_ ?_
  · exact ⟨⟨[], rfl, fun i hi => (List.not_mem_nil hi).elim, by rw [len_rng]; simp; omega⟩, _, _, _, _, h, by rw [len_rng]; omega, rfl⟩
  · rintro d ds acc Γ ⟨⟨ns, rfl, hns, hl⟩, n', a, b, c, h, hn', rfl⟩
    rw [List.length_cons] at hl hn'
    refine ⟨_, rfl, rfl, ?_⟩
    show X _ [_, _, _] _
    repeat' walk_at "x"
    refine x_callF rfl ?_
    refine p_integer h (by simp at hn'; omega) fun i a b c hi h => ?_
    repeat' walk_at "x"
    refine ⟨⟨ns ++ [i], by rw [List.map_append]; rfl, ?_, by rw [List.length_append, List.length_singleton]; omega⟩, _, _, _, _, h, by omega, rfl⟩
    intro j hj
    rcases List.mem_append.mp hj with hj | hj
    · exact hns j hj
    · rw [List.mem_singleton.mp hj]; exact hi
  · rintro acc Γ ⟨⟨ns, rfl, hns, hl⟩, n', a, b, c, h, hn', rfl⟩
    repeat' walk_at "x"
    exact k ns _ _ _ (by simpa using hl) hns (h.up (by simp at hn'; omega))
theorem p_tun {ns : List Int} {t : Int} {Φ : Vr → Option OD → Prop} (hns : ns.length ≤ 63) (ht : 0 ≤ t) (ht2 : t < 10)
    (k : ∀ a b c, RO 1 a b c → Φ (.own (rl a b c)) none) : Fp F_l_tun [.val (.scr ns), .val (.int t)] Φ := by
  refine f_def rfl ?_
  show X _ [_, _, _, _, _] _
  unfold B_l_tun
  obtain ⟨ms, em, hl⟩ := cut_ints (ns := ns) (lo := none) (hi := some 5)
  repeat' walk_at "x"
  rw [em]
  refine x_forL (fun ds Γ => (∀ d ∈ ds, ∃ i, d = D.int i) ∧ ∃ m w, 0 ≤ m ∧ m < 2147479633 ∧ Γ = [.val (.scr ns), .val (.int t), .val (.int m), w, .no]) ?_ ?_ ?_
  · refine ⟨fun d hd => ?_, _, _, ?_, ?_, rfl⟩
    · obtain ⟨i, _, e⟩ := List.mem_map.mp hd; exact ⟨i, e.symm⟩
    · omega
    · omega
  · rintro d ds Γ ⟨hd, m, w, m0, m1, rfl⟩
    obtain ⟨i, rfl⟩ := hd _ List.mem_cons_self
    repeat' walk_at "x"
    exact ⟨fun d h => hd d (List.mem_cons_of_mem _ h), _, _, Int.emod_nonneg _ (by decide), Int.emod_lt_of_pos _ (by decide), rfl⟩
  · rintro Γ ⟨_, m, w, m0, m1, rfl⟩
    refine k_nx ?_
    refine x_seq (x_asg ?_)
    refine X.imp (Φ := fun d Γ' => (∃ own, d = D.int own) ∧ Γ' = [.val (.scr ns), .val (.int t), .val (.int m), w, .no]) ?_ ?_
    · repeat' walk_at "x"
      · rename_i h
        obtain ⟨i, e⟩ := ix_scr ht h
        exact e_ixD e ⟨⟨_, rfl⟩, rfl⟩
      · exact ⟨⟨_, rfl⟩, rfl⟩
    rintro _ _ ⟨⟨own, rfl⟩, rfl⟩
    repeat' walk_at "x"
    refine r_pow (v := 100000000000000000) (by decide) (by decide) ?_
    repeat' walk_at "x"
    · exact k _ _ _ ⟨by omega, Int.emod_nonneg _ (by decide), Int.lt_trans (Int.emod_lt_of_pos _ (by decide)) (by decide), by decide, by decide⟩
    · exact k _ _ _ ⟨by decide, Int.emod_nonneg _ (by decide), Int.lt_trans (Int.emod_lt_of_pos _ (by decide)) (by decide), by decide, by decide⟩
end Kq

set_option linter.all false
set_option maxRecDepth 100000
set_option maxHeartbeats 4000000
namespace Kq
open PySem PySem.Spec PyProof.Rows L2 DF TL NumText
variable [TbC]
/-! ### one step -/
local macro_rules | `(tactic| walk_at "set") => `(tactic| (refine' e_set ?qa ?_; (case qa => (simp only [wipeF, backF, List.set, List.getD_cons_succ, List.getD_cons_zero, Int.reduceToNat]; rfl))))
local macro_rules | `(tactic| walk_at "cnd") => `(tactic| first | assumption | decide | omega)
local macro_rules | `(tactic| walk_at "mul") => `(tactic| first | exact mulOk_r (by decide) (by decide) | exact mulOk_l (by decide) (by decide) | exact mulOk_l (by omega) (by omega) | exact mulOk_r (by omega) (by omega))
local macro_rules | `(tactic| walk_at "x") => `(tactic| first
  | with_reducible apply x_seq
  | with_reducible apply k_nx
  | with_reducible apply k_rt
  | with_reducible apply x_nx
  | with_reducible refine x_asgK (fa := fLstO _) ?_
  | with_reducible refine x_asgK (fa := fLcO _ _ _ _ _) ?_
  | with_reducible apply ak_own
  | with_reducible apply ak_val
  | with_reducible apply x_asg
  | with_reducible refine x_retK (fa := fLstO _) ?_
  | with_reducible apply rk_own
  | with_reducible apply x_ret
  | with_reducible apply x_ifS
  | with_reducible apply x_asgG
  | with_reducible apply x_drop
  | with_reducible apply x_par
  | with_reducible apply x_par3
  | with_reducible apply x_asg3
  | with_reducible apply x_for
  | with_reducible refine x_aug ⟨_, rfl, ?_⟩
  | with_reducible apply xv_c
  | (with_reducible refine xv_var rfl ?_)
  | (with_reducible refine x_varV rfl ?_)
  | (with_reducible refine x_varO rfl ?_)
  | with_reducible apply xv_op
  | with_reducible apply xv_un
  | with_reducible apply xv_cb
  | with_reducible apply xs_nil
  | with_reducible apply xs_cons
  | with_reducible apply xa_nil
  | with_reducible apply xa_cons
  | with_reducible apply xv_tup
  | with_reducible apply xv_lst
  | with_reducible apply x_lstO
  | with_reducible apply xv_if
  | with_reducible apply xv_andV
  | with_reducible apply xv_orV
  | with_reducible apply xv_notV
  | with_reducible apply xv_isN
  | with_reducible apply xv_notN
  | with_reducible apply xt_test
  | with_reducible apply xt_tru
  | with_reducible apply xt_not
  | with_reducible apply xt_and
  | with_reducible apply xt_or
  | with_reducible apply xt_yes
  | with_reducible apply xv_call
  | with_reducible apply xv_callN
  | with_reducible apply xv_cmeth
  | with_reducible apply xv_cmethN
  | with_reducible apply xv_fld
  | with_reducible apply xv_prop
  | with_reducible apply x_setF
  | with_reducible apply xv_make
  | with_reducible apply xv_makeN
  | (with_reducible refine xv_makeL rfl ?_)
  | with_reducible apply xg_name
  | with_reducible apply xg_nil
  | with_reducible apply xg_cons
  | (with_reducible refine xg_tup rfl ?_)
  | (with_reducible refine xg_unl rfl ?_)
  | (with_reducible refine xg_sub rfl ?_)
  | (with_reducible refine xv_ixO rfl ?_)
  | ((with_reducible refine' xv_pk ?qa ?_); (case qa => (simp only [List.map, seeO, odD]; rfl)))
  | ((with_reducible refine' xt_pk ?qa ?_); (case qa => (simp only [List.map, seeO, odD]; rfl)))
  | with_reducible apply xv_bm
  | with_reducible apply xv_bm0
  | with_reducible apply xv_sl
  | with_reducible apply xo_no
  | with_reducible apply xo_some
  | with_reducible apply xv_revS
  | with_reducible apply xv_revL
  | with_reducible apply xv_fmt
  | with_reducible apply xw_any
  | with_reducible apply xw_rng1
  | with_reducible apply xw_rng2
  | with_reducible apply xv_lc
  | with_reducible apply vk_val
  | with_reducible apply bk_none
  | with_reducible apply bk_tmp
  | (with_reducible refine bk_slot rfl ?_)
  | with_reducible apply rk_val
  | with_reducible apply fk_nx
  | with_reducible apply fk_rt
  | ((with_reducible refine' e_par ?qa ?_); (case qa => (simp only [List.set]; rfl)))
  | ((with_reducible refine' e_par3 ?qa ?_); (case qa => (simp only [List.set]; rfl)))
  | ((with_reducible refine' e_ixO ?qa ?qb ?_); (case qa => exact rfl); (case qb => exact rfl))
  | ((with_reducible refine' e_sub ?qa ?qb ?qc ?_); (case qa => exact rfl); (case qb => exact rfl); (case qc => (simp only [List.set, Int.reduceToNat]; rfl)))
  | ((with_reducible refine' e_setF ?qa ?qb ?qc ?_); (case qa => exact rfl); (case qb => (simp only [List.length_cons, List.length_nil]; decide)); (case qc => (simp only [List.set, Int.reduceToNat]; rfl)))
  | ((with_reducible refine' e_fields ?qa ?qb ?_); (case qa => exact rfl); (case qb => exact rfl))
  | ((with_reducible refine' e_has ?qa ?_); (case qa => exact rfl))
  | with_reducible apply r_addI
  | with_reducible apply r_sub
  | with_reducible apply r_lt
  | with_reducible apply r_gt
  | with_reducible apply r_le
  | with_reducible apply r_ge
  | with_reducible apply r_int
  | with_reducible apply r_intB
  | with_reducible apply r_abs
  | with_reducible refine r_dec2 (fun h => ?_) (fun h => ?_)
  | with_reducible refine r_decN2 (fun h => ?_) (fun h => ?_)
  | with_reducible refine r_decM2 (fun h => ?_) (fun h => ?_)
  | with_reducible apply r_bool
  | with_reducible apply r_truB
  | with_reducible apply r_len
  | with_reducible apply r_lenS
  | with_reducible apply r_orEqS
  | with_reducible apply r_orNeS
  | with_reducible apply r_orEqI
  | with_reducible apply r_orNeI
  | with_reducible apply xv_joined
  | with_reducible apply xj_cons
  | with_reducible apply xj_nil
  | with_reducible apply r_eqI
  | with_reducible apply r_neI
  | with_reducible apply r_eqS
  | with_reducible apply r_neS
  | ((with_reducible refine' e_addD ?qa ?_); (case qa => exact rfl))
  | ((with_reducible refine' e_subD ?qa ?_); (case qa => exact rfl))
  | ((with_reducible refine' r_mul ?qa ?_); (case qa => walk_at "mul"))
  | ((with_reducible refine' r_mod ?qa ?_); (case qa => walk_at "cnd"))
  | ((with_reducible refine' r_fdiv ?qa ?qb ?_); (case qa => walk_at "cnd"); (case qb => walk_at "cnd"))
  | ((with_reducible refine' r_divmod ?qa ?qb ?_); (case qa => walk_at "cnd"); (case qb => walk_at "cnd"))
  | ((with_reducible refine' e_ltD ?qa ?_); (case qa => exact rfl))
  | ((with_reducible refine' e_leD ?qa ?_); (case qa => exact rfl))
  | ((with_reducible refine' e_gtD ?qa ?_); (case qa => exact rfl))
  | ((with_reducible refine' e_geD ?qa ?_); (case qa => exact rfl))
  | ((with_reducible refine' e_negD ?qa ?_); (case qa => exact rfl))
  | ((with_reducible refine' e_ixD ?qa ?_); (case qa => exact rfl))
  | ((with_reducible refine' e_intD ?qa ?_); (case qa => exact rfl))
  | ((with_reducible refine' e_absD ?qa ?_); (case qa => exact rfl))
  | ((with_reducible refine' e_intOf ?qa ?_); (case qa => exact rfl))
  | ((with_reducible refine' e_tupOf ?qa ?_); (case qa => exact rfl))
  | ((with_reducible refine' e_lstOf ?qa ?_); (case qa => exact rfl))
  | ((with_reducible refine' e2_boolOf ?qa ?_ ?_); (case qa => exact rfl))
  | ((with_reducible refine' e_boolOf ?qa ?_); (case qa => exact rfl))
  | ((with_reducible refine' e_truD ?qa ?_); (case qa => exact rfl))
  | ((with_reducible refine' e_itemsOf ?qa ?_); (case qa => exact rfl))
  | ((with_reducible refine' e_slD ?qa ?_); (case qa => exact rfl))
  | ((with_reducible refine' e_isiD ?qa ?_); (case qa => exact rfl))
  | ((with_reducible refine' e_boolI ?qa ?_); (case qa => exact rfl))
  | ((with_reducible refine' e_rng ?qa ?_); (case qa => exact ⟨by omega, by omega⟩))
  | with_reducible apply e_some
  | with_reducible apply e_str
  | with_reducible apply e_rev
  | ((with_reducible refine' en_val ?qa ?_); (case qa => exact rfl))
  | ((with_reducible refine' en_own ?qa ?_); (case qa => exact rfl))
  | ((with_reducible refine' en_nx ?qa ?_); (case qa => exact rfl))
  | with_reducible apply x_call
  | with_reducible refine x_ofV (fa := fC _) ?_
  | with_reducible refine x_ofV (fa := fOp _ _ _) ?_
  | with_reducible refine x_ofV (fa := fUn _ _) ?_
  | with_reducible refine x_ofV (fa := fCB _ _) ?_
  | with_reducible refine x_ofV (fa := fTup _) ?_
  | with_reducible refine x_ofV (fa := fLst _) ?_
  | with_reducible refine x_ofV (fa := fBM _ _ _ _) ?_
  | with_reducible refine x_ofV (fa := fBM0 _ _ _) ?_
  | with_reducible refine x_ofV (fa := fLc _ _ _ _ _) ?_
  | with_reducible refine x_ofV (fa := fFld _ _ _) ?_
  | with_reducible refine x_ofV (fa := fProp _ _ _) ?_
  | with_reducible refine x_ofV (fa := fMake _ _ _) ?_
  | with_reducible refine x_ofV (fa := fMakeN _ _ _ _ _ _ _) ?_
  | with_reducible refine x_ofV (fa := fSl _ _ _) ?_
  | with_reducible refine x_ofV (fa := fJoined _) ?_
  | with_reducible refine x_ofV (fa := fAndV _ _) ?_
  | with_reducible refine x_ofV (fa := fOrV _ _) ?_
  | with_reducible refine x_ofV (fa := fNotV _) ?_
  | with_reducible refine x_ofV (fa := fIf _ _ _) ?_
  | with_reducible refine x_ofV (fa := fIxO _ _) ?_
  | with_reducible refine x_ofV (fa := fCMeth _ _ _) ?_
  | with_reducible refine x_ofV (fa := fCMethN _ _ _ _ _) ?_
  | with_reducible refine x_ofV (fa := fCallN _ _ _ _ _ _) ?_
  | with_reducible refine x_ofV (fa := fIsN _) ?_
  | with_reducible refine x_ofV (fa := fNotN _) ?_
  | with_reducible apply xl_nil
  | with_reducible refine xl_cons rfl ?_
  | (refine And.intro (show List.length _ ≤ 16777216 from by simp only [List.length_cons, List.length_nil]; decide) ?_)
  | (refine And.intro (show tyS _ = some _ from rfl) ?_)
  | (refine And.intro (show flat _ = true from rfl) ?_)
  | (refine And.intro (show List.length _ = _ from rfl) ?_)
  | (refine And.intro (show List.length _ < 16777216 from by simp only [List.length_cons, List.length_nil]; decide) ?_)
  | (refine And.intro (show List.map isOwn _ = List.map isOwn _ from rfl) ?_)
  | with_reducible apply tt_intro
  | with_reducible apply nt_intro
  | with_reducible apply nnf_intro
  | with_reducible apply nnt_intro
  | with_reducible apply nf_intro
  | with_reducible apply ff_intro
  | walk_at "set")
/-! ### numbers as texts -/
abbrev sI (i : Int) : Str := Str.ofString (toString i)
theorem f_number_text {i : Int} (h : i.natAbs < 10 ^ 64) : F_number_text [.val (.int i)] = some (.ok (.val (.str (sI i))) none) := by
  obtain ⟨l, el, hl, h0⟩ : ∃ l : Int, (if i < 0 then -i else i) = l ∧ l.natAbs = i.natAbs ∧ 0 ≤ l := by
    refine ⟨_, rfl, ?_, ?_⟩ <;> split <;> omega
  have big : l.natAbs < 10 ^ 200 := by rw [hl]; exact Nat.lt_trans h (by decide)
  have len : (sI l).length ≤ 65 := by rw [len_tl, tl_int]; exact tlI_len (k := 64) (by decide) (by rw [hl]; exact h)
  refine Fp.eq (f_def rfl ?_)
  show X _ [_, _, _, _, _] _
  unfold B_number_text
  repeat' walk_at "x"
  rw [el]
  refine x_while0 (n := 999999) ?_
  repeat' walk_at "x"
  refine ⟨decide_eq_false (by omega), ?_⟩
  repeat' walk_at "x"
  refine r_str (log_ok big) ?_
  repeat' walk_at "x"
  refine e_joinD (z := .str (Txt.join "" [])) (by rfl) ?_
  refine r_addS ?_ ?_
  · show (sI l).length + (Txt.join "" [] : Str).length ≤ _
    rw [show (Txt.join "" [] : Str).length = 0 from by decide +kernel]; omega
  have e0 : (sI l ++ Txt.join "" [] : Str) = sI l := by
    refine ext_tl ?_
    rw [tl_append, show tl (Txt.join "" []) = [] from by decide +kernel, List.append_nil]
  rw [e0]
  refine ⟨rfl, ?_⟩
  repeat' walk_at "x"
  · rename_i hi
    refine r_addS ?_ ?_
    · show (Str.ofString "-").length + (sI l).length ≤ _
      rw [show (Str.ofString "-").length = 1 from by decide +kernel]; omega
    rw [if_pos hi] at el
    subst el
    rw [neg_text hi]
    repeat' walk_at "x"
    exact ⟨rfl, rfl⟩
  · rename_i hi
    rw [if_neg hi] at el
    subst el
    exact ⟨rfl, rfl⟩
theorem len_sI {i : Int} (h : i.natAbs < 10 ^ 64) : (sI i).length ≤ 65 := by rw [len_tl, tl_int]; exact tlI_len (k := 64) (by decide) h
theorem tl_sI (i : Int) : tl (sI i) = tlI i := tl_int i
/-- without a minus in front -/
def rm (l : List Nat) : List Nat := if l.take 1 == [45] then l.drop 1 else l
theorem tl_rm (z : Str) : tl (Txt.removeprefix z "-") = rm (tl z) := by
  unfold Txt.removeprefix rm
  have es : Builtin.Str.subAt z "-" 0 = ((tl z).take 1 == [45]) := by rw [StrLaws.subAt_eq]; rfl
  rw [es]
  by_cases h : ((tl z).take 1 == [45]) = true
  · rw [if_pos h, h, if_pos rfl]
    have hl : 1 ≤ z.length := by
      rw [len_tl]
      cases e : tl z with
      | nil => rw [e] at h; cases h
      | cons a l => simp
    have e : Txt.affix z (some ((Str.ofString "-").length, z.length)) = Builtin.Str.strSub z 1 z.length := by
      show (if z.length - 1 == z.length then z else Builtin.Str.strSub z 1 z.length) = _
      rw [if_neg (by simp; omega)]
    rw [show ("-" : Str) = Str.ofString "-" from rfl, e, tl_strSub_end]
  · have h' : ((tl z).take 1 == [45]) = false := by simpa using h
    rw [if_neg h, h']
    rfl
def isNum (l : List Nat) : Prop := rm l ≠ [] ∧ ∀ c ∈ rm l, 48 ≤ c ∧ c ≤ 57
instance (l : List Nat) : Decidable (isNum l) := inferInstanceAs (Decidable (_ ∧ _))
def numV (l : List Nat) : Int := if l.take 1 == [45] then -((digitsVal (rm l) : Nat) : Int) else ((digitsVal (rm l) : Nat) : Int)
theorem intText_num {z : Str} (h : isNum (tl z)) (hl : z.length ≤ 4000) : intText? z = some (numV (tl z)) := by
  obtain ⟨h1, h2⟩ := h
  unfold numV
  by_cases hm : ((tl z).take 1 == [45]) = true
  · rw [if_pos hm]
    have e : rm (tl z) = (tl z).drop 1 := by unfold rm; rw [if_pos hm]
    rw [e] at h1 h2 ⊢
    have ez : tl z = 45 :: (tl z).drop 1 := by
      cases hz : tl z with
      | nil => rw [hz] at hm; cases hm
      | cons a l => rw [hz] at hm; simp at hm; rw [hm]; rfl
    exact intText_neg ez h2 h1 (by omega)
  · rw [if_neg hm]
    have e : rm (tl z) = tl z := by unfold rm; rw [if_neg hm]
    rw [e] at h1 h2 ⊢
    exact intText_digits h2 h1 (by omega)
theorem dV_lt : ∀ (l : List Nat) (a : Nat), (∀ c ∈ l, c ≤ 57) → l.foldl (fun acc c => acc * 10 + (c - 48)) a < (a + 1) * 10 ^ l.length
  | [], a, _ => by simp
  | c :: l, a, h => by
    have := dV_lt l (a * 10 + (c - 48)) fun d hd => h d (List.mem_cons_of_mem _ hd)
    have hc := h c List.mem_cons_self
    rw [List.foldl_cons, List.length_cons, Nat.pow_succ]
    refine Nat.lt_of_lt_of_le this ?_
    rw [Nat.mul_comm (10 ^ l.length) 10, ← Nat.mul_assoc]
    exact Nat.mul_le_mul_right _ (by omega)
theorem numV_bd {l : List Nat} {k : Nat} (h : isNum l) (hk : l.length ≤ k) : (numV l).natAbs < 10 ^ k := by
  have hl : (rm l).length ≤ l.length := by unfold rm; split <;> simp
  have := dV_lt (rm l) 0 fun c hc => (h.2 c hc).2
  have h2 : digitsVal (rm l) < 10 ^ k := by
    unfold digitsVal
    refine Nat.lt_of_lt_of_le this ?_
    rw [Nat.zero_add, Nat.one_mul]
    exact Nat.pow_le_pow_right (by decide) (by omega)
  unfold numV
  split <;> omega
theorem allD_bs {l : List Nat} {p : Nat → Bool} : allD [.lst (l.map fun c => D.bl (p c))] = some (.bl (l.all p)) := by
  have h : ∀ l : List Nat, boolsOf (l.map fun c => D.bl (p c)) = some (l.map p) := by
    intro l
    induction l with
    | nil => rfl
    | cons c l ih => rw [List.map_cons, List.map_cons]; unfold boolsOf; rw [ih]; rfl
  show (boolsOf _).map _ = _
  rw [h]
  show some (D.bl ((l.map p).all id)) = _
  rw [List.all_map]
  rfl
def dg (c : Nat) : Bool := decide (48 ≤ c ∧ c ≤ 57)
theorem in_dig (c : Nat) : inSD (chrD c) (.str "0123456789") = some (.bl (dg c)) := by
  show inSD (.str ⟨#[c]⟩) _ = _
  rw [inS_chr, show tl (Str.ofString "0123456789") = [48, 49, 50, 51, 52, 53, 54, 55, 56, 57] from by decide +kernel]
  unfold dg
  congr 2
  simp only [decide_eq_decide, List.mem_cons, List.not_mem_nil, or_false]
  omega
theorem f_number_in {z : Str} (hz : z.length ≤ 600) : F_number_in [.val (.str z)] = some (.ok (.val (if isNum (tl z) then .int (numV (tl z)) else .non)) none) := by
  have hl : (Txt.removeprefix z "-").length ≤ 600 := by
    rw [len_tl, tl_rm]
    have : (rm (tl z)).length ≤ (tl z).length := by unfold rm; split <;> simp
    rw [← len_tl] at this
    omega
  refine Fp.eq (f_def rfl ?_)
  show X _ [_, _, _] _
  unfold B_number_in
  repeat' walk_at "x"
  refine e_rmPreD (z := .str (Txt.removeprefix z "-")) ?_ ?_
  · show (if z.length ≤ 16777216 then _ else none) = _
    rw [if_pos (by omega)]
  repeat' walk_at "x"
  refine e_truD (b := decide (rm (tl z) ≠ [])) ?_ ?_
  · show (if _ then some (((Txt.removeprefix z (Str.ofString "-")).length : Int) != 0) else none) = _
    rw [if_pos (show (Txt.removeprefix z (Str.ofString "-")).length ≤ 16777216 from Nat.le_trans hl (by decide)), len_tl, show tl (Txt.removeprefix z (Str.ofString "-")) = rm (tl z) from tl_rm z]
    cases rm (tl z) with
    | nil => rfl
    | cons a l => simp; omega
  by_cases h1 : rm (tl z) ≠ []
  · rw [decide_eq_true h1]
    refine ⟨fun q => (by cases q), fun _ => ?_⟩
    repeat' walk_at "x"
    refine ⟨by rw [List.length_map, ← len_tl]; exact Nat.lt_of_le_of_lt hl (by decide), ?_⟩
    refine x_lcL (fun ds acc Γ => (∃ l m : List Nat, ds = l.map chrD ∧ m ++ l = rm (tl z) ∧ acc = m.map fun c => D.bl (dg c)) ∧ Γ = [.val (.str z), .val (.str (Txt.removeprefix z "-")), .no]) ?_ ?_ ?_
    · exact ⟨⟨_, [], rfl, by rw [List.nil_append]; exact tl_rm z, rfl⟩, rfl⟩
    · rintro d ds acc Γ ⟨⟨l, m, e1, e2, e3⟩, rfl⟩
      cases l with
      | nil => cases e1
      | cons c l =>
        rw [List.map_cons] at e1
        cases e1
        refine ⟨_, rfl, rfl, ?_⟩
        show X _ [_, _, _] _
        repeat' walk_at "x"
        refine e_inSD (in_dig c) ⟨rfl, ⟨l, m ++ [c], rfl, by rw [List.append_assoc]; exact e2, by rw [e3, List.map_append]; rfl⟩, rfl⟩
    · rintro acc Γ ⟨⟨l, m, e1, e2, e3⟩, rfl⟩
      cases l with
      | cons c l => cases e1
      | nil =>
        rw [List.append_nil] at e2
        subst e2
        repeat' walk_at "x"
        rw [e3]
        refine e_allD allD_bs ?_
        by_cases h2 : ∀ c ∈ rm (tl z), 48 ≤ c ∧ c ≤ 57
        · have hn : isNum (tl z) := ⟨h1, h2⟩
          rw [show (rm (tl z)).all dg = true from List.all_eq_true.mpr fun c hc => decide_eq_true (h2 c hc)]
          repeat' walk_at "x"
          refine e_intOf (z := .int (numV (tl z))) ?_ ?_
          · show (if z.length ≤ 640 then (intText? z).map D.int else none) = _
            rw [if_pos (by omega), intText_num hn (by omega)]; rfl
          repeat' walk_at "x"
          rw [if_pos hn]
          exact ⟨rfl, rfl⟩
        · have hn : ¬ isNum (tl z) := fun h => h2 h.2
          rw [show (rm (tl z)).all dg = false from by
            rw [Bool.eq_false_iff]
            intro h
            exact h2 fun c hc => of_decide_eq_true (List.all_eq_true.mp h c hc)]
          repeat' walk_at "x"
          rw [if_neg hn]
          exact ⟨rfl, rfl⟩
  · have hn : ¬ isNum (tl z) := fun h => h1 h.1
    rw [decide_eq_false h1]
    refine ⟨fun _ => ?_, fun q => (by cases q)⟩
    repeat' walk_at "x"
    rw [if_neg hn]
    exact ⟨rfl, rfl⟩
end Kq

set_option linter.all false
set_option maxRecDepth 100000
set_option maxHeartbeats 4000000
namespace Kq
open PySem PySem.Spec PyProof.Rows L2 DF TL NumText
variable [TbC]
/-! ### one step -/
local macro_rules | `(tactic| walk_at "set") => `(tactic| (refine' e_set ?qa ?_; (case qa => (simp only [wipeF, backF, List.set, List.getD_cons_succ, List.getD_cons_zero, Int.reduceToNat]; rfl))))
local macro_rules | `(tactic| walk_at "cnd") => `(tactic| first | assumption | decide | omega)
local macro_rules | `(tactic| walk_at "mul") => `(tactic| first | exact mulOk_r (by decide) (by decide) | exact mulOk_l (by decide) (by decide) | exact mulOk_l (by omega) (by omega) | exact mulOk_r (by omega) (by omega))
local macro_rules | `(tactic| walk_at "x") => `(tactic| first
  | with_reducible apply x_seq
  | with_reducible apply k_nx
  | with_reducible apply k_rt
  | with_reducible apply x_nx
  | with_reducible refine x_asgK (fa := fLstO _) ?_
  | with_reducible refine x_asgK (fa := fLcO _ _ _ _ _) ?_
  | with_reducible apply ak_own
  | with_reducible apply ak_val
  | with_reducible apply x_asg
  | with_reducible refine x_retK (fa := fLstO _) ?_
  | with_reducible apply rk_own
  | with_reducible apply x_ret
  | with_reducible apply x_ifS
  | with_reducible apply x_asgG
  | with_reducible apply x_drop
  | with_reducible apply x_par
  | with_reducible apply x_par3
  | with_reducible apply x_asg3
  | with_reducible apply x_for
  | with_reducible refine x_aug ⟨_, rfl, ?_⟩
  | with_reducible apply xv_c
  | (with_reducible refine xv_var rfl ?_)
  | (with_reducible refine x_varV rfl ?_)
  | (with_reducible refine x_varO rfl ?_)
  | with_reducible apply xv_op
  | with_reducible apply xv_un
  | with_reducible apply xv_cb
  | with_reducible apply xs_nil
  | with_reducible apply xs_cons
  | with_reducible apply xa_nil
  | with_reducible apply xa_cons
  | with_reducible apply xv_tup
  | with_reducible apply xv_lst
  | with_reducible apply x_lstO
  | with_reducible apply xv_if
  | with_reducible apply xv_andV
  | with_reducible apply xv_orV
  | with_reducible apply xv_notV
  | with_reducible apply xv_isN
  | with_reducible apply xv_notN
  | with_reducible apply xt_test
  | with_reducible apply xt_tru
  | with_reducible apply xt_not
  | with_reducible apply xt_and
  | with_reducible apply xt_or
  | with_reducible apply xt_yes
  | with_reducible apply xv_call
  | with_reducible apply xv_callN
  | with_reducible apply xv_cmeth
  | with_reducible apply xv_cmethN
  | with_reducible apply xv_fld
  | with_reducible apply xv_prop
  | with_reducible apply x_setF
  | with_reducible apply xv_make
  | with_reducible apply xv_makeN
  | (with_reducible refine xv_makeL rfl ?_)
  | with_reducible apply xg_name
  | with_reducible apply xg_nil
  | with_reducible apply xg_cons
  | (with_reducible refine xg_tup rfl ?_)
  | (with_reducible refine xg_unl rfl ?_)
  | (with_reducible refine xg_sub rfl ?_)
  | (with_reducible refine xv_ixO rfl ?_)
  | ((with_reducible refine' xv_pk ?qa ?_); (case qa => (simp only [List.map, seeO, odD]; rfl)))
  | ((with_reducible refine' xt_pk ?qa ?_); (case qa => (simp only [List.map, seeO, odD]; rfl)))
  | with_reducible apply xv_bm
  | with_reducible apply xv_bm0
  | with_reducible apply xv_sl
  | with_reducible apply xo_no
  | with_reducible apply xo_some
  | with_reducible apply xv_revS
  | with_reducible apply xv_revL
  | with_reducible apply xv_fmt
  | with_reducible apply xw_any
  | with_reducible apply xw_rng1
  | with_reducible apply xw_rng2
  | with_reducible apply xv_lc
  | with_reducible apply vk_val
  | with_reducible apply bk_none
  | with_reducible apply bk_tmp
  | (with_reducible refine bk_slot rfl ?_)
  | with_reducible apply rk_val
  | with_reducible apply fk_nx
  | with_reducible apply fk_rt
  | ((with_reducible refine' e_par ?qa ?_); (case qa => (simp only [List.set]; rfl)))
  | ((with_reducible refine' e_par3 ?qa ?_); (case qa => (simp only [List.set]; rfl)))
  | ((with_reducible refine' e_ixO ?qa ?qb ?_); (case qa => exact rfl); (case qb => exact rfl))
  | ((with_reducible refine' e_sub ?qa ?qb ?qc ?_); (case qa => exact rfl); (case qb => exact rfl); (case qc => (simp only [List.set, Int.reduceToNat]; rfl)))
  | ((with_reducible refine' e_setF ?qa ?qb ?qc ?_); (case qa => exact rfl); (case qb => (simp only [List.length_cons, List.length_nil]; decide)); (case qc => (simp only [List.set, Int.reduceToNat]; rfl)))
  | ((with_reducible refine' e_fields ?qa ?qb ?_); (case qa => exact rfl); (case qb => exact rfl))
  | ((with_reducible refine' e_has ?qa ?_); (case qa => exact rfl))
  | with_reducible apply r_addI
  | with_reducible apply r_sub
  | with_reducible apply r_lt
  | with_reducible apply r_gt
  | with_reducible apply r_le
  | with_reducible apply r_ge
  | with_reducible apply r_int
  | with_reducible apply r_intB
  | with_reducible apply r_abs
  | with_reducible refine r_dec2 (fun h => ?_) (fun h => ?_)
  | with_reducible refine r_decN2 (fun h => ?_) (fun h => ?_)
  | with_reducible refine r_decM2 (fun h => ?_) (fun h => ?_)
  | with_reducible apply r_bool
  | with_reducible apply r_truB
  | with_reducible apply r_len
  | with_reducible apply r_lenS
  | with_reducible apply r_orEqS
  | with_reducible apply r_orNeS
  | with_reducible apply r_orEqI
  | with_reducible apply r_orNeI
  | with_reducible apply xv_joined
  | with_reducible apply xj_cons
  | with_reducible apply xj_nil
  | with_reducible apply r_eqI
  | with_reducible apply r_neI
  | with_reducible apply r_eqS
  | with_reducible apply r_neS
  | ((with_reducible refine' e_addD ?qa ?_); (case qa => exact rfl))
  | ((with_reducible refine' e_subD ?qa ?_); (case qa => exact rfl))
  | ((with_reducible refine' r_mul ?qa ?_); (case qa => walk_at "mul"))
  | ((with_reducible refine' r_mod ?qa ?_); (case qa => walk_at "cnd"))
  | ((with_reducible refine' r_fdiv ?qa ?qb ?_); (case qa => walk_at "cnd"); (case qb => walk_at "cnd"))
  | ((with_reducible refine' r_divmod ?qa ?qb ?_); (case qa => walk_at "cnd"); (case qb => walk_at "cnd"))
  | ((with_reducible refine' e_ltD ?qa ?_); (case qa => exact rfl))
  | ((with_reducible refine' e_leD ?qa ?_); (case qa => exact rfl))
  | ((with_reducible refine' e_gtD ?qa ?_); (case qa => exact rfl))
  | ((with_reducible refine' e_geD ?qa ?_); (case qa => exact rfl))
  | ((with_reducible refine' e_negD ?qa ?_); (case qa => exact rfl))
  | ((with_reducible refine' e_ixD ?qa ?_); (case qa => exact rfl))
  | ((with_reducible refine' e_intD ?qa ?_); (case qa => exact rfl))
  | ((with_reducible refine' e_absD ?qa ?_); (case qa => exact rfl))
  | ((with_reducible refine' e_intOf ?qa ?_); (case qa => exact rfl))
  | ((with_reducible refine' e_tupOf ?qa ?_); (case qa => exact rfl))
  | ((with_reducible refine' e_lstOf ?qa ?_); (case qa => exact rfl))
  | ((with_reducible refine' e2_boolOf ?qa ?_ ?_); (case qa => exact rfl))
  | ((with_reducible refine' e_boolOf ?qa ?_); (case qa => exact rfl))
  | ((with_reducible refine' e_truD ?qa ?_); (case qa => exact rfl))
  | ((with_reducible refine' e_itemsOf ?qa ?_); (case qa => exact rfl))
  | ((with_reducible refine' e_slD ?qa ?_); (case qa => exact rfl))
  | ((with_reducible refine' e_isiD ?qa ?_); (case qa => exact rfl))
  | ((with_reducible refine' e_boolI ?qa ?_); (case qa => exact rfl))
  | ((with_reducible refine' e_rng ?qa ?_); (case qa => exact ⟨by omega, by omega⟩))
  | with_reducible apply e_some
  | with_reducible apply e_str
  | with_reducible apply e_rev
  | ((with_reducible refine' en_val ?qa ?_); (case qa => exact rfl))
  | ((with_reducible refine' en_own ?qa ?_); (case qa => exact rfl))
  | ((with_reducible refine' en_nx ?qa ?_); (case qa => exact rfl))
  | with_reducible apply x_call
  | with_reducible refine x_ofV (fa := fC _) ?_
  | with_reducible refine x_ofV (fa := fOp _ _ _) ?_
  | with_reducible refine x_ofV (fa := fUn _ _) ?_
  | with_reducible refine x_ofV (fa := fCB _ _) ?_
  | with_reducible refine x_ofV (fa := fTup _) ?_
  | with_reducible refine x_ofV (fa := fLst _) ?_
  | with_reducible refine x_ofV (fa := fBM _ _ _ _) ?_
  | with_reducible refine x_ofV (fa := fBM0 _ _ _) ?_
  | with_reducible refine x_ofV (fa := fLc _ _ _ _ _) ?_
  | with_reducible refine x_ofV (fa := fFld _ _ _) ?_
  | with_reducible refine x_ofV (fa := fProp _ _ _) ?_
  | with_reducible refine x_ofV (fa := fMake _ _ _) ?_
  | with_reducible refine x_ofV (fa := fMakeN _ _ _ _ _ _ _) ?_
  | with_reducible refine x_ofV (fa := fSl _ _ _) ?_
  | with_reducible refine x_ofV (fa := fJoined _) ?_
  | with_reducible refine x_ofV (fa := fAndV _ _) ?_
  | with_reducible refine x_ofV (fa := fOrV _ _) ?_
  | with_reducible refine x_ofV (fa := fNotV _) ?_
  | with_reducible refine x_ofV (fa := fIf _ _ _) ?_
  | with_reducible refine x_ofV (fa := fIxO _ _) ?_
  | with_reducible refine x_ofV (fa := fCMeth _ _ _) ?_
  | with_reducible refine x_ofV (fa := fCMethN _ _ _ _ _) ?_
  | with_reducible refine x_ofV (fa := fCallN _ _ _ _ _ _) ?_
  | with_reducible refine x_ofV (fa := fIsN _) ?_
  | with_reducible refine x_ofV (fa := fNotN _) ?_
  | with_reducible apply xl_nil
  | with_reducible refine xl_cons rfl ?_
  | (refine And.intro (show List.length _ ≤ 16777216 from by simp only [List.length_cons, List.length_nil]; decide) ?_)
  | (refine And.intro (show tyS _ = some _ from rfl) ?_)
  | (refine And.intro (show flat _ = true from rfl) ?_)
  | (refine And.intro (show List.length _ = _ from rfl) ?_)
  | (refine And.intro (show List.length _ < 16777216 from by simp only [List.length_cons, List.length_nil]; decide) ?_)
  | (refine And.intro (show List.map isOwn _ = List.map isOwn _ from rfl) ?_)
  | with_reducible apply tt_intro
  | with_reducible apply nt_intro
  | with_reducible apply nnf_intro
  | with_reducible apply nnt_intro
  | with_reducible apply nf_intro
  | with_reducible apply ff_intro
  | walk_at "set")
/-! ### the cut of a text, and back -/
theorem jl_cons (p : List Nat) {r : List (List Nat)} (h : r ≠ []) : joinL [32] (p :: r) = p ++ (32 :: joinL [32] r) := by
  cases r with
  | nil => exact absurd rfl h
  | cons q r => rfl
theorem spl_ne : ∀ (l acc : List Nat), spl [32] 0 acc l ≠ []
  | [], acc => by rw [spl_nil]; simp
  | c :: r, acc => by
    cases h : pre [32] (c :: r) with
    | true => rw [spl_hit h]; simp
    | false => rw [spl_miss h]; exact spl_ne r _
theorem spl_back : ∀ (l acc : List Nat), joinL [32] (spl [32] 0 acc l) = acc ++ l
  | [], acc => by rw [spl_nil]; simp [joinL]
  | c :: r, acc => by
    cases h : pre [32] (c :: r) with
    | true =>
      have hc : c = 32 := by simpa [pre] using h
      rw [spl_hit h]
      show joinL [32] (acc :: spl [32] 0 [] r) = _
      rw [jl_cons _ (spl_ne _ _), spl_back r [], hc]
      rfl
    | false => rw [spl_miss h, spl_back r]; simp
theorem sep_tl : tl (Str.ofString " ") = [32] := by decide +kernel
theorem back (z : Str) : Txt.join " " (Txt.split z " ") = z := by
  refine ext_tl ?_
  rw [join_eq, tl_join, show tl " " = [32] from sep_tl, split_spl z " " (by rw [show tl " " = [32] from sep_tl]; simp) (kind_ok (by decide +kernel)), show tl " " = [32] from sep_tl, spl_back]
  rfl
theorem sI_chars {i : Int} : ∀ c ∈ tl (sI i), c < 1114112 := fun c hc => by
  rw [tl_sI] at hc
  exact Classical.byContradiction fun h => tlI_free (i := i) (s := c) (by omega) hc
theorem mem_jl : ∀ {L : List (List Nat)} {c : Nat}, c ∈ joinL [32] L → c = 32 ∨ ∃ l ∈ L, c ∈ l
  | [], c, h => by cases h
  | [p], c, h => .inr ⟨p, List.mem_singleton.mpr rfl, h⟩
  | p :: q :: r, c, h => by
    have h : c ∈ p ++ ([32] ++ joinL [32] (q :: r)) := h
    rcases List.mem_append.mp h with h | h
    · exact .inr ⟨p, List.mem_cons_self, h⟩
    · rcases List.mem_append.mp h with h | h
      · exact .inl (List.mem_singleton.mp h)
      · rcases mem_jl h with h | ⟨l, hl, h⟩
        · exact .inl h
        · exact .inr ⟨l, List.mem_cons_of_mem _ hl, h⟩
theorem len_jl : ∀ {L : List (List Nat)}, (joinL [32] L).length ≤ (L.map List.length).sum + L.length
  | [] => by simp [joinL]
  | [p] => by simp [joinL]
  | p :: q :: r => by
    have ih := len_jl (L := q :: r)
    show (p ++ ([32] ++ joinL [32] (q :: r))).length ≤ _
    rw [List.length_append, List.length_append, List.map_cons, List.sum_cons, List.length_cons (a := p)]
    simp only [List.length_cons, List.length_nil] at ih ⊢
    omega
theorem chars_join {ws : List Str} (h : ∀ w ∈ ws, ∀ c ∈ tl w, c < 1114112) : ∀ c ∈ tl (Txt.join (Str.ofString " ") ws), c < 1114112 := fun c hc => by
  rw [join_eq, tl_join, sep_tl] at hc
  rcases mem_jl hc with e | ⟨l, hl, hc⟩
  · omega
  · obtain ⟨w, hw, e⟩ := List.mem_map.mp hl
    subst e
    exact h w hw c hc
theorem len_join {ws : List Str} : (Txt.join (Str.ofString " ") ws).length ≤ (ws.map Str.length).sum + ws.length := by
  rw [len_tl, join_eq, tl_join, sep_tl]
  refine Nat.le_trans len_jl ?_
  rw [List.map_map, List.length_map]
  have : (ws.map (List.length ∘ tl)) = ws.map Str.length := List.map_congr_left fun w _ => (len_tl w).symm
  rw [this]
  exact Nat.le_refl _
theorem joinD_ws {ws : List Str} (h : (ws.map fun x => x.length).sum + ws.length ≤ 10000) : joinD (.str (Str.ofString " ")) [.lst (ws.map .str)] = some (.str (Txt.join (Str.ofString " ") ws)) := by
  have hs : ∀ ws : List Str, joinD.strsOf (ws.map D.str) = some ws := fun ws => by
    induction ws with
    | nil => rfl
    | cons w ws ih => show (joinD.strsOf (ws.map D.str)).map (w :: ·) = _; rw [ih]; rfl
  unfold joinD
  simp only [hs]
  show (if _ then _ else none) = _
  rw [if_pos (by rw [show (Str.ofString " ").length = 1 from by decide +kernel]; omega)]
theorem len_app (a b : Str) : (a ++ b).length = a.length + b.length := by rw [len_tl, tl_append, List.length_append, ← len_tl, ← len_tl]
/-! ### points -/
abbrev pt (ns : List Int) : D := .ins "Point" [("_numbers", tn ns)]
def sm (i : Int) : Prop := i.natAbs < 10 ^ 64
structure Sz (ns : List Int) : Prop where
  lo : 1 ≤ ns.length
  hi : ns.length ≤ 3
  al : ∀ i ∈ ns, sm i
def page (ns : List Int) : Str := Txt.join (Str.ofString " ") (Str.ofString "grid" :: sI ns.length :: ns.map sI)
def isI : D → Bool
  | .int _ => true
  | _ => false
theorem f_int {d : D} (h : isI d = true ∨ d = .non) : F_is_integer [.val d] = some (.ok (.val (.bl (isI d))) none) := by
  rcases h with h | h
  · cases d with
    | int i => kernel_rfl
    | _ => cases h
  · subst h; kernel_rfl
theorem le_b : ∀ x y, leD x y = some (.bl true) ∨ leD x y = some (.bl false) ∨ leD x y = none := fun x y => by
  cases x <;> cases y <;> first | exact .inr (.inr rfl) | skip
  rename_i a b
  show some (D.bl (decide (a ≤ b))) = _ ∨ some (D.bl (decide (a ≤ b))) = _ ∨ _
  cases decide (a ≤ b)
  · exact .inr (.inl rfl)
  · exact .inl rfl
theorem allD_bsD {l : List D} {p : D → Bool} : allD [.lst (l.map fun c => D.bl (p c))] = some (.bl (l.all p)) := by
  have h : ∀ l : List D, boolsOf (l.map fun c => D.bl (p c)) = some (l.map p) := by
    intro l
    induction l with
    | nil => rfl
    | cons c l ih => rw [List.map_cons, List.map_cons]; unfold boolsOf; rw [ih]; rfl
  show (boolsOf _).map _ = _
  rw [h]
  show some (D.bl ((l.map p).all id)) = _
  rw [List.all_map]
  rfl
theorem f_nums {ds : List D} (h : ∀ d ∈ ds, isI d = true ∨ d = .non) (hl : ds.length ≤ 10000) : F_is_numbers [.val (.tup ds)] = some (.ok (.val (.bl (decide (1 ≤ ds.length ∧ ds.length ≤ 3) && ds.all isI))) none) := by
  refine Fp.eq (f_def rfl ?_)
  show X _ [_, _] _
  unfold B_is_numbers
  repeat' walk_at "x"
  refine X.imp (Φ := fun x Γ' => x = .bl (decide (1 ≤ ds.length ∧ ds.length ≤ 3)) ∧ Γ' = [.val (.tup ds), .no]) ?_ ?_
  · refine xv_chain ?_ le_b
    repeat' walk_at "x"
    refine ⟨.int ds.length, rfl, decide ((1 : Int) ≤ ds.length), rfl, fun q => ?_, fun q => ?_⟩
    · have q := of_decide_eq_true q
      repeat' walk_at "x"
      refine ⟨?_, rfl⟩
      congr 1
      rw [decide_eq_decide]
      omega
    · have q := of_decide_eq_false q
      refine ⟨?_, rfl⟩
      rw [decide_eq_false (by omega)]
  rintro _ _ ⟨rfl, rfl⟩
  by_cases hs : 1 ≤ ds.length ∧ ds.length ≤ 3
  · rw [decide_eq_true hs, Bool.true_and]
    refine ⟨_, rfl, fun q => (by cases q), fun _ => ?_⟩
    repeat' walk_at "x"
    refine ⟨by omega, ?_⟩
    refine x_lcL (fun l acc Γ => (∃ m : List D, m ++ l = ds ∧ acc = m.map fun d => D.bl (isI d)) ∧ Γ = [.val (.tup ds), .no]) ?_ ?_ ?_
    · exact ⟨⟨[], rfl, rfl⟩, rfl⟩
    · rintro d l acc Γ ⟨⟨m, e, rfl⟩, rfl⟩
      refine ⟨_, rfl, rfl, ?_⟩
      show X _ [_, _] _
      repeat' walk_at "x"
      refine x_callF rfl (fp_of (f_int (h d (by rw [← e]; simp))) ?_)
      repeat' walk_at "x"
      exact ⟨⟨m ++ [d], by rw [List.append_assoc]; exact e, by rw [List.map_append]; rfl⟩, rfl⟩
    · rintro acc Γ ⟨⟨m, e, rfl⟩, rfl⟩
      rw [List.append_nil] at e
      subst e
      repeat' walk_at "x"
      refine e_allD (allD_bsD (p := isI)) ?_
      repeat' walk_at "x"
      exact ⟨rfl, rfl⟩
  · rw [decide_eq_false hs, Bool.false_and]
    refine ⟨_, rfl, fun _ => ?_, fun q => (by cases q)⟩
    repeat' walk_at "x"
    exact ⟨rfl, rfl⟩
end Kq

set_option linter.all false
set_option maxRecDepth 100000
set_option maxHeartbeats 4000000
namespace Kq
open PySem PySem.Spec PyProof.Rows L2 DF TL NumText
variable [TbC]
/-! ### one step -/
local macro_rules | `(tactic| walk_at "set") => `(tactic| (refine' e_set ?qa ?_; (case qa => (simp only [wipeF, backF, List.set, List.getD_cons_succ, List.getD_cons_zero, Int.reduceToNat]; rfl))))
local macro_rules | `(tactic| walk_at "cnd") => `(tactic| first | assumption | decide | omega)
local macro_rules | `(tactic| walk_at "mul") => `(tactic| first | exact mulOk_r (by decide) (by decide) | exact mulOk_l (by decide) (by decide) | exact mulOk_l (by omega) (by omega) | exact mulOk_r (by omega) (by omega))
local macro_rules | `(tactic| walk_at "x") => `(tactic| first
  | with_reducible apply x_seq
  | with_reducible apply k_nx
  | with_reducible apply k_rt
  | with_reducible apply x_nx
  | with_reducible refine x_asgK (fa := fLstO _) ?_
  | with_reducible refine x_asgK (fa := fLcO _ _ _ _ _) ?_
  | with_reducible apply ak_own
  | with_reducible apply ak_val
  | with_reducible apply x_asg
  | with_reducible refine x_retK (fa := fLstO _) ?_
  | with_reducible apply rk_own
  | with_reducible apply x_ret
  | with_reducible apply x_ifS
  | with_reducible apply x_asgG
  | with_reducible apply x_drop
  | with_reducible apply x_par
  | with_reducible apply x_par3
  | with_reducible apply x_asg3
  | with_reducible apply x_for
  | with_reducible refine x_aug ⟨_, rfl, ?_⟩
  | with_reducible apply xv_c
  | (with_reducible refine xv_var rfl ?_)
  | (with_reducible refine x_varV rfl ?_)
  | (with_reducible refine x_varO rfl ?_)
  | with_reducible apply xv_op
  | with_reducible apply xv_un
  | with_reducible apply xv_cb
  | with_reducible apply xs_nil
  | with_reducible apply xs_cons
  | with_reducible apply xa_nil
  | with_reducible apply xa_cons
  | with_reducible apply xv_tup
  | with_reducible apply xv_lst
  | with_reducible apply x_lstO
  | with_reducible apply xv_if
  | with_reducible apply xv_andV
  | with_reducible apply xv_orV
  | with_reducible apply xv_notV
  | with_reducible apply xv_isN
  | with_reducible apply xv_notN
  | with_reducible apply xt_test
  | with_reducible apply xt_tru
  | with_reducible apply xt_not
  | with_reducible apply xt_and
  | with_reducible apply xt_or
  | with_reducible apply xt_yes
  | with_reducible apply xv_call
  | with_reducible apply xv_callN
  | with_reducible apply xv_cmeth
  | with_reducible apply xv_cmethN
  | with_reducible apply xv_fld
  | with_reducible apply xv_prop
  | with_reducible apply x_setF
  | with_reducible apply xv_make
  | with_reducible apply xv_makeN
  | (with_reducible refine xv_makeL rfl ?_)
  | with_reducible apply xg_name
  | with_reducible apply xg_nil
  | with_reducible apply xg_cons
  | (with_reducible refine xg_tup rfl ?_)
  | (with_reducible refine xg_unl rfl ?_)
  | (with_reducible refine xg_sub rfl ?_)
  | (with_reducible refine xv_ixO rfl ?_)
  | ((with_reducible refine' xv_pk ?qa ?_); (case qa => (simp only [List.map, seeO, odD]; rfl)))
  | ((with_reducible refine' xt_pk ?qa ?_); (case qa => (simp only [List.map, seeO, odD]; rfl)))
  | with_reducible apply xv_bm
  | with_reducible apply xv_bm0
  | with_reducible apply xv_sl
  | with_reducible apply xo_no
  | with_reducible apply xo_some
  | with_reducible apply xv_revS
  | with_reducible apply xv_revL
  | with_reducible apply xv_fmt
  | with_reducible apply xw_any
  | with_reducible apply xw_rng1
  | with_reducible apply xw_rng2
  | with_reducible apply xv_lc
  | with_reducible apply vk_val
  | with_reducible apply bk_none
  | with_reducible apply bk_tmp
  | (with_reducible refine bk_slot rfl ?_)
  | with_reducible apply rk_val
  | with_reducible apply fk_nx
  | with_reducible apply fk_rt
  | ((with_reducible refine' e_par ?qa ?_); (case qa => (simp only [List.set]; rfl)))
  | ((with_reducible refine' e_par3 ?qa ?_); (case qa => (simp only [List.set]; rfl)))
  | ((with_reducible refine' e_ixO ?qa ?qb ?_); (case qa => exact rfl); (case qb => exact rfl))
  | ((with_reducible refine' e_sub ?qa ?qb ?qc ?_); (case qa => exact rfl); (case qb => exact rfl); (case qc => (simp only [List.set, Int.reduceToNat]; rfl)))
  | ((with_reducible refine' e_setF ?qa ?qb ?qc ?_); (case qa => exact rfl); (case qb => (simp only [List.length_cons, List.length_nil]; decide)); (case qc => (simp only [List.set, Int.reduceToNat]; rfl)))
  | ((with_reducible refine' e_fields ?qa ?qb ?_); (case qa => exact rfl); (case qb => exact rfl))
  | ((with_reducible refine' e_has ?qa ?_); (case qa => exact rfl))
  | with_reducible apply r_addI
  | with_reducible apply r_sub
  | with_reducible apply r_lt
  | with_reducible apply r_gt
  | with_reducible apply r_le
  | with_reducible apply r_ge
  | with_reducible apply r_int
  | with_reducible apply r_intB
  | with_reducible apply r_abs
  | with_reducible refine r_dec2 (fun h => ?_) (fun h => ?_)
  | with_reducible refine r_decN2 (fun h => ?_) (fun h => ?_)
  | with_reducible refine r_decM2 (fun h => ?_) (fun h => ?_)
  | with_reducible apply r_bool
  | with_reducible apply r_truB
  | with_reducible apply r_len
  | with_reducible apply r_lenS
  | with_reducible apply r_orEqS
  | with_reducible apply r_orNeS
  | with_reducible apply r_orEqI
  | with_reducible apply r_orNeI
  | with_reducible apply xv_joined
  | with_reducible apply xj_cons
  | with_reducible apply xj_nil
  | with_reducible apply r_eqI
  | with_reducible apply r_neI
  | with_reducible apply r_eqS
  | with_reducible apply r_neS
  | ((with_reducible refine' e_addD ?qa ?_); (case qa => exact rfl))
  | ((with_reducible refine' e_subD ?qa ?_); (case qa => exact rfl))
  | ((with_reducible refine' r_mul ?qa ?_); (case qa => walk_at "mul"))
  | ((with_reducible refine' r_mod ?qa ?_); (case qa => walk_at "cnd"))
  | ((with_reducible refine' r_fdiv ?qa ?qb ?_); (case qa => walk_at "cnd"); (case qb => walk_at "cnd"))
  | ((with_reducible refine' r_divmod ?qa ?qb ?_); (case qa => walk_at "cnd"); (case qb => walk_at "cnd"))
  | ((with_reducible refine' e_ltD ?qa ?_); (case qa => exact rfl))
  | ((with_reducible refine' e_leD ?qa ?_); (case qa => exact rfl))
  | ((with_reducible refine' e_gtD ?qa ?_); (case qa => exact rfl))
  | ((with_reducible refine' e_geD ?qa ?_); (case qa => exact rfl))
  | ((with_reducible refine' e_negD ?qa ?_); (case qa => exact rfl))
  | ((with_reducible refine' e_ixD ?qa ?_); (case qa => exact rfl))
  | ((with_reducible refine' e_intD ?qa ?_); (case qa => exact rfl))
  | ((with_reducible refine' e_absD ?qa ?_); (case qa => exact rfl))
  | ((with_reducible refine' e_intOf ?qa ?_); (case qa => exact rfl))
  | ((with_reducible refine' e_tupOf ?qa ?_); (case qa => exact rfl))
  | ((with_reducible refine' e_lstOf ?qa ?_); (case qa => exact rfl))
  | ((with_reducible refine' e2_boolOf ?qa ?_ ?_); (case qa => exact rfl))
  | ((with_reducible refine' e_boolOf ?qa ?_); (case qa => exact rfl))
  | ((with_reducible refine' e_truD ?qa ?_); (case qa => exact rfl))
  | ((with_reducible refine' e_itemsOf ?qa ?_); (case qa => exact rfl))
  | ((with_reducible refine' e_slD ?qa ?_); (case qa => exact rfl))
  | ((with_reducible refine' e_isiD ?qa ?_); (case qa => exact rfl))
  | ((with_reducible refine' e_boolI ?qa ?_); (case qa => exact rfl))
  | ((with_reducible refine' e_rng ?qa ?_); (case qa => exact ⟨by omega, by omega⟩))
  | with_reducible apply e_some
  | with_reducible apply e_str
  | with_reducible apply e_rev
  | ((with_reducible refine' en_val ?qa ?_); (case qa => exact rfl))
  | ((with_reducible refine' en_own ?qa ?_); (case qa => exact rfl))
  | ((with_reducible refine' en_nx ?qa ?_); (case qa => exact rfl))
  | with_reducible apply x_call
  | with_reducible refine x_ofV (fa := fC _) ?_
  | with_reducible refine x_ofV (fa := fOp _ _ _) ?_
  | with_reducible refine x_ofV (fa := fUn _ _) ?_
  | with_reducible refine x_ofV (fa := fCB _ _) ?_
  | with_reducible refine x_ofV (fa := fTup _) ?_
  | with_reducible refine x_ofV (fa := fLst _) ?_
  | with_reducible refine x_ofV (fa := fBM _ _ _ _) ?_
  | with_reducible refine x_ofV (fa := fBM0 _ _ _) ?_
  | with_reducible refine x_ofV (fa := fLc _ _ _ _ _) ?_
  | with_reducible refine x_ofV (fa := fFld _ _ _) ?_
  | with_reducible refine x_ofV (fa := fProp _ _ _) ?_
  | with_reducible refine x_ofV (fa := fMake _ _ _) ?_
  | with_reducible refine x_ofV (fa := fMakeN _ _ _ _ _ _ _) ?_
  | with_reducible refine x_ofV (fa := fSl _ _ _) ?_
  | with_reducible refine x_ofV (fa := fJoined _) ?_
  | with_reducible refine x_ofV (fa := fAndV _ _) ?_
  | with_reducible refine x_ofV (fa := fOrV _ _) ?_
  | with_reducible refine x_ofV (fa := fNotV _) ?_
  | with_reducible refine x_ofV (fa := fIf _ _ _) ?_
  | with_reducible refine x_ofV (fa := fIxO _ _) ?_
  | with_reducible refine x_ofV (fa := fCMeth _ _ _) ?_
  | with_reducible refine x_ofV (fa := fCMethN _ _ _ _ _) ?_
  | with_reducible refine x_ofV (fa := fCallN _ _ _ _ _ _) ?_
  | with_reducible refine x_ofV (fa := fIsN _) ?_
  | with_reducible refine x_ofV (fa := fNotN _) ?_
  | with_reducible apply xl_nil
  | with_reducible refine xl_cons rfl ?_
  | (refine And.intro (show List.length _ ≤ 16777216 from by simp only [List.length_cons, List.length_nil]; decide) ?_)
  | (refine And.intro (show tyS _ = some _ from rfl) ?_)
  | (refine And.intro (show flat _ = true from rfl) ?_)
  | (refine And.intro (show List.length _ = _ from rfl) ?_)
  | (refine And.intro (show List.length _ < 16777216 from by simp only [List.length_cons, List.length_nil]; decide) ?_)
  | (refine And.intro (show List.map isOwn _ = List.map isOwn _ from rfl) ?_)
  | with_reducible apply tt_intro
  | with_reducible apply nt_intro
  | with_reducible apply nnf_intro
  | with_reducible apply nnt_intro
  | with_reducible apply nf_intro
  | with_reducible apply ff_intro
  | walk_at "set")
theorem all_tn (ns : List Int) : (ns.map D.int).all isI = true := by
  rw [List.all_map]
  exact List.all_eq_true.mpr fun _ _ => rfl
theorem tn_isI {ns : List Int} : ∀ d ∈ ns.map D.int, isI d = true ∨ d = .non := fun d hd => by
  obtain ⟨i, _, e⟩ := List.mem_map.mp hd
  subst e
  exact .inl rfl
theorem f_numsT {ns : List Int} (h : Sz ns) : F_is_numbers [.val (tn ns)] = some (.ok (.val (.bl true)) none) := by
  have := h.lo
  have := h.hi
  rw [f_nums tn_isI (by rw [List.length_map]; omega), all_tn, List.length_map, decide_eq_true ⟨h.lo, h.hi⟩]
  rfl
theorem f_init {ns : List Int} (h : Sz ns) : F_Point_init [.own 1 (.ins "Point" []), .val (tn ns)] = some (.ok (.val .non) (some (.ins "Point" [("_numbers", tn ns)]))) := by
  refine Fp.eq (f_def rfl ?_)
  show X _ [_, _] _
  unfold B_Point_init
  repeat' walk_at "x"
  refine x_callF rfl (fp_of (f_numsT h) ?_)
  repeat' walk_at "x"
  exact ⟨rfl, rfl⟩
theorem f_numbers {ns : List Int} : F_Point_numbers [.val (pt ns)] = some (.ok (.val (tn ns)) none) := by kernel_rfl
theorem f_len {ns : List Int} : F_Point_len [.val (pt ns)] = some (.ok (.val (.int ns.length)) none) := by
  refine Fp.eq (f_def rfl ?_)
  show X _ [_] _
  unfold B_Point_len
  repeat' walk_at "x"
  refine ⟨_, rfl, ?_⟩
  repeat' walk_at "x"
  exact ⟨by rw [List.length_map], rfl⟩
/-- numbers with blanks between -/
def nt (ns : List Int) : Str := Txt.join (Str.ofString " ") (ns.map sI)
theorem sum_sI : ∀ {ns : List Int}, (∀ i ∈ ns, sm i) → ((ns.map sI).map fun x => x.length).sum ≤ 65 * ns.length
  | [], _ => by simp
  | i :: ns, h => by
    have := len_sI (h i List.mem_cons_self)
    have ih := sum_sI fun j hj => h j (List.mem_cons_of_mem _ hj)
    simp only [List.map_cons, List.sum_cons, List.length_cons]
    omega
theorem len_nt {ns : List Int} (h : Sz ns) : (nt ns).length ≤ 200 := by
  refine Nat.le_trans len_join ?_
  have := sum_sI h.al
  have := h.hi
  have e : ((ns.map sI).map Str.length).sum = ((ns.map sI).map fun x => x.length).sum := rfl
  rw [List.length_map, e]
  omega
theorem f_numbers_text {ns : List Int} (h : Sz ns) : F_numbers_text [.val (tn ns)] = some (.ok (.val (.str (nt ns))) none) := by
  have hl := h.hi
  refine Fp.eq (f_def rfl ?_)
  show X _ [_, _] _
  unfold B_numbers_text
  repeat' walk_at "x"
  refine ⟨by rw [List.length_map]; omega, ?_⟩
  refine x_lcL (fun l acc Γ => (∃ m k : List Int, m ++ k = ns ∧ l = k.map D.int ∧ acc = (m.map sI).map D.str) ∧ Γ = [.val (tn ns), .no]) ?_ ?_ ?_
  · exact ⟨⟨[], ns, rfl, rfl, rfl⟩, rfl⟩
  · rintro d l acc Γ ⟨⟨m, k, e, e2, rfl⟩, rfl⟩
    cases k with
    | nil => cases e2
    | cons i k =>
      rw [List.map_cons] at e2
      cases e2
      refine ⟨_, rfl, rfl, ?_⟩
      show X _ [_, _] _
      repeat' walk_at "x"
      refine x_callF rfl (fp_of (f_number_text (h.al i (by rw [← e]; simp))) ?_)
      repeat' walk_at "x"
      exact ⟨⟨m ++ [i], k, by rw [List.append_assoc]; exact e, rfl, by simp⟩, rfl⟩
  · rintro acc Γ ⟨⟨m, k, e, e2, rfl⟩, rfl⟩
    cases k with
    | cons i k => cases e2
    | nil =>
      rw [List.append_nil] at e
      subst e
      repeat' walk_at "x"
      have := sum_sI h.al
      refine e_joinD (joinD_ws (by rw [List.length_map]; omega)) ?_
      repeat' walk_at "x"
      exact ⟨rfl, rfl⟩
theorem page_nt {ns : List Int} (h : ns ≠ []) : page ns = Str.ofString "grid " ++ sI ns.length ++ Str.ofString " " ++ nt ns := by
  unfold page nt
  refine ext_tl ?_
  simp only [tl_append, join_eq, tl_join, sep_tl]
  cases ns with
  | nil => exact absurd rfl h
  | cons i ns =>
    show tl (Str.ofString "grid") ++ ([32] ++ (tl (sI _) ++ ([32] ++ joinL [32] (((i :: ns).map sI).map tl)))) = _
    rw [show tl (Str.ofString "grid ") = tl (Str.ofString "grid") ++ [32] from by decide +kernel]
    simp only [List.append_assoc]
theorem sm_len {ns : List Int} (h : Sz ns) : sm (ns.length : Int) := by
  have := h.hi
  unfold sm
  exact Nat.lt_of_le_of_lt (show (ns.length : Int).natAbs ≤ 3 by omega) (by decide)
theorem f_str {ns : List Int} (h : Sz ns) : F_Point_str [.val (pt ns)] = some (.ok (.val (.str (page ns))) none) := by
  have hl := len_nt h
  have hn := len_sI (sm_len h)
  have l1 : Str.empty.length = 0 := by decide +kernel
  have l2 : (Str.ofString "grid ").length = 5 := by decide +kernel
  have l3 : (Str.ofString " ").length = 1 := by decide +kernel
  refine Fp.eq (f_def rfl ?_)
  show X _ [_] _
  unfold B_Point_str
  repeat' walk_at "x"
  refine ⟨by decide +kernel, ?_⟩
  repeat' walk_at "x"
  refine ⟨_, rfl, ?_⟩
  rw [List.length_map]
  have hlog : (ns.length : Int).natAbs.log2 < 1920 := log_ok (Nat.lt_trans (sm_len h) (by decide))
  refine r_fmtI hlog ?_
  repeat' walk_at "x"
  refine ⟨by rw [len_app, len_app, l1, l2]; show 0 + 5 + (sI (ns.length : Int)).length ≤ _; omega, ?_⟩
  repeat' walk_at "x"
  refine ⟨by rw [len_app, len_app, len_app, l1, l2, l3]; show 0 + 5 + (sI (ns.length : Int)).length + 1 ≤ _; omega, ?_⟩
  repeat' walk_at "x"
  refine x_callF rfl (fp_of (f_numbers_text h) ?_)
  repeat' walk_at "x"
  refine r_fmtS (by omega) ?_
  repeat' walk_at "x"
  refine ⟨by rw [len_app, len_app, len_app, len_app, l1, l2, l3]; show 0 + 5 + (sI (ns.length : Int)).length + 1 + (nt ns).length ≤ _; omega, ?_⟩
  have ep : (Str.empty ++ Str.ofString "grid " ++ Str.ofString (toString (ns.length : Int)) ++ Str.ofString " " ++ nt ns : Str) = page ns := by
    rw [page_nt (fun e => by have := h.lo; rw [e] at this; simp at this)]
    refine ext_tl ?_
    simp only [tl_append]
    rw [show tl Str.empty = [] from rfl, List.nil_append]
  rw [ep]
  exact ⟨_, _, rfl, _, rfl, rfl, rfl⟩
end Kq

set_option linter.all false
set_option maxRecDepth 100000
set_option maxHeartbeats 4000000
namespace Kq
open PySem PySem.Spec PyProof.Rows L2 DF TL NumText
variable [TbC]
/-! ### one step -/
local macro_rules | `(tactic| walk_at "set") => `(tactic| (refine' e_set ?qa ?_; (case qa => (simp only [wipeF, backF, List.set, List.getD_cons_succ, List.getD_cons_zero, Int.reduceToNat]; rfl))))
local macro_rules | `(tactic| walk_at "cnd") => `(tactic| first | assumption | decide | omega)
local macro_rules | `(tactic| walk_at "mul") => `(tactic| first | exact mulOk_r (by decide) (by decide) | exact mulOk_l (by decide) (by decide) | exact mulOk_l (by omega) (by omega) | exact mulOk_r (by omega) (by omega))
local macro_rules | `(tactic| walk_at "x") => `(tactic| first
  | with_reducible apply x_seq
  | with_reducible apply k_nx
  | with_reducible apply k_rt
  | with_reducible apply x_nx
  | with_reducible refine x_asgK (fa := fLstO _) ?_
  | with_reducible refine x_asgK (fa := fLcO _ _ _ _ _) ?_
  | with_reducible apply ak_own
  | with_reducible apply ak_val
  | with_reducible apply x_asg
  | with_reducible refine x_retK (fa := fLstO _) ?_
  | with_reducible apply rk_own
  | with_reducible apply x_ret
  | with_reducible apply x_ifS
  | with_reducible apply x_asgG
  | with_reducible apply x_drop
  | with_reducible apply x_par
  | with_reducible apply x_par3
  | with_reducible apply x_asg3
  | with_reducible apply x_for
  | with_reducible refine x_aug ⟨_, rfl, ?_⟩
  | with_reducible apply xv_c
  | (with_reducible refine xv_var rfl ?_)
  | (with_reducible refine x_varV rfl ?_)
  | (with_reducible refine x_varO rfl ?_)
  | with_reducible apply xv_op
  | with_reducible apply xv_un
  | with_reducible apply xv_cb
  | with_reducible apply xs_nil
  | with_reducible apply xs_cons
  | with_reducible apply xa_nil
  | with_reducible apply xa_cons
  | with_reducible apply xv_tup
  | with_reducible apply xv_lst
  | with_reducible apply x_lstO
  | with_reducible apply xv_if
  | with_reducible apply xv_andV
  | with_reducible apply xv_orV
  | with_reducible apply xv_notV
  | with_reducible apply xv_isN
  | with_reducible apply xv_notN
  | with_reducible apply xt_test
  | with_reducible apply xt_tru
  | with_reducible apply xt_not
  | with_reducible apply xt_and
  | with_reducible apply xt_or
  | with_reducible apply xt_yes
  | with_reducible apply xv_call
  | with_reducible apply xv_callN
  | with_reducible apply xv_cmeth
  | with_reducible apply xv_cmethN
  | with_reducible apply xv_fld
  | with_reducible apply xv_prop
  | with_reducible apply x_setF
  | with_reducible apply xv_make
  | with_reducible apply xv_makeN
  | (with_reducible refine xv_makeL rfl ?_)
  | with_reducible apply xg_name
  | with_reducible apply xg_nil
  | with_reducible apply xg_cons
  | (with_reducible refine xg_tup rfl ?_)
  | (with_reducible refine xg_unl rfl ?_)
  | (with_reducible refine xg_sub rfl ?_)
  | (with_reducible refine xv_ixO rfl ?_)
  | ((with_reducible refine' xv_pk ?qa ?_); (case qa => (simp only [List.map, seeO, odD]; rfl)))
  | ((with_reducible refine' xt_pk ?qa ?_); (case qa => (simp only [List.map, seeO, odD]; rfl)))
  | with_reducible apply xv_bm
  | with_reducible apply xv_bm0
  | with_reducible apply xv_sl
  | with_reducible apply xo_no
  | with_reducible apply xo_some
  | with_reducible apply xv_revS
  | with_reducible apply xv_revL
  | with_reducible apply xv_fmt
  | with_reducible apply xw_any
  | with_reducible apply xw_rng1
  | with_reducible apply xw_rng2
  | with_reducible apply xv_lc
  | with_reducible apply vk_val
  | with_reducible apply bk_none
  | with_reducible apply bk_tmp
  | (with_reducible refine bk_slot rfl ?_)
  | with_reducible apply rk_val
  | with_reducible apply fk_nx
  | with_reducible apply fk_rt
  | ((with_reducible refine' e_par ?qa ?_); (case qa => (simp only [List.set]; rfl)))
  | ((with_reducible refine' e_par3 ?qa ?_); (case qa => (simp only [List.set]; rfl)))
  | ((with_reducible refine' e_ixO ?qa ?qb ?_); (case qa => exact rfl); (case qb => exact rfl))
  | ((with_reducible refine' e_sub ?qa ?qb ?qc ?_); (case qa => exact rfl); (case qb => exact rfl); (case qc => (simp only [List.set, Int.reduceToNat]; rfl)))
  | ((with_reducible refine' e_setF ?qa ?qb ?qc ?_); (case qa => exact rfl); (case qb => (simp only [List.length_cons, List.length_nil]; decide)); (case qc => (simp only [List.set, Int.reduceToNat]; rfl)))
  | ((with_reducible refine' e_fields ?qa ?qb ?_); (case qa => exact rfl); (case qb => exact rfl))
  | ((with_reducible refine' e_has ?qa ?_); (case qa => exact rfl))
  | with_reducible apply r_addI
  | with_reducible apply r_sub
  | with_reducible apply r_lt
  | with_reducible apply r_gt
  | with_reducible apply r_le
  | with_reducible apply r_ge
  | with_reducible apply r_int
  | with_reducible apply r_intB
  | with_reducible apply r_abs
  | with_reducible refine r_dec2 (fun h => ?_) (fun h => ?_)
  | with_reducible refine r_decN2 (fun h => ?_) (fun h => ?_)
  | with_reducible refine r_decM2 (fun h => ?_) (fun h => ?_)
  | with_reducible apply r_bool
  | with_reducible apply r_truB
  | with_reducible apply r_len
  | with_reducible apply r_lenS
  | with_reducible apply r_orEqS
  | with_reducible apply r_orNeS
  | with_reducible apply r_orEqI
  | with_reducible apply r_orNeI
  | with_reducible apply xv_joined
  | with_reducible apply xj_cons
  | with_reducible apply xj_nil
  | with_reducible apply r_eqI
  | with_reducible apply r_neI
  | with_reducible apply r_eqS
  | with_reducible apply r_neS
  | ((with_reducible refine' e_addD ?qa ?_); (case qa => exact rfl))
  | ((with_reducible refine' e_subD ?qa ?_); (case qa => exact rfl))
  | ((with_reducible refine' r_mul ?qa ?_); (case qa => walk_at "mul"))
  | ((with_reducible refine' r_mod ?qa ?_); (case qa => walk_at "cnd"))
  | ((with_reducible refine' r_fdiv ?qa ?qb ?_); (case qa => walk_at "cnd"); (case qb => walk_at "cnd"))
  | ((with_reducible refine' r_divmod ?qa ?qb ?_); (case qa => walk_at "cnd"); (case qb => walk_at "cnd"))
  | ((with_reducible refine' e_ltD ?qa ?_); (case qa => exact rfl))
  | ((with_reducible refine' e_leD ?qa ?_); (case qa => exact rfl))
  | ((with_reducible refine' e_gtD ?qa ?_); (case qa => exact rfl))
  | ((with_reducible refine' e_geD ?qa ?_); (case qa => exact rfl))
  | ((with_reducible refine' e_negD ?qa ?_); (case qa => exact rfl))
  | ((with_reducible refine' e_ixD ?qa ?_); (case qa => exact rfl))
  | ((with_reducible refine' e_intD ?qa ?_); (case qa => exact rfl))
  | ((with_reducible refine' e_absD ?qa ?_); (case qa => exact rfl))
  | ((with_reducible refine' e_intOf ?qa ?_); (case qa => exact rfl))
  | ((with_reducible refine' e_tupOf ?qa ?_); (case qa => exact rfl))
  | ((with_reducible refine' e_lstOf ?qa ?_); (case qa => exact rfl))
  | ((with_reducible refine' e2_boolOf ?qa ?_ ?_); (case qa => exact rfl))
  | ((with_reducible refine' e_boolOf ?qa ?_); (case qa => exact rfl))
  | ((with_reducible refine' e_truD ?qa ?_); (case qa => exact rfl))
  | ((with_reducible refine' e_itemsOf ?qa ?_); (case qa => exact rfl))
  | ((with_reducible refine' e_slD ?qa ?_); (case qa => exact rfl))
  | ((with_reducible refine' e_isiD ?qa ?_); (case qa => exact rfl))
  | ((with_reducible refine' e_boolI ?qa ?_); (case qa => exact rfl))
  | ((with_reducible refine' e_rng ?qa ?_); (case qa => exact ⟨by omega, by omega⟩))
  | with_reducible apply e_some
  | with_reducible apply e_str
  | with_reducible apply e_rev
  | ((with_reducible refine' en_val ?qa ?_); (case qa => exact rfl))
  | ((with_reducible refine' en_own ?qa ?_); (case qa => exact rfl))
  | ((with_reducible refine' en_nx ?qa ?_); (case qa => exact rfl))
  | with_reducible apply x_call
  | with_reducible refine x_ofV (fa := fC _) ?_
  | with_reducible refine x_ofV (fa := fOp _ _ _) ?_
  | with_reducible refine x_ofV (fa := fUn _ _) ?_
  | with_reducible refine x_ofV (fa := fCB _ _) ?_
  | with_reducible refine x_ofV (fa := fTup _) ?_
  | with_reducible refine x_ofV (fa := fLst _) ?_
  | with_reducible refine x_ofV (fa := fBM _ _ _ _) ?_
  | with_reducible refine x_ofV (fa := fBM0 _ _ _) ?_
  | with_reducible refine x_ofV (fa := fLc _ _ _ _ _) ?_
  | with_reducible refine x_ofV (fa := fFld _ _ _) ?_
  | with_reducible refine x_ofV (fa := fProp _ _ _) ?_
  | with_reducible refine x_ofV (fa := fMake _ _ _) ?_
  | with_reducible refine x_ofV (fa := fMakeN _ _ _ _ _ _ _) ?_
  | with_reducible refine x_ofV (fa := fSl _ _ _) ?_
  | with_reducible refine x_ofV (fa := fJoined _) ?_
  | with_reducible refine x_ofV (fa := fAndV _ _) ?_
  | with_reducible refine x_ofV (fa := fOrV _ _) ?_
  | with_reducible refine x_ofV (fa := fNotV _) ?_
  | with_reducible refine x_ofV (fa := fIf _ _ _) ?_
  | with_reducible refine x_ofV (fa := fIxO _ _) ?_
  | with_reducible refine x_ofV (fa := fCMeth _ _ _) ?_
  | with_reducible refine x_ofV (fa := fCMethN _ _ _ _ _) ?_
  | with_reducible refine x_ofV (fa := fCallN _ _ _ _ _ _) ?_
  | with_reducible refine x_ofV (fa := fIsN _) ?_
  | with_reducible refine x_ofV (fa := fNotN _) ?_
  | with_reducible apply xl_nil
  | with_reducible refine xl_cons rfl ?_
  | (refine And.intro (show List.length _ ≤ 16777216 from by simp only [List.length_cons, List.length_nil]; decide) ?_)
  | (refine And.intro (show tyS _ = some _ from rfl) ?_)
  | (refine And.intro (show flat _ = true from rfl) ?_)
  | (refine And.intro (show List.length _ = _ from rfl) ?_)
  | (refine And.intro (show List.length _ < 16777216 from by simp only [List.length_cons, List.length_nil]; decide) ?_)
  | (refine And.intro (show List.map isOwn _ = List.map isOwn _ from rfl) ?_)
  | with_reducible apply tt_intro
  | with_reducible apply nt_intro
  | with_reducible apply nnf_intro
  | with_reducible apply nnt_intro
  | with_reducible apply nf_intro
  | with_reducible apply ff_intro
  | walk_at "set")
theorem ok_ints : ∀ {ns : List Int}, (∀ i ∈ ns, sm i) → okL (ns.map D.int)
  | [], _ => trivial
  | i :: ns, h => ⟨Nat.lt_trans (h i List.mem_cons_self) (by decide), ok_ints fun j hj => h j (List.mem_cons_of_mem _ hj)⟩
theorem dep_ints : ∀ ns : List Int, depL (ns.map D.int) = 0
  | [] => rfl
  | i :: ns => by show max 0 (depL (ns.map D.int)) = 0; rw [dep_ints ns]; rfl
theorem ok_tn {ns : List Int} (h : ∀ i ∈ ns, sm i) : okD (tn ns) := ok_ints h
theorem dep_tn {ns : List Int} : dep (tn ns) ≤ 64 := by show depL (ns.map D.int) + 1 ≤ 64; rw [dep_ints]; decide
theorem eqT {ns : List Int} (h : ∀ i ∈ ns, sm i) : okEq (tn ns) = true := eq_okD (ok_tn h) dep_tn
theorem eqv_tn : ∀ {A B : List Int}, PyData.eqv (py (tn A)) (py (tn B)) = decide (A = B)
  | [], [] => rfl
  | [], _ :: _ => rfl
  | _ :: _, [] => rfl
  | a :: A, b :: B => by
    have ih := eqv_tn (A := A) (B := B)
    have e : PyData.eqv (py (tn (a :: A))) (py (tn (b :: B))) = (PyData.eqv (.int a) (.int b) && PyData.eqv (py (tn A)) (py (tn B))) := rfl
    rw [e, ih, eqv_int]
    by_cases h : a = b <;> by_cases k : A = B <;> simp [h, k]
theorem f_eq {ns ms : List Int} (h : Sz ns) (h2 : Sz ms) : F_Point_eq [.val (pt ns), .val (pt ms)] = some (.ok (.val (.bl (decide (ns = ms)))) none) := by
  refine Fp.eq (f_def rfl ?_)
  show X _ [_, _] _
  unfold B_Point_eq
  repeat' walk_at "x"
  refine r_eq (eqT h.al) (eqT h2.al) eqv_tn ?_
  repeat' walk_at "x"
  exact ⟨rfl, rfl⟩
theorem f_eq0 {ns : List Int} {d : D} (h : isiD cs_ tb_ [d, .cls "Point"] = some (.bl false)) : F_Point_eq [.val (pt ns), .val d] = some (.ok (.val (.bl false)) none) := by
  refine Fp.eq (f_def rfl ?_)
  show X _ [_, _] _
  unfold B_Point_eq
  repeat' walk_at "x"
  refine e_isiD h ?_
  repeat' walk_at "x"
  exact ⟨rfl, rfl⟩
theorem f_page {ns : List Int} (h : Sz ns) : F_l_page [.val (tn ns)] = some (.ok (.val (.str (page ns))) none) := by
  have hl := h.hi
  refine Fp.eq (f_def rfl ?_)
  show X _ [_, _] _
  unfold B_l_page
  repeat' walk_at "x"
  refine ⟨_, rfl, ?_⟩
  rw [List.length_map]
  repeat' walk_at "x"
  refine r_str (log_ok (Nat.lt_trans (sm_len h) (by decide))) ?_
  repeat' walk_at "x"
  refine ⟨by rw [List.length_map]; omega, ?_⟩
  refine x_lcL (fun l acc Γ => (∃ m k : List Int, m ++ k = ns ∧ l = k.map D.int ∧ acc = (m.map sI).map D.str) ∧ Γ = [.val (tn ns), .no]) ?_ ?_ ?_
  · exact ⟨⟨[], ns, rfl, rfl, rfl⟩, rfl⟩
  · rintro d l acc Γ ⟨⟨m, k, e, e2, rfl⟩, rfl⟩
    cases k with
    | nil => cases e2
    | cons i k =>
      rw [List.map_cons] at e2
      cases e2
      refine ⟨_, rfl, rfl, ?_⟩
      show X _ [_, _] _
      repeat' walk_at "x"
      refine r_str (log_ok (Nat.lt_trans (h.al i (by rw [← e]; simp)) (by decide))) ?_
      repeat' walk_at "x"
      exact ⟨⟨m ++ [i], k, by rw [List.append_assoc]; exact e, rfl, by rw [List.map_append, List.map_append]; rfl⟩, rfl⟩
  · rintro acc Γ ⟨⟨m, k, e, e2, rfl⟩, rfl⟩
    cases k with
    | cons i k => cases e2
    | nil =>
      rw [List.append_nil] at e
      subst e
      repeat' walk_at "x"
      refine r_addL (by simp; omega) ?_
      repeat' walk_at "x"
      have := sum_sI h.al
      have := len_sI (sm_len h)
      refine e_joinD (joinD_ws (ws := Str.ofString "grid" :: sI m.length :: m.map sI) ?_) ?_
      · have l1 : (Str.ofString "grid").length = 4 := by decide +kernel
        simp only [List.map_cons, List.sum_cons, List.length_cons, List.length_map]
        omega
      repeat' walk_at "x"
      exact ⟨rfl, rfl⟩
end Kq

set_option linter.all false
set_option maxRecDepth 100000
set_option maxHeartbeats 4000000
namespace Kq
open PySem PySem.Spec PyProof.Rows L2 DF TL NumText
variable [TbC]
/-! ### one step -/
local macro_rules | `(tactic| walk_at "set") => `(tactic| (refine' e_set ?qa ?_; (case qa => (simp only [wipeF, backF, List.set, List.getD_cons_succ, List.getD_cons_zero, Int.reduceToNat]; rfl))))
local macro_rules | `(tactic| walk_at "cnd") => `(tactic| first | assumption | decide | omega)
local macro_rules | `(tactic| walk_at "mul") => `(tactic| first | exact mulOk_r (by decide) (by decide) | exact mulOk_l (by decide) (by decide) | exact mulOk_l (by omega) (by omega) | exact mulOk_r (by omega) (by omega))
local macro_rules | `(tactic| walk_at "x") => `(tactic| first
  | with_reducible apply x_seq
  | with_reducible apply k_nx
  | with_reducible apply k_rt
  | with_reducible apply x_nx
  | with_reducible refine x_asgK (fa := fLstO _) ?_
  | with_reducible refine x_asgK (fa := fLcO _ _ _ _ _) ?_
  | with_reducible apply ak_own
  | with_reducible apply ak_val
  | with_reducible apply x_asg
  | with_reducible refine x_retK (fa := fLstO _) ?_
  | with_reducible apply rk_own
  | with_reducible apply x_ret
  | with_reducible apply x_ifS
  | with_reducible apply x_asgG
  | with_reducible apply x_drop
  | with_reducible apply x_par
  | with_reducible apply x_par3
  | with_reducible apply x_asg3
  | with_reducible apply x_for
  | with_reducible refine x_aug ⟨_, rfl, ?_⟩
  | with_reducible apply xv_c
  | (with_reducible refine xv_var rfl ?_)
  | (with_reducible refine x_varV rfl ?_)
  | (with_reducible refine x_varO rfl ?_)
  | with_reducible apply xv_op
  | with_reducible apply xv_un
  | with_reducible apply xv_cb
  | with_reducible apply xs_nil
  | with_reducible apply xs_cons
  | with_reducible apply xa_nil
  | with_reducible apply xa_cons
  | with_reducible apply xv_tup
  | with_reducible apply xv_lst
  | with_reducible apply x_lstO
  | with_reducible apply xv_if
  | with_reducible apply xv_andV
  | with_reducible apply xv_orV
  | with_reducible apply xv_notV
  | with_reducible apply xv_isN
  | with_reducible apply xv_notN
  | with_reducible apply xt_test
  | with_reducible apply xt_tru
  | with_reducible apply xt_not
  | with_reducible apply xt_and
  | with_reducible apply xt_or
  | with_reducible apply xt_yes
  | with_reducible apply xv_call
  | with_reducible apply xv_callN
  | with_reducible apply xv_cmeth
  | with_reducible apply xv_cmethN
  | with_reducible apply xv_fld
  | with_reducible apply xv_prop
  | with_reducible apply x_setF
  | with_reducible apply xv_make
  | with_reducible apply xv_makeN
  | (with_reducible refine xv_makeL rfl ?_)
  | with_reducible apply xg_name
  | with_reducible apply xg_nil
  | with_reducible apply xg_cons
  | (with_reducible refine xg_tup rfl ?_)
  | (with_reducible refine xg_unl rfl ?_)
  | (with_reducible refine xg_sub rfl ?_)
  | (with_reducible refine xv_ixO rfl ?_)
  | ((with_reducible refine' xv_pk ?qa ?_); (case qa => (simp only [List.map, seeO, odD]; rfl)))
  | ((with_reducible refine' xt_pk ?qa ?_); (case qa => (simp only [List.map, seeO, odD]; rfl)))
  | with_reducible apply xv_bm
  | with_reducible apply xv_bm0
  | with_reducible apply xv_sl
  | with_reducible apply xo_no
  | with_reducible apply xo_some
  | with_reducible apply xv_revS
  | with_reducible apply xv_revL
  | with_reducible apply xv_fmt
  | with_reducible apply xw_any
  | with_reducible apply xw_rng1
  | with_reducible apply xw_rng2
  | with_reducible apply xv_lc
  | with_reducible apply vk_val
  | with_reducible apply bk_none
  | with_reducible apply bk_tmp
  | (with_reducible refine bk_slot rfl ?_)
  | with_reducible apply rk_val
  | with_reducible apply fk_nx
  | with_reducible apply fk_rt
  | ((with_reducible refine' e_par ?qa ?_); (case qa => (simp only [List.set]; rfl)))
  | ((with_reducible refine' e_par3 ?qa ?_); (case qa => (simp only [List.set]; rfl)))
  | ((with_reducible refine' e_ixO ?qa ?qb ?_); (case qa => exact rfl); (case qb => exact rfl))
  | ((with_reducible refine' e_sub ?qa ?qb ?qc ?_); (case qa => exact rfl); (case qb => exact rfl); (case qc => (simp only [List.set, Int.reduceToNat]; rfl)))
  | ((with_reducible refine' e_setF ?qa ?qb ?qc ?_); (case qa => exact rfl); (case qb => (simp only [List.length_cons, List.length_nil]; decide)); (case qc => (simp only [List.set, Int.reduceToNat]; rfl)))
  | ((with_reducible refine' e_fields ?qa ?qb ?_); (case qa => exact rfl); (case qb => exact rfl))
  | ((with_reducible refine' e_has ?qa ?_); (case qa => exact rfl))
  | with_reducible apply r_addI
  | with_reducible apply r_sub
  | with_reducible apply r_lt
  | with_reducible apply r_gt
  | with_reducible apply r_le
  | with_reducible apply r_ge
  | with_reducible apply r_int
  | with_reducible apply r_intB
  | with_reducible apply r_abs
  | with_reducible refine r_dec2 (fun h => ?_) (fun h => ?_)
  | with_reducible refine r_decN2 (fun h => ?_) (fun h => ?_)
  | with_reducible refine r_decM2 (fun h => ?_) (fun h => ?_)
  | with_reducible apply r_bool
  | with_reducible apply r_truB
  | with_reducible apply r_len
  | with_reducible apply r_lenS
  | with_reducible apply r_orEqS
  | with_reducible apply r_orNeS
  | with_reducible apply r_orEqI
  | with_reducible apply r_orNeI
  | with_reducible apply xv_joined
  | with_reducible apply xj_cons
  | with_reducible apply xj_nil
  | with_reducible apply r_eqI
  | with_reducible apply r_neI
  | with_reducible apply r_eqS
  | with_reducible apply r_neS
  | ((with_reducible refine' e_addD ?qa ?_); (case qa => exact rfl))
  | ((with_reducible refine' e_subD ?qa ?_); (case qa => exact rfl))
  | ((with_reducible refine' r_mul ?qa ?_); (case qa => walk_at "mul"))
  | ((with_reducible refine' r_mod ?qa ?_); (case qa => walk_at "cnd"))
  | ((with_reducible refine' r_fdiv ?qa ?qb ?_); (case qa => walk_at "cnd"); (case qb => walk_at "cnd"))
  | ((with_reducible refine' r_divmod ?qa ?qb ?_); (case qa => walk_at "cnd"); (case qb => walk_at "cnd"))
  | ((with_reducible refine' e_ltD ?qa ?_); (case qa => exact rfl))
  | ((with_reducible refine' e_leD ?qa ?_); (case qa => exact rfl))
  | ((with_reducible refine' e_gtD ?qa ?_); (case qa => exact rfl))
  | ((with_reducible refine' e_geD ?qa ?_); (case qa => exact rfl))
  | ((with_reducible refine' e_negD ?qa ?_); (case qa => exact rfl))
  | ((with_reducible refine' e_ixD ?qa ?_); (case qa => exact rfl))
  | ((with_reducible refine' e_intD ?qa ?_); (case qa => exact rfl))
  | ((with_reducible refine' e_absD ?qa ?_); (case qa => exact rfl))
  | ((with_reducible refine' e_intOf ?qa ?_); (case qa => exact rfl))
  | ((with_reducible refine' e_tupOf ?qa ?_); (case qa => exact rfl))
  | ((with_reducible refine' e_lstOf ?qa ?_); (case qa => exact rfl))
  | ((with_reducible refine' e2_boolOf ?qa ?_ ?_); (case qa => exact rfl))
  | ((with_reducible refine' e_boolOf ?qa ?_); (case qa => exact rfl))
  | ((with_reducible refine' e_truD ?qa ?_); (case qa => exact rfl))
  | ((with_reducible refine' e_itemsOf ?qa ?_); (case qa => exact rfl))
  | ((with_reducible refine' e_slD ?qa ?_); (case qa => exact rfl))
  | ((with_reducible refine' e_isiD ?qa ?_); (case qa => exact rfl))
  | ((with_reducible refine' e_boolI ?qa ?_); (case qa => exact rfl))
  | ((with_reducible refine' e_rng ?qa ?_); (case qa => exact ⟨by omega, by omega⟩))
  | with_reducible apply e_some
  | with_reducible apply e_str
  | with_reducible apply e_rev
  | ((with_reducible refine' en_val ?qa ?_); (case qa => exact rfl))
  | ((with_reducible refine' en_own ?qa ?_); (case qa => exact rfl))
  | ((with_reducible refine' en_nx ?qa ?_); (case qa => exact rfl))
  | with_reducible apply x_call
  | with_reducible refine x_ofV (fa := fC _) ?_
  | with_reducible refine x_ofV (fa := fOp _ _ _) ?_
  | with_reducible refine x_ofV (fa := fUn _ _) ?_
  | with_reducible refine x_ofV (fa := fCB _ _) ?_
  | with_reducible refine x_ofV (fa := fTup _) ?_
  | with_reducible refine x_ofV (fa := fLst _) ?_
  | with_reducible refine x_ofV (fa := fBM _ _ _ _) ?_
  | with_reducible refine x_ofV (fa := fBM0 _ _ _) ?_
  | with_reducible refine x_ofV (fa := fLc _ _ _ _ _) ?_
  | with_reducible refine x_ofV (fa := fFld _ _ _) ?_
  | with_reducible refine x_ofV (fa := fProp _ _ _) ?_
  | with_reducible refine x_ofV (fa := fMake _ _ _) ?_
  | with_reducible refine x_ofV (fa := fMakeN _ _ _ _ _ _ _) ?_
  | with_reducible refine x_ofV (fa := fSl _ _ _) ?_
  | with_reducible refine x_ofV (fa := fJoined _) ?_
  | with_reducible refine x_ofV (fa := fAndV _ _) ?_
  | with_reducible refine x_ofV (fa := fOrV _ _) ?_
  | with_reducible refine x_ofV (fa := fNotV _) ?_
  | with_reducible refine x_ofV (fa := fIf _ _ _) ?_
  | with_reducible refine x_ofV (fa := fIxO _ _) ?_
  | with_reducible refine x_ofV (fa := fCMeth _ _ _) ?_
  | with_reducible refine x_ofV (fa := fCMethN _ _ _ _ _) ?_
  | with_reducible refine x_ofV (fa := fCallN _ _ _ _ _ _) ?_
  | with_reducible refine x_ofV (fa := fIsN _) ?_
  | with_reducible refine x_ofV (fa := fNotN _) ?_
  | with_reducible apply xl_nil
  | with_reducible refine xl_cons rfl ?_
  | (refine And.intro (show List.length _ ≤ 16777216 from by simp only [List.length_cons, List.length_nil]; decide) ?_)
  | (refine And.intro (show tyS _ = some _ from rfl) ?_)
  | (refine And.intro (show flat _ = true from rfl) ?_)
  | (refine And.intro (show List.length _ = _ from rfl) ?_)
  | (refine And.intro (show List.length _ < 16777216 from by simp only [List.length_cons, List.length_nil]; decide) ?_)
  | (refine And.intro (show List.map isOwn _ = List.map isOwn _ from rfl) ?_)
  | with_reducible apply tt_intro
  | with_reducible apply nt_intro
  | with_reducible apply nnf_intro
  | with_reducible apply nnt_intro
  | with_reducible apply nf_intro
  | with_reducible apply ff_intro
  | walk_at "set")
theorem e_spl {z : Str} (hz : z.length ≤ 10000) : splitD (.str z) [.str (Str.ofString " ")] = some (.lst ((Txt.split z " ").map .str)) := by
  show (if (Str.ofString " ").length ≠ 0 ∧ z.length + 2 ≤ 16777216 then some _ else none) = _
  rw [if_pos ⟨by decide +kernel, by omega⟩]
theorem tl_cutS (z : Str) (lo hi : Option Int) : tl (cutS z lo hi) = ((tl z).drop (HT.sIx (tl z).length 0 lo)).take (HT.sIx (tl z).length (tl z).length hi - HT.sIx (tl z).length 0 lo) := by
  rw [← len_tl]; rfl
theorem sl_str {z : Str} (hz : z.length ≤ 10000) (lo hi : Option Int) : slD (.str z) lo hi = some (.str (cutS z lo hi)) := by
  show (if z.length ≤ 16777216 then _ else none) = _
  rw [if_pos (by omega)]
theorem cut_one (z : Str) : tl (cutS z none (some 1)) = (tl z).take 1 := by
  rw [tl_cutS]
  show ((tl z).drop 0).take (HT.sIx (tl z).length (tl z).length (some 1) - 0) = _
  unfold HT.sIx
  simp
theorem cut_rest (z : Str) : tl (cutS z (some 1) none) = (tl z).drop 1 := by
  rw [tl_cutS]
  show ((tl z).drop (HT.sIx (tl z).length 0 (some 1))).take ((tl z).length - HT.sIx (tl z).length 0 (some 1)) = _
  have : HT.sIx (tl z).length 0 (some 1) = min 1 (tl z).length := by
    unfold HT.sIx
    simp
  rw [this]
  cases tl z with
  | nil => rfl
  | cons a l =>
    rw [show min 1 (a :: l).length = 1 from by rw [List.length_cons]; omega]
    rw [List.take_of_length_le (by simp)]
theorem tk1 {c : Str} : (cutS c none (some 1) = Str.ofString "-") ↔ ((tl c).take 1 == [45]) = true := by
  rw [beq_iff_eq, ← cut_one]
  constructor
  · intro h; rw [h]; decide +kernel
  · intro h; refine ext_tl ?_; rw [h]; decide +kernel
theorem notin_dig (c : Nat) : notInSD (chrD c) (.str (Str.ofString "0123456789")) = some (.bl (!dg c)) := by
  have h := in_dig c
  show some (D.bl (!_)) = _
  have h : some (D.bl _) = some (D.bl (dg c)) := h
  injection h with h
  injection h with h
  rw [h]
theorem all_dig {l : List Nat} : (l.filter fun c => !dg c) = [] ↔ ∀ c ∈ l, 48 ≤ c ∧ c ≤ 57 := by
  rw [List.filter_eq_nil_iff]
  constructor
  · intro h c hc
    have := h c hc
    unfold dg at this
    simpa using this
  · intro h c hc
    have := h c hc
    unfold dg
    simpa using this
theorem r_neNil {l : List Nat} {Φ : D → Prop} (h : ∀ c ∈ l, c < 1114112) (p : Φ (.bl !(decide (l = [])))) : ∃ z, neD (.lst (l.map chrD)) (.lst []) = some z ∧ Φ z := by
  have e : l.map chrD = (l.map fun c => (⟨#[c]⟩ : Str)).map D.str := by rw [List.map_map]; rfl
  rw [e]
  have ok : ∀ z ∈ l.map fun c => (⟨#[c]⟩ : Str), ∀ c ∈ tl z, c < 1114112 := fun z hz c hc => by
    obtain ⟨x, hx, ez⟩ := List.mem_map.mp hz
    subst ez
    have : c ∈ [x] := hc
    rw [List.mem_singleton.mp this]
    exact h x hx
  have e2 : decide (l = []) = decide ((l.map fun c => (⟨#[c]⟩ : Str)) = []) := by cases l <;> rfl
  rw [e2] at p
  exact r_ne (okEq_strs ok) rfl (eqv_strs (B := [])) p
def can (w : Str) : Prop := isNum (tl w) ∧ sI (numV (tl w)) = w
instance (w : Str) : Decidable (can w) := inferInstanceAs (Decidable (_ ∧ _))
theorem int_num {c : Str} (hn : isNum (tl c)) (hc : c.length ≤ 90) : intOf [.str c] = some (.int (numV (tl c))) := by
  show (if c.length ≤ 640 then (intText? c).map D.int else none) = _
  rw [if_pos (by omega), intText_num hn (by omega)]; rfl
theorem f_isint {c : Str} (hcl : c.length ≤ 90) (hcc : ∀ x ∈ tl c, x < 1114112) : F_l_is_integer [.val (.str c)] = some (.ok (.val (.bl (decide (can c)))) none) := by
  refine Fp.eq (f_def rfl ?_)
  show X _ [_, _, _] _
  unfold B_l_is_integer
  have no : ∀ {P : Prop}, ¬ P → (can c → P) → decide (can c) = false := fun n k => decide_eq_false fun h => n (k h)
  refine x_seq (x_asg ?_)
  refine X.imp (Φ := fun d Γ' => (∃ y : Str, d = .str y ∧ tl y = rm (tl c)) ∧ Γ' = [.val (.str c), .no, .no]) ?_ ?_
  · repeat' walk_at "x"
    refine e_slD (sl_str (by omega) _ _) ?_
    repeat' walk_at "x"
    · rename_i h
      refine e_slD (sl_str (by omega) _ _) ⟨⟨_, rfl, ?_⟩, rfl⟩
      rw [cut_rest]
      unfold rm
      rw [if_pos (tk1.mp h)]
    · rename_i h
      refine ⟨⟨_, rfl, ?_⟩, rfl⟩
      unfold rm
      rw [if_neg fun k => h (tk1.mpr k)]
  rintro _ _ ⟨⟨y, rfl, ey⟩, rfl⟩
  have hyl : y.length ≤ 90 := by
    rw [len_tl, ey]
    have : (rm (tl c)).length ≤ (tl c).length := by unfold rm; split <;> simp
    rw [← len_tl] at this
    omega
  have hyc : ∀ x ∈ tl y, x < 1114112 := fun x hx => hcc x (by
    rw [ey] at hx
    unfold rm at hx
    split at hx
    · exact List.mem_of_mem_drop hx
    · exact hx)
  repeat' walk_at "x"
  · rename_i h
    exact ⟨by rw [no (P := isNum (tl c)) (fun k => k.1 (by rw [← ey, h]; rfl)) fun h => h.1], rfl⟩
  rename_i hy0
  refine r_lenT (by omega) ?_
  repeat' walk_at "x"
  · rename_i h
    exfalso
    omega
  refine ⟨by rw [List.length_map, ← len_tl]; exact Nat.lt_of_le_of_lt hyl (by decide), ?_⟩
  refine x_lcL (fun ds acc Γ => (∃ l m : List Nat, ds = l.map chrD ∧ m ++ l = tl y ∧ acc = (m.filter fun c => !dg c).map chrD) ∧ Γ = [.val (.str c), .val (.str y), .no]) ?_ ?_ ?_
  · exact ⟨⟨_, [], rfl, rfl, rfl⟩, rfl⟩
  · rintro d ds acc Γ ⟨⟨l, m, e1, e2, e3⟩, rfl⟩
    cases l with
    | nil => cases e1
    | cons x l =>
      rw [List.map_cons] at e1
      cases e1
      refine ⟨_, rfl, rfl, ?_⟩
      show X _ [_, _, _] _
      repeat' walk_at "x"
      refine ⟨_, notin_dig x, ?_⟩
      cases hd : dg x with
      | true =>
        refine ⟨_, rfl, fun q => (by cases q), fun _ => ⟨rfl, ⟨l, m ++ [x], rfl, by rw [List.append_assoc]; exact e2, ?_⟩, rfl⟩⟩
        rw [e3, List.filter_append]
        simp [hd]
      | false =>
        refine ⟨_, rfl, fun _ => ?_, fun q => (by cases q)⟩
        repeat' walk_at "x"
        refine ⟨⟨l, m ++ [x], rfl, by rw [List.append_assoc]; exact e2, ?_⟩, rfl⟩
        rw [e3, List.filter_append]
        simp [hd]
  · rintro acc Γ ⟨⟨l, m, e1, e2, e3⟩, rfl⟩
    cases l with
    | cons c l => cases e1
    | nil =>
      rw [List.append_nil] at e2
      subst e2
      rw [e3]
      repeat' walk_at "x"
      refine r_neNil (fun c hc => hyc c (List.mem_filter.mp hc).1) ?_
      repeat' walk_at "x"
      rotate_left
      · rename_i h
        exact ⟨by rw [no (P := isNum (tl c)) (fun k => h (all_dig.mpr (by rw [ey]; exact k.2))) fun h => h.1], rfl⟩
      rename_i hd
      have hn : isNum (tl c) := ⟨fun k => hy0 (ext_tl (by rw [ey, k]; rfl)), by rw [← ey]; exact all_dig.mp hd⟩
      have hv := numV_bd hn (k := 90) (by rw [← len_tl]; exact hcl)
      refine e_intOf (int_num hn hcl) ?_
      repeat' walk_at "x"
      refine r_str (log_ok (Nat.lt_trans hv (by decide))) ?_
      repeat' walk_at "x"
      refine ⟨?_, rfl⟩
      congr 2
      rw [decide_eq_decide]
      exact ⟨fun h => ⟨hn, h⟩, fun h => h.2⟩
end Kq

set_option linter.all false
set_option maxRecDepth 100000
set_option maxHeartbeats 4000000
namespace Kq
open PySem PySem.Spec PyProof.Rows L2 DF TL NumText
variable [TbC]
/-! ### one step -/
local macro_rules | `(tactic| walk_at "set") => `(tactic| (refine' e_set ?qa ?_; (case qa => (simp only [wipeF, backF, List.set, List.getD_cons_succ, List.getD_cons_zero, Int.reduceToNat]; rfl))))
local macro_rules | `(tactic| walk_at "cnd") => `(tactic| first | assumption | decide | omega)
local macro_rules | `(tactic| walk_at "mul") => `(tactic| first | exact mulOk_r (by decide) (by decide) | exact mulOk_l (by decide) (by decide) | exact mulOk_l (by omega) (by omega) | exact mulOk_r (by omega) (by omega))
local macro_rules | `(tactic| walk_at "x") => `(tactic| first
  | with_reducible apply x_seq
  | with_reducible apply k_nx
  | with_reducible apply k_rt
  | with_reducible apply x_nx
  | with_reducible refine x_asgK (fa := fLstO _) ?_
  | with_reducible refine x_asgK (fa := fLcO _ _ _ _ _) ?_
  | with_reducible apply ak_own
  | with_reducible apply ak_val
  | with_reducible apply x_asg
  | with_reducible refine x_retK (fa := fLstO _) ?_
  | with_reducible apply rk_own
  | with_reducible apply x_ret
  | with_reducible apply x_ifS
  | with_reducible apply x_asgG
  | with_reducible apply x_drop
  | with_reducible apply x_par
  | with_reducible apply x_par3
  | with_reducible apply x_asg3
  | with_reducible apply x_for
  | with_reducible refine x_aug ⟨_, rfl, ?_⟩
  | with_reducible apply xv_c
  | (with_reducible refine xv_var rfl ?_)
  | (with_reducible refine x_varV rfl ?_)
  | (with_reducible refine x_varO rfl ?_)
  | with_reducible apply xv_op
  | with_reducible apply xv_un
  | with_reducible apply xv_cb
  | with_reducible apply xs_nil
  | with_reducible apply xs_cons
  | with_reducible apply xa_nil
  | with_reducible apply xa_cons
  | with_reducible apply xv_tup
  | with_reducible apply xv_lst
  | with_reducible apply x_lstO
  | with_reducible apply xv_if
  | with_reducible apply xv_andV
  | with_reducible apply xv_orV
  | with_reducible apply xv_notV
  | with_reducible apply xv_isN
  | with_reducible apply xv_notN
  | with_reducible apply xt_test
  | with_reducible apply xt_tru
  | with_reducible apply xt_not
  | with_reducible apply xt_and
  | with_reducible apply xt_or
  | with_reducible apply xt_yes
  | with_reducible apply xv_call
  | with_reducible apply xv_callN
  | with_reducible apply xv_cmeth
  | with_reducible apply xv_cmethN
  | with_reducible apply xv_fld
  | with_reducible apply xv_prop
  | with_reducible apply x_setF
  | with_reducible apply xv_make
  | with_reducible apply xv_makeN
  | (with_reducible refine xv_makeL rfl ?_)
  | with_reducible apply xg_name
  | with_reducible apply xg_nil
  | with_reducible apply xg_cons
  | (with_reducible refine xg_tup rfl ?_)
  | (with_reducible refine xg_unl rfl ?_)
  | (with_reducible refine xg_sub rfl ?_)
  | (with_reducible refine xv_ixO rfl ?_)
  | ((with_reducible refine' xv_pk ?qa ?_); (case qa => (simp only [List.map, seeO, odD]; rfl)))
  | ((with_reducible refine' xt_pk ?qa ?_); (case qa => (simp only [List.map, seeO, odD]; rfl)))
  | with_reducible apply xv_bm
  | with_reducible apply xv_bm0
  | with_reducible apply xv_sl
  | with_reducible apply xo_no
  | with_reducible apply xo_some
  | with_reducible apply xv_revS
  | with_reducible apply xv_revL
  | with_reducible apply xv_fmt
  | with_reducible apply xw_any
  | with_reducible apply xw_rng1
  | with_reducible apply xw_rng2
  | with_reducible apply xv_lc
  | with_reducible apply vk_val
  | with_reducible apply bk_none
  | with_reducible apply bk_tmp
  | (with_reducible refine bk_slot rfl ?_)
  | with_reducible apply rk_val
  | with_reducible apply fk_nx
  | with_reducible apply fk_rt
  | ((with_reducible refine' e_par ?qa ?_); (case qa => (simp only [List.set]; rfl)))
  | ((with_reducible refine' e_par3 ?qa ?_); (case qa => (simp only [List.set]; rfl)))
  | ((with_reducible refine' e_ixO ?qa ?qb ?_); (case qa => exact rfl); (case qb => exact rfl))
  | ((with_reducible refine' e_sub ?qa ?qb ?qc ?_); (case qa => exact rfl); (case qb => exact rfl); (case qc => (simp only [List.set, Int.reduceToNat]; rfl)))
  | ((with_reducible refine' e_setF ?qa ?qb ?qc ?_); (case qa => exact rfl); (case qb => (simp only [List.length_cons, List.length_nil]; decide)); (case qc => (simp only [List.set, Int.reduceToNat]; rfl)))
  | ((with_reducible refine' e_fields ?qa ?qb ?_); (case qa => exact rfl); (case qb => exact rfl))
  | ((with_reducible refine' e_has ?qa ?_); (case qa => exact rfl))
  | with_reducible apply r_addI
  | with_reducible apply r_sub
  | with_reducible apply r_lt
  | with_reducible apply r_gt
  | with_reducible apply r_le
  | with_reducible apply r_ge
  | with_reducible apply r_int
  | with_reducible apply r_intB
  | with_reducible apply r_abs
  | with_reducible refine r_dec2 (fun h => ?_) (fun h => ?_)
  | with_reducible refine r_decN2 (fun h => ?_) (fun h => ?_)
  | with_reducible refine r_decM2 (fun h => ?_) (fun h => ?_)
  | with_reducible apply r_bool
  | with_reducible apply r_truB
  | with_reducible apply r_len
  | with_reducible apply r_lenS
  | with_reducible apply r_orEqS
  | with_reducible apply r_orNeS
  | with_reducible apply r_orEqI
  | with_reducible apply r_orNeI
  | with_reducible apply xv_joined
  | with_reducible apply xj_cons
  | with_reducible apply xj_nil
  | with_reducible apply r_eqI
  | with_reducible apply r_neI
  | with_reducible apply r_eqS
  | with_reducible apply r_neS
  | ((with_reducible refine' e_addD ?qa ?_); (case qa => exact rfl))
  | ((with_reducible refine' e_subD ?qa ?_); (case qa => exact rfl))
  | ((with_reducible refine' r_mul ?qa ?_); (case qa => walk_at "mul"))
  | ((with_reducible refine' r_mod ?qa ?_); (case qa => walk_at "cnd"))
  | ((with_reducible refine' r_fdiv ?qa ?qb ?_); (case qa => walk_at "cnd"); (case qb => walk_at "cnd"))
  | ((with_reducible refine' r_divmod ?qa ?qb ?_); (case qa => walk_at "cnd"); (case qb => walk_at "cnd"))
  | ((with_reducible refine' e_ltD ?qa ?_); (case qa => exact rfl))
  | ((with_reducible refine' e_leD ?qa ?_); (case qa => exact rfl))
  | ((with_reducible refine' e_gtD ?qa ?_); (case qa => exact rfl))
  | ((with_reducible refine' e_geD ?qa ?_); (case qa => exact rfl))
  | ((with_reducible refine' e_negD ?qa ?_); (case qa => exact rfl))
  | ((with_reducible refine' e_ixD ?qa ?_); (case qa => exact rfl))
  | ((with_reducible refine' e_intD ?qa ?_); (case qa => exact rfl))
  | ((with_reducible refine' e_absD ?qa ?_); (case qa => exact rfl))
  | ((with_reducible refine' e_intOf ?qa ?_); (case qa => exact rfl))
  | ((with_reducible refine' e_tupOf ?qa ?_); (case qa => exact rfl))
  | ((with_reducible refine' e_lstOf ?qa ?_); (case qa => exact rfl))
  | ((with_reducible refine' e2_boolOf ?qa ?_ ?_); (case qa => exact rfl))
  | ((with_reducible refine' e_boolOf ?qa ?_); (case qa => exact rfl))
  | ((with_reducible refine' e_truD ?qa ?_); (case qa => exact rfl))
  | ((with_reducible refine' e_itemsOf ?qa ?_); (case qa => exact rfl))
  | ((with_reducible refine' e_slD ?qa ?_); (case qa => exact rfl))
  | ((with_reducible refine' e_isiD ?qa ?_); (case qa => exact rfl))
  | ((with_reducible refine' e_boolI ?qa ?_); (case qa => exact rfl))
  | ((with_reducible refine' e_rng ?qa ?_); (case qa => exact ⟨by omega, by omega⟩))
  | with_reducible apply e_some
  | with_reducible apply e_str
  | with_reducible apply e_rev
  | ((with_reducible refine' en_val ?qa ?_); (case qa => exact rfl))
  | ((with_reducible refine' en_own ?qa ?_); (case qa => exact rfl))
  | ((with_reducible refine' en_nx ?qa ?_); (case qa => exact rfl))
  | with_reducible apply x_call
  | with_reducible refine x_ofV (fa := fC _) ?_
  | with_reducible refine x_ofV (fa := fOp _ _ _) ?_
  | with_reducible refine x_ofV (fa := fUn _ _) ?_
  | with_reducible refine x_ofV (fa := fCB _ _) ?_
  | with_reducible refine x_ofV (fa := fTup _) ?_
  | with_reducible refine x_ofV (fa := fLst _) ?_
  | with_reducible refine x_ofV (fa := fBM _ _ _ _) ?_
  | with_reducible refine x_ofV (fa := fBM0 _ _ _) ?_
  | with_reducible refine x_ofV (fa := fLc _ _ _ _ _) ?_
  | with_reducible refine x_ofV (fa := fFld _ _ _) ?_
  | with_reducible refine x_ofV (fa := fProp _ _ _) ?_
  | with_reducible refine x_ofV (fa := fMake _ _ _) ?_
  | with_reducible refine x_ofV (fa := fMakeN _ _ _ _ _ _ _) ?_
  | with_reducible refine x_ofV (fa := fSl _ _ _) ?_
  | with_reducible refine x_ofV (fa := fJoined _) ?_
  | with_reducible refine x_ofV (fa := fAndV _ _) ?_
  | with_reducible refine x_ofV (fa := fOrV _ _) ?_
  | with_reducible refine x_ofV (fa := fNotV _) ?_
  | with_reducible refine x_ofV (fa := fIf _ _ _) ?_
  | with_reducible refine x_ofV (fa := fIxO _ _) ?_
  | with_reducible refine x_ofV (fa := fCMeth _ _ _) ?_
  | with_reducible refine x_ofV (fa := fCMethN _ _ _ _ _) ?_
  | with_reducible refine x_ofV (fa := fCallN _ _ _ _ _ _) ?_
  | with_reducible refine x_ofV (fa := fIsN _) ?_
  | with_reducible refine x_ofV (fa := fNotN _) ?_
  | with_reducible apply xl_nil
  | with_reducible refine xl_cons rfl ?_
  | (refine And.intro (show List.length _ ≤ 16777216 from by simp only [List.length_cons, List.length_nil]; decide) ?_)
  | (refine And.intro (show tyS _ = some _ from rfl) ?_)
  | (refine And.intro (show flat _ = true from rfl) ?_)
  | (refine And.intro (show List.length _ = _ from rfl) ?_)
  | (refine And.intro (show List.length _ < 16777216 from by simp only [List.length_cons, List.length_nil]; decide) ?_)
  | (refine And.intro (show List.map isOwn _ = List.map isOwn _ from rfl) ?_)
  | with_reducible apply tt_intro
  | with_reducible apply nt_intro
  | with_reducible apply nnf_intro
  | with_reducible apply nnt_intro
  | with_reducible apply nf_intro
  | with_reducible apply ff_intro
  | walk_at "set")
/-! ### what stands in a text -/
def Zr (z : Str) : Option (List Int) := match Txt.split z (Str.ofString " ") with
  | g :: n :: ws => if g = Str.ofString "grid" ∧ n = sI ws.length ∧ (1 ≤ ws.length ∧ ws.length ≤ 3) ∧ ∀ w ∈ ws, can w then some (ws.map fun w => numV (tl w)) else none
  | _ => none
theorem Zr2 {z g n : Str} {ws : List Str} (h : Txt.split z (Str.ofString " ") = g :: n :: ws) : Zr z = if g = Str.ofString "grid" ∧ n = sI ws.length ∧ (1 ≤ ws.length ∧ ws.length ≤ 3) ∧ ∀ w ∈ ws, can w then some (ws.map fun w => numV (tl w)) else none := by
  unfold Zr; rw [h]
theorem ZrN {z : Str} (h : (Txt.split z (Str.ofString " ")).length < 3) : Zr z = none := by
  unfold Zr
  split
  · rename_i g n ws e
    rw [e] at h
    simp only [List.length_cons] at h
    rw [if_neg (fun k => by have := k.2.2.1.1; omega)]
  · rfl
def told (z : Str) : D := match Zr z with
  | some p => tn p
  | none => .tup []
theorem told_no {z : Str} (h : Zr z = none) : told z = .tup [] := by unfold told; rw [h]
theorem told_yes {z : Str} {p : List Int} (h : Zr z = some p) : told z = tn p := by unfold told; rw [h]
theorem dig_n {n : Str} {l : Nat} (h : 1 ≤ l ∧ l ≤ 3) (e : n = sI l) : n = Str.ofString "1" ∨ n = Str.ofString "2" ∨ n = Str.ofString "3" := by
  have : l = 1 ∨ l = 2 ∨ l = 3 := by omega
  rcases this with h | h | h <;> subst h
  · exact .inl (e.trans (by decide +kernel))
  · exact .inr (.inl (e.trans (by decide +kernel)))
  · exact .inr (.inr (e.trans (by decide +kernel)))
theorem n_dig {n : Str} (h : n = Str.ofString "1" ∨ n = Str.ofString "2" ∨ n = Str.ofString "3") : ∃ k : Nat, (1 ≤ k ∧ k ≤ 3) ∧ n = sI k ∧ intOf [.str n] = some (.int k) := by
  rcases h with h | h | h <;> subst h
  · exact ⟨1, by decide, by decide +kernel, by kernel_rfl⟩
  · exact ⟨2, by decide, by decide +kernel, by kernel_rfl⟩
  · exact ⟨3, by decide, by decide +kernel, by kernel_rfl⟩
theorem sI_inj {a b : Nat} (ha : 1 ≤ a ∧ a ≤ 3) (hb : 1 ≤ b ∧ b ≤ 3) (e : sI a = sI b) : a = b := by
  have h1 : a = 1 ∨ a = 2 ∨ a = 3 := by omega
  have h2 : b = 1 ∨ b = 2 ∨ b = 3 := by omega
  rcases h1 with h | h | h <;> subst h <;> rcases h2 with h | h | h <;> subst h <;> first | rfl | (exact absurd e (by decide +kernel))
theorem in_123 {b : Str} : inFD true (.str b) (.lst [.str (Str.ofString "1"), .str (Str.ofString "2"), .str (Str.ofString "3")]) = some (.bl !(decide (b = Str.ofString "1" ∨ b = Str.ofString "2" ∨ b = Str.ofString "3"))) := by
  show some (D.bl !(((Str.ofString "1") == b) || (((Str.ofString "2") == b) || (((Str.ofString "3") == b) || false)))) = _
  congr 3
  rw [Bool.eq_iff_iff]
  simp only [Bool.or_false, Bool.or_eq_true, beq_iff_eq, decide_eq_true_eq]
  exact ⟨fun h => h.imp Eq.symm fun h => h.imp Eq.symm Eq.symm, fun h => h.imp Eq.symm fun h => h.imp Eq.symm Eq.symm⟩
theorem cutD2 {a b : D} {r : List D} : DF.cutD (a :: b :: r) (some 2) none = r := by
  unfold DF.cutD
  have e : HT.sIx (a :: b :: r).length 0 (some 2) = 2 := by
    unfold HT.sIx
    simp
  rw [e]
  show (r.take _) = r
  refine List.take_of_length_le ?_
  show r.length ≤ (r.length + 1 + 1) - 2
  omega
structure OKZ (z : Str) : Prop where
  len : z.length ≤ 600
  chr : ∀ c ∈ tl z, c < 1114112
  low : ∀ w ∈ Txt.split z (Str.ofString " "), w.length ≤ 64 ∧ ∀ c ∈ tl w, c < 1114112
  cnt : (Txt.split z (Str.ofString " ")).length ≤ 700
theorem r_neNilS {l : List Str} {Φ : D → Prop} (h : ∀ z ∈ l, ∀ c ∈ tl z, c < 1114112) (p : Φ (.bl !(decide (l = [])))) : ∃ z, neD (.lst (l.map D.str)) (.lst []) = some z ∧ Φ z :=
  r_ne (okEq_strs h) rfl (eqv_strs (B := [])) p
theorem ix0 {a : D} {r : List D} : ixD (.lst (a :: r)) (.int 0) = some a := by
  show atI (a :: r) ((0 : Nat) : Int) = some a
  rw [DF.atI_nat]
  rfl
theorem ix1 {a b : D} {r : List D} : ixD (.lst (a :: b :: r)) (.int 1) = some b := by
  show atI (a :: b :: r) ((1 : Nat) : Int) = some b
  rw [DF.atI_nat]
  rfl
theorem f_lread {z : Str} (hz : OKZ z) : F_l_read [.val (.str z)] = some (.ok (.val (told z)) none) := by
  have hlz := hz.len
  refine Fp.eq (f_def rfl ?_)
  show X _ [_, _, _] _
  unfold B_l_read
  by_cases h3 : (Txt.split z (Str.ofString " ")).length < 3
  · repeat' walk_at "x"
    refine e_splitD (e_spl (by omega)) ?_
    repeat' walk_at "x"
    · exact ⟨by rw [told_no (ZrN h3)], rfl⟩
    · rename_i h
      exfalso
      rw [List.length_map] at h
      omega
  · obtain ⟨g, n, ws, es⟩ : ∃ g n ws, Txt.split z (Str.ofString " ") = g :: n :: ws := by
      match hh : Txt.split z (Str.ofString " ") with
      | [] => rw [hh] at h3; simp at h3
      | [a] => rw [hh] at h3; simp at h3
      | a :: b :: r => exact ⟨a, b, r, rfl⟩
    have hl2 := hz.low
    have hcn := hz.cnt
    rw [es] at h3 hl2 hcn
    have no : ∀ {P : Prop}, ¬ P → (g = Str.ofString "grid" ∧ n = sI ws.length ∧ (1 ≤ ws.length ∧ ws.length ≤ 3) ∧ (∀ w ∈ ws, can w) → P) → told z = .tup [] := fun h k => told_no (by rw [Zr2 es, if_neg fun q => h (k q)])
    repeat' walk_at "x"
    refine e_splitD (e_spl (by omega)) ?_
    rw [es]
    repeat' walk_at "x"
    · rename_i h
      exfalso
      rw [List.length_map] at h
      omega
    refine e_ixD ix0 ?_
    repeat' walk_at "x"
    rotate_left
    · rename_i hg
      exact ⟨by rw [no (fun h => hg h) fun h => h.1], rfl⟩
    rename_i hg
    refine e_ixD ix1 ?_
    repeat' walk_at "x"
    refine ⟨_, in_123, ?_⟩
    refine ⟨_, rfl, fun q => ?_, fun q => ?_⟩
    · have hb : ¬ (n = Str.ofString "1" ∨ n = Str.ofString "2" ∨ n = Str.ofString "3") := by simpa using q
      refine ⟨fun _ => ?_, fun q => (by cases q)⟩
      repeat' walk_at "x"
      exact ⟨by rw [no hb fun h => dig_n h.2.2.1 h.2.1], rfl⟩
    have hb : n = Str.ofString "1" ∨ n = Str.ofString "2" ∨ n = Str.ofString "3" := by
      simp only [Bool.not_eq_false', decide_eq_true_eq] at q
      exact q
    obtain ⟨k, hk, en, ei⟩ := n_dig hb
    repeat' walk_at "x"
    refine e_ixD ix1 ?_
    repeat' walk_at "x"
    refine e_intOf ei ?_
    repeat' walk_at "x"
    rotate_left
    · rename_i h
      rw [List.length_map, List.length_cons, List.length_cons] at h
      exact ⟨by rw [no (P := ws.length = k) (fun e => h (by omega)) fun q => sI_inj q.2.2.1 hk (q.2.1.symm.trans en)], rfl⟩
    rename_i hk2
    rw [List.length_map, List.length_cons, List.length_cons] at hk2
    have hwk : ws.length = k := by omega
    have hw : ∀ w ∈ ws, w.length ≤ 64 ∧ ∀ c ∈ tl w, c < 1114112 := fun w hw => hl2 w (List.mem_cons_of_mem _ (List.mem_cons_of_mem _ hw))
    have ecut : DF.cutD (List.map D.str (g :: n :: ws)) (some 2) none = ws.map D.str := cutD2
    rw [ecut]
    refine ⟨by rw [List.length_map]; omega, ?_⟩
    refine x_lcL (fun l acc Γ => (∃ m k : List Str, m ++ k = ws ∧ l = k.map D.str ∧ acc = (m.filter fun w => !decide (can w)).map D.str) ∧ Γ = [.val (.str z), .val (.lst (List.map D.str (g :: n :: ws))), .no]) ?_ ?_ ?_
    · exact ⟨⟨[], ws, rfl, rfl, rfl⟩, rfl⟩
    · rintro d l acc Γ ⟨⟨m, k, e, e2, rfl⟩, rfl⟩
      cases k with
      | nil => cases e2
      | cons w k =>
        rw [List.map_cons] at e2
        cases e2
        have hww := hw w (by rw [← e]; simp)
        refine ⟨_, rfl, rfl, ?_⟩
        show X _ [_, _, _] _
        repeat' walk_at "x"
        refine x_callF rfl (fp_of (f_isint (by omega) hww.2) ?_)
        by_cases hc : can w
        · rw [decide_eq_true hc]
          repeat' walk_at "x"
          refine ⟨⟨m ++ [w], k, by rw [List.append_assoc]; exact e, rfl, ?_⟩, rfl⟩
          rw [List.filter_append]
          simp [hc]
        · rw [decide_eq_false hc]
          repeat' walk_at "x"
          refine ⟨⟨m ++ [w], k, by rw [List.append_assoc]; exact e, rfl, ?_⟩, rfl⟩
          rw [List.filter_append]
          simp [hc]
    · rintro acc Γ ⟨⟨m, k2, e, e2, rfl⟩, rfl⟩
      cases k2 with
      | cons w k => cases e2
      | nil =>
        rw [List.append_nil] at e
        subst e
        repeat' walk_at "x"
        refine r_neNilS (fun w hw' => (hw w (List.mem_filter.mp hw').1).2) ?_
        repeat' walk_at "x"
        rotate_left
        · rename_i h
          exact ⟨by rw [no (P := ∀ w ∈ m, can w) (fun q => h (List.filter_eq_nil_iff.mpr fun w hw' => by simp [q w hw'])) fun q => q.2.2.2], rfl⟩
        rename_i hf
        have hcan : ∀ w ∈ m, can w := fun w hw' => by
          rw [List.filter_eq_nil_iff] at hf
          have := hf w hw'
          simpa using this
        rw [ecut]
        refine ⟨by rw [List.length_map]; omega, ?_⟩
        refine x_lcL (fun l acc Γ => (∃ m' k : List Str, m' ++ k = m ∧ l = k.map D.str ∧ acc = (m'.map fun w => numV (tl w)).map D.int) ∧ Γ = [.val (.str z), .val (.lst (List.map D.str (g :: n :: m))), .no]) ?_ ?_ ?_
        · exact ⟨⟨[], m, rfl, rfl, rfl⟩, rfl⟩
        · rintro d l acc Γ ⟨⟨m', k, e, e2, rfl⟩, rfl⟩
          cases k with
          | nil => cases e2
          | cons w k =>
            rw [List.map_cons] at e2
            cases e2
            have hm : w ∈ m := by rw [← e]; simp
            refine ⟨_, rfl, rfl, ?_⟩
            show X _ [_, _, _] _
            repeat' walk_at "x"
            refine e_intOf (int_num (hcan w hm).1 (by have := (hw w hm).1; omega)) ?_
            exact ⟨rfl, ⟨m' ++ [w], k, by rw [List.append_assoc]; exact e, rfl, by rw [List.map_append, List.map_append]; rfl⟩, rfl⟩
        · rintro acc Γ ⟨⟨m', k, e, e2, rfl⟩, rfl⟩
          cases k with
          | cons w k => cases e2
          | nil =>
            rw [List.append_nil] at e
            subst e
            repeat' walk_at "x"
            refine ⟨?_, rfl⟩
            rw [told_yes (by rw [Zr2 es, if_pos ⟨hg, by rw [en, hwk], by omega, hcan⟩])]
end Kq

set_option linter.all false
set_option maxRecDepth 100000
set_option maxHeartbeats 4000000
namespace Kq
open PySem PySem.Spec PyProof.Rows L2 DF TL NumText
variable [TbC]
/-! ### the program's read -/
def nin (w : Str) : D := if isNum (tl w) then .int (numV (tl w)) else .non
theorem nin_or (w : Str) : isI (nin w) = true ∨ nin w = .non := by
  unfold nin
  split
  · exact .inl rfl
  · exact .inr rfl
theorem f_ninD {w : Str} (h : w.length ≤ 64) : F_number_in [.val (.str w)] = some (.ok (.val (nin w)) none) := f_number_in (by omega)
theorem all_nin : ∀ {ws : List Str}, (ws.map nin).all isI = true → (∀ w ∈ ws, isNum (tl w)) ∧ ws.map nin = (ws.map fun w => numV (tl w)).map D.int
  | [], _ => ⟨fun w h => (List.not_mem_nil h).elim, rfl⟩
  | w :: ws, h => by
    rw [List.map_cons, List.all_cons, Bool.and_eq_true] at h
    obtain ⟨h1, h2⟩ := all_nin h.2
    have hw : isNum (tl w) := Classical.byContradiction fun hh => by
      have := h.1
      unfold nin at this
      rw [if_neg hh] at this
      cases this
    refine ⟨fun v hv => ?_, ?_⟩
    · rcases List.mem_cons.mp hv with e | e
      · rw [e]; exact hw
      · exact h1 v e
    · rw [List.map_cons, List.map_cons, List.map_cons, h2]
      unfold nin
      rw [if_pos hw]
theorem cutDw (ws : List Str) : DF.cutD (ws.map D.str) (some 2) none = (ws.drop 2).map D.str := by
  match ws with
  | [] => rfl
  | [a] =>
    unfold DF.cutD
    have : HT.sIx 1 0 (some 2) = 1 := by unfold HT.sIx; simp
    show ([D.str a].drop (HT.sIx 1 0 (some 2))).take (1 - HT.sIx 1 0 (some 2)) = _
    rw [this]
    rfl
  | a :: b :: r => exact cutD2
theorem split_page {ns : List Int} : Txt.split (page ns) (Str.ofString " ") = Str.ofString "grid" :: sI ns.length :: ns.map sI := by
  unfold page
  refine split_join (s := 32) (S := []) sep_tl (by decide +kernel) (by simp) fun p hp => ?_
  rcases List.mem_cons.mp hp with e | hp
  · rw [e]; decide +kernel
  rcases List.mem_cons.mp hp with e | hp
  · rw [e, tl_sI]; exact tlI_free (by decide)
  · obtain ⟨i, _, e⟩ := List.mem_map.mp hp
    rw [← e, tl_sI]; exact tlI_free (by decide)
theorem isNum_sI {i : Int} : isNum (tl (sI i)) := by
  have e := (tl_rm (sI i)).symm.trans (rmPre_int (tl_sI i))
  unfold isNum
  rw [e]
  exact ⟨numL_ne _, numL_digits _⟩
theorem numV_sI {i : Int} (h : sm i) : numV (tl (sI i)) = i := by
  have hl := len_sI h
  have e1 := intText_num (z := sI i) isNum_sI (by omega)
  rw [intText_int (tl_sI i) (by omega)] at e1
  injection e1 with e1
  exact e1.symm
theorem can_sI {i : Int} (h : sm i) : can (sI i) := ⟨isNum_sI, by rw [numV_sI h]⟩
theorem Zr_page {ns : List Int} (h : Sz ns) : Zr (page ns) = some ns := by
  rw [Zr2 split_page, if_pos ⟨rfl, by rw [List.length_map], by rw [List.length_map]; exact ⟨h.lo, h.hi⟩, fun w hw => by
    obtain ⟨i, hi, e⟩ := List.mem_map.mp hw
    rw [← e]; exact can_sI (h.al i hi)⟩, List.map_map]
  congr 1
  have : ∀ l : List Int, (∀ i ∈ l, sm i) → l.map ((fun w => numV (tl w)) ∘ sI) = l := fun l hl => by
    induction l with
    | nil => rfl
    | cons i l ih => rw [List.map_cons, ih fun j hj => hl j (List.mem_cons_of_mem _ hj)]; show numV (tl (sI i)) :: l = _; rw [numV_sI (hl i List.mem_cons_self)]
  exact this ns h.al
/-- a text that reads is its numbers' page -/
theorem page_of {z : Str} {ns : List Int} (e : Zr z = some ns) : page ns = z ∧ ∃ g n ws, Txt.split z (Str.ofString " ") = g :: n :: ws ∧ ns = ws.map (fun w => numV (tl w)) ∧ (1 ≤ ws.length ∧ ws.length ≤ 3) ∧ ∀ w ∈ ws, can w := by
  unfold Zr at e
  split at e
  · rename_i g n ws es
    split at e
    · rename_i hh
      obtain ⟨h1, h2, h3, h4⟩ := id hh
      cases e
      refine ⟨?_, g, n, ws, es, rfl, h3, h4⟩
      have e2 : (ws.map fun w => numV (tl w)).map sI = ws := by
        rw [List.map_map]
        have : ∀ l : List Str, (∀ w ∈ l, can w) → l.map (sI ∘ fun w => numV (tl w)) = l := fun l hl => by
          induction l with
          | nil => rfl
          | cons i l ih => rw [List.map_cons, ih fun j hj => hl j (List.mem_cons_of_mem _ hj)]; show sI (numV (tl i)) :: l = _; rw [(hl i List.mem_cons_self).2]
        exact this ws h4
      unfold page
      rw [e2, List.length_map, ← h2, ← h1, ← es]
      exact back z
    · cases e
  · cases e
end Kq

set_option linter.all false
set_option maxRecDepth 100000
set_option maxHeartbeats 4000000
namespace Kq
open PySem PySem.Spec PyProof.Rows L2 DF TL NumText
variable [TbC]
/-! ### one step -/
local macro_rules | `(tactic| walk_at "set") => `(tactic| (refine' e_set ?qa ?_; (case qa => (simp only [wipeF, backF, List.set, List.getD_cons_succ, List.getD_cons_zero, Int.reduceToNat]; rfl))))
local macro_rules | `(tactic| walk_at "cnd") => `(tactic| first | assumption | decide | omega)
local macro_rules | `(tactic| walk_at "mul") => `(tactic| first | exact mulOk_r (by decide) (by decide) | exact mulOk_l (by decide) (by decide) | exact mulOk_l (by omega) (by omega) | exact mulOk_r (by omega) (by omega))
local macro_rules | `(tactic| walk_at "x") => `(tactic| first
  | with_reducible apply x_seq
  | with_reducible apply k_nx
  | with_reducible apply k_rt
  | with_reducible apply x_nx
  | with_reducible refine x_asgK (fa := fLstO _) ?_
  | with_reducible refine x_asgK (fa := fLcO _ _ _ _ _) ?_
  | with_reducible apply ak_own
  | with_reducible apply ak_val
  | with_reducible apply x_asg
  | with_reducible refine x_retK (fa := fLstO _) ?_
  | with_reducible apply rk_own
  | with_reducible apply x_ret
  | with_reducible apply x_ifS
  | with_reducible apply x_asgG
  | with_reducible apply x_drop
  | with_reducible apply x_par
  | with_reducible apply x_par3
  | with_reducible apply x_asg3
  | with_reducible apply x_for
  | with_reducible refine x_aug ⟨_, rfl, ?_⟩
  | with_reducible apply xv_c
  | (with_reducible refine xv_var rfl ?_)
  | (with_reducible refine x_varV rfl ?_)
  | (with_reducible refine x_varO rfl ?_)
  | with_reducible apply xv_op
  | with_reducible apply xv_un
  | with_reducible apply xv_cb
  | with_reducible apply xs_nil
  | with_reducible apply xs_cons
  | with_reducible apply xa_nil
  | with_reducible apply xa_cons
  | with_reducible apply xv_tup
  | with_reducible apply xv_lst
  | with_reducible apply x_lstO
  | with_reducible apply xv_if
  | with_reducible apply xv_andV
  | with_reducible apply xv_orV
  | with_reducible apply xv_notV
  | with_reducible apply xv_isN
  | with_reducible apply xv_notN
  | with_reducible apply xt_test
  | with_reducible apply xt_tru
  | with_reducible apply xt_not
  | with_reducible apply xt_and
  | with_reducible apply xt_or
  | with_reducible apply xt_yes
  | with_reducible apply xv_call
  | with_reducible apply xv_callN
  | with_reducible apply xv_cmeth
  | with_reducible apply xv_cmethN
  | with_reducible apply xv_fld
  | with_reducible apply xv_prop
  | with_reducible apply x_setF
  | with_reducible apply xv_make
  | with_reducible apply xv_makeN
  | (with_reducible refine xv_makeL rfl ?_)
  | with_reducible apply xg_name
  | with_reducible apply xg_nil
  | with_reducible apply xg_cons
  | (with_reducible refine xg_tup rfl ?_)
  | (with_reducible refine xg_unl rfl ?_)
  | (with_reducible refine xg_sub rfl ?_)
  | (with_reducible refine xv_ixO rfl ?_)
  | ((with_reducible refine' xv_pk ?qa ?_); (case qa => (simp only [List.map, seeO, odD]; rfl)))
  | ((with_reducible refine' xt_pk ?qa ?_); (case qa => (simp only [List.map, seeO, odD]; rfl)))
  | with_reducible apply xv_bm
  | with_reducible apply xv_bm0
  | with_reducible apply xv_sl
  | with_reducible apply xo_no
  | with_reducible apply xo_some
  | with_reducible apply xv_revS
  | with_reducible apply xv_revL
  | with_reducible apply xv_fmt
  | with_reducible apply xw_any
  | with_reducible apply xw_rng1
  | with_reducible apply xw_rng2
  | with_reducible apply xv_lc
  | with_reducible apply vk_val
  | with_reducible apply bk_none
  | with_reducible apply bk_tmp
  | (with_reducible refine bk_slot rfl ?_)
  | with_reducible apply rk_val
  | with_reducible apply fk_nx
  | with_reducible apply fk_rt
  | ((with_reducible refine' e_par ?qa ?_); (case qa => (simp only [List.set]; rfl)))
  | ((with_reducible refine' e_par3 ?qa ?_); (case qa => (simp only [List.set]; rfl)))
  | ((with_reducible refine' e_ixO ?qa ?qb ?_); (case qa => exact rfl); (case qb => exact rfl))
  | ((with_reducible refine' e_sub ?qa ?qb ?qc ?_); (case qa => exact rfl); (case qb => exact rfl); (case qc => (simp only [List.set, Int.reduceToNat]; rfl)))
  | ((with_reducible refine' e_setF ?qa ?qb ?qc ?_); (case qa => exact rfl); (case qb => (simp only [List.length_cons, List.length_nil]; decide)); (case qc => (simp only [List.set, Int.reduceToNat]; rfl)))
  | ((with_reducible refine' e_fields ?qa ?qb ?_); (case qa => exact rfl); (case qb => exact rfl))
  | ((with_reducible refine' e_has ?qa ?_); (case qa => exact rfl))
  | with_reducible apply r_addI
  | with_reducible apply r_sub
  | with_reducible apply r_lt
  | with_reducible apply r_gt
  | with_reducible apply r_le
  | with_reducible apply r_ge
  | with_reducible apply r_int
  | with_reducible apply r_intB
  | with_reducible apply r_abs
  | with_reducible refine r_dec2 (fun h => ?_) (fun h => ?_)
  | with_reducible refine r_decN2 (fun h => ?_) (fun h => ?_)
  | with_reducible refine r_decM2 (fun h => ?_) (fun h => ?_)
  | with_reducible apply r_bool
  | with_reducible apply r_truB
  | with_reducible apply r_len
  | with_reducible apply r_lenS
  | with_reducible apply r_orEqS
  | with_reducible apply r_orNeS
  | with_reducible apply r_orEqI
  | with_reducible apply r_orNeI
  | with_reducible apply xv_joined
  | with_reducible apply xj_cons
  | with_reducible apply xj_nil
  | with_reducible apply r_eqI
  | with_reducible apply r_neI
  | with_reducible apply r_eqS
  | with_reducible apply r_neS
  | ((with_reducible refine' e_addD ?qa ?_); (case qa => exact rfl))
  | ((with_reducible refine' e_subD ?qa ?_); (case qa => exact rfl))
  | ((with_reducible refine' r_mul ?qa ?_); (case qa => walk_at "mul"))
  | ((with_reducible refine' r_mod ?qa ?_); (case qa => walk_at "cnd"))
  | ((with_reducible refine' r_fdiv ?qa ?qb ?_); (case qa => walk_at "cnd"); (case qb => walk_at "cnd"))
  | ((with_reducible refine' r_divmod ?qa ?qb ?_); (case qa => walk_at "cnd"); (case qb => walk_at "cnd"))
  | ((with_reducible refine' e_ltD ?qa ?_); (case qa => exact rfl))
  | ((with_reducible refine' e_leD ?qa ?_); (case qa => exact rfl))
  | ((with_reducible refine' e_gtD ?qa ?_); (case qa => exact rfl))
  | ((with_reducible refine' e_geD ?qa ?_); (case qa => exact rfl))
  | ((with_reducible refine' e_negD ?qa ?_); (case qa => exact rfl))
  | ((with_reducible refine' e_ixD ?qa ?_); (case qa => exact rfl))
  | ((with_reducible refine' e_intD ?qa ?_); (case qa => exact rfl))
  | ((with_reducible refine' e_absD ?qa ?_); (case qa => exact rfl))
  | ((with_reducible refine' e_intOf ?qa ?_); (case qa => exact rfl))
  | ((with_reducible refine' e_tupOf ?qa ?_); (case qa => exact rfl))
  | ((with_reducible refine' e_lstOf ?qa ?_); (case qa => exact rfl))
  | ((with_reducible refine' e2_boolOf ?qa ?_ ?_); (case qa => exact rfl))
  | ((with_reducible refine' e_boolOf ?qa ?_); (case qa => exact rfl))
  | ((with_reducible refine' e_truD ?qa ?_); (case qa => exact rfl))
  | ((with_reducible refine' e_itemsOf ?qa ?_); (case qa => exact rfl))
  | ((with_reducible refine' e_slD ?qa ?_); (case qa => exact rfl))
  | ((with_reducible refine' e_isiD ?qa ?_); (case qa => exact rfl))
  | ((with_reducible refine' e_boolI ?qa ?_); (case qa => exact rfl))
  | ((with_reducible refine' e_rng ?qa ?_); (case qa => exact ⟨by omega, by omega⟩))
  | with_reducible apply e_some
  | with_reducible apply e_str
  | with_reducible apply e_rev
  | ((with_reducible refine' en_val ?qa ?_); (case qa => exact rfl))
  | ((with_reducible refine' en_own ?qa ?_); (case qa => exact rfl))
  | ((with_reducible refine' en_nx ?qa ?_); (case qa => exact rfl))
  | with_reducible apply x_call
  | with_reducible refine x_ofV (fa := fC _) ?_
  | with_reducible refine x_ofV (fa := fOp _ _ _) ?_
  | with_reducible refine x_ofV (fa := fUn _ _) ?_
  | with_reducible refine x_ofV (fa := fCB _ _) ?_
  | with_reducible refine x_ofV (fa := fTup _) ?_
  | with_reducible refine x_ofV (fa := fLst _) ?_
  | with_reducible refine x_ofV (fa := fBM _ _ _ _) ?_
  | with_reducible refine x_ofV (fa := fBM0 _ _ _) ?_
  | with_reducible refine x_ofV (fa := fLc _ _ _ _ _) ?_
  | with_reducible refine x_ofV (fa := fFld _ _ _) ?_
  | with_reducible refine x_ofV (fa := fProp _ _ _) ?_
  | with_reducible refine x_ofV (fa := fMake _ _ _) ?_
  | with_reducible refine x_ofV (fa := fMakeN _ _ _ _ _ _ _) ?_
  | with_reducible refine x_ofV (fa := fSl _ _ _) ?_
  | with_reducible refine x_ofV (fa := fJoined _) ?_
  | with_reducible refine x_ofV (fa := fAndV _ _) ?_
  | with_reducible refine x_ofV (fa := fOrV _ _) ?_
  | with_reducible refine x_ofV (fa := fNotV _) ?_
  | with_reducible refine x_ofV (fa := fIf _ _ _) ?_
  | with_reducible refine x_ofV (fa := fIxO _ _) ?_
  | with_reducible refine x_ofV (fa := fCMeth _ _ _) ?_
  | with_reducible refine x_ofV (fa := fCMethN _ _ _ _ _) ?_
  | with_reducible refine x_ofV (fa := fCallN _ _ _ _ _ _) ?_
  | with_reducible refine x_ofV (fa := fIsN _) ?_
  | with_reducible refine x_ofV (fa := fNotN _) ?_
  | with_reducible apply xl_nil
  | with_reducible refine xl_cons rfl ?_
  | (refine And.intro (show List.length _ ≤ 16777216 from by simp only [List.length_cons, List.length_nil]; decide) ?_)
  | (refine And.intro (show tyS _ = some _ from rfl) ?_)
  | (refine And.intro (show flat _ = true from rfl) ?_)
  | (refine And.intro (show List.length _ = _ from rfl) ?_)
  | (refine And.intro (show List.length _ < 16777216 from by simp only [List.length_cons, List.length_nil]; decide) ?_)
  | (refine And.intro (show List.map isOwn _ = List.map isOwn _ from rfl) ?_)
  | with_reducible apply tt_intro
  | with_reducible apply nt_intro
  | with_reducible apply nnf_intro
  | with_reducible apply nnt_intro
  | with_reducible apply nf_intro
  | with_reducible apply ff_intro
  | walk_at "set")
theorem f_initE {ns : List Int} (h : Sz ns) : FE_Point_init [.own 1 (.ins "Point" []), .val (tn ns)] = some (.ok (.val .non) (some (.ins "Point" [("_numbers", tn ns)]))) := fE (f_init h)
theorem sz_of {ws : List Str} (h1 : 1 ≤ ws.length ∧ ws.length ≤ 3) (h2 : ∀ w ∈ ws, isNum (tl w)) (h3 : ∀ w ∈ ws, w.length ≤ 64) : Sz (ws.map fun w => numV (tl w)) := ⟨by rw [List.length_map]; exact h1.1, by rw [List.length_map]; exact h1.2, fun i hi => by
  obtain ⟨w, hw, e⟩ := List.mem_map.mp hi
  rw [← e]
  exact numV_bd (h2 w hw) (by rw [← len_tl]; exact h3 w hw)⟩
theorem xE_read {z : Str} (hz : OKZ z) (e : Zr z = none) : FE_Point_read [.val (.cls "Point"), .val (.str z)] = some (.ex "InvalidText" "given" (.str z) none) := by
  have hl := hz.len
  have hcn := hz.cnt
  have hlow : ∀ w ∈ (Txt.split z (Str.ofString " ")).drop 2, w.length ≤ 64 := fun w hw => (hz.low w (List.mem_of_mem_drop hw)).1
  refine er_def rfl rfl ?_
  show Er _ [_, _, _, _, _, _] _ _ _
  unfold B_Point_read
  have fin : ∀ Γ' : EnvF, Γ'[1]? = some (.val (.str z)) → Er (fRaise "InvalidText" "given" (fVar 1)) Γ' "InvalidText" "given" (.str z) := fun Γ' h => er_raise (xv_var h ⟨rfl, rfl, rfl⟩)
  refine er_seq2 ?_
  repeat' walk_at "x"
  refine e_splitD (e_spl (by omega)) ?_
  repeat' walk_at "x"
  refine ⟨rfl, er_seq2 ?_⟩
  repeat' walk_at "x"
  rw [cutDw]
  refine ⟨by rw [List.length_map, List.length_drop]; omega, ?_⟩
  refine x_lcL (fun l acc Γ => (∃ m k : List Str, m ++ k = (Txt.split z (Str.ofString " ")).drop 2 ∧ l = k.map D.str ∧ acc = m.map nin) ∧ Γ = [.val (.cls "Point"), .val (.str z), .val (.lst ((Txt.split z (Str.ofString " ")).map D.str)), .no, .no, .no]) ?_ ?_ ?_
  · exact ⟨⟨[], _, rfl, rfl, rfl⟩, rfl⟩
  · rintro d l acc Γ ⟨⟨m, k, e, e2, rfl⟩, rfl⟩
    cases k with
    | nil => cases e2
    | cons w k =>
      rw [List.map_cons] at e2
      cases e2
      refine ⟨_, rfl, rfl, ?_⟩
      show X _ [_, _, _, _, _, _] _
      repeat' walk_at "x"
      refine x_callF rfl (fp_of (f_ninD (hlow w (by rw [← e]; simp))) ?_)
      repeat' walk_at "x"
      exact ⟨⟨m ++ [w], k, by rw [List.append_assoc]; exact e, rfl, by rw [List.map_append]; rfl⟩, rfl⟩
  · rintro acc Γ ⟨⟨m, k, e3, e2, rfl⟩, rfl⟩
    cases k with
    | cons w k => cases e2
    | nil =>
      rw [List.append_nil] at e3
      have hm : ∀ w ∈ m, w.length ≤ 64 := fun w hw => hlow w (by rw [← e3]; exact hw)
      have hml : m.length ≤ 700 := by rw [e3, List.length_drop]; omega
      repeat' walk_at "x"
      refine ⟨rfl, er_seq2 ?_⟩
      have hnin : ∀ d ∈ m.map nin, isI d = true ∨ d = .non := fun d hd => by
        obtain ⟨w, _, e⟩ := List.mem_map.mp hd
        rw [← e]; exact nin_or w
      repeat' walk_at "x"
      refine x_callF rfl (fp_of (f_nums hnin (by rw [List.length_map]; omega)) ?_)
      by_cases hg : (decide (1 ≤ (m.map nin).length ∧ (m.map nin).length ≤ 3) && (m.map nin).all isI) = true
      · rw [hg]
        rw [Bool.and_eq_true, decide_eq_true_eq, List.length_map] at hg
        obtain ⟨hnum, emap⟩ := all_nin hg.2
        have sz := sz_of hg.1 hnum hm
        rw [emap]
        repeat' walk_at "x"
        refine fp_of (f_initE sz) ⟨rfl, _, _, rfl, ?_⟩
        repeat' walk_at "x"
        refine r_strI (f_str sz) ?_
        repeat' walk_at "x"
        · rename_i h
          rw [← h, Zr_page sz] at e
          cases e
        · exact ⟨rfl, fin _ rfl⟩
      · rw [Bool.not_eq_true] at hg
        rw [hg]
        repeat' walk_at "x"
        exact ⟨rfl, fin _ rfl⟩
theorem f_readZ {z : Str} {ns : List Int} (hz : OKZ z) (e : Zr z = some ns) : F_Point_read [.val (.cls "Point"), .val (.str z)] = some (.ok (.val (pt ns)) none) ∧ Sz ns := by
  have hl := hz.len
  have hcn := hz.cnt
  obtain ⟨ep, g, n, ws, es, en, hw3, hcan⟩ := page_of e
  have hlow : ∀ w ∈ ws, w.length ≤ 64 := fun w hw => (hz.low w (by rw [es]; simp [hw])).1
  have sz : Sz ns := by rw [en]; exact sz_of hw3 (fun w hw => (hcan w hw).1) hlow
  refine ⟨?_, sz⟩
  refine Fp.eq (f_def rfl ?_)
  show X _ [_, _, _, _, _, _] _
  unfold B_Point_read
  repeat' walk_at "x"
  refine e_splitD (e_spl (by omega)) ?_
  rw [es]
  repeat' walk_at "x"
  have ecut : DF.cutD (List.map D.str (g :: n :: ws)) (some 2) none = ws.map D.str := cutD2
  rw [ecut]
  refine ⟨by rw [List.length_map]; omega, ?_⟩
  refine x_lcL (fun l acc Γ => (∃ m k : List Str, m ++ k = ws ∧ l = k.map D.str ∧ acc = (m.map fun w => numV (tl w)).map D.int) ∧ Γ = [.val (.cls "Point"), .val (.str z), .val (.lst ((g :: n :: ws).map D.str)), .no, .no, .no]) ?_ ?_ ?_
  · exact ⟨⟨[], _, rfl, rfl, rfl⟩, rfl⟩
  · rintro d l acc Γ ⟨⟨m, k, e, e2, rfl⟩, rfl⟩
    cases k with
    | nil => cases e2
    | cons w k =>
      rw [List.map_cons] at e2
      cases e2
      have hw : w ∈ ws := by rw [← e]; simp
      refine ⟨_, rfl, rfl, ?_⟩
      show X _ [_, _, _, _, _, _] _
      repeat' walk_at "x"
      refine x_callF rfl (fp_of (f_ninD (hlow w hw)) ?_)
      unfold nin
      rw [if_pos (hcan w hw).1]
      repeat' walk_at "x"
      exact ⟨⟨m ++ [w], k, by rw [List.append_assoc]; exact e, rfl, by rw [List.map_append, List.map_append]; rfl⟩, rfl⟩
  · rintro acc Γ ⟨⟨m, k, e3, e2, rfl⟩, rfl⟩
    cases k with
    | cons w k => cases e2
    | nil =>
      rw [List.append_nil] at e3
      subst e3
      rw [← en]
      repeat' walk_at "x"
      refine x_callF rfl (fp_of (f_numsT sz) ?_)
      repeat' walk_at "x"
      refine fp_of (f_initE sz) ⟨rfl, _, _, rfl, ?_⟩
      repeat' walk_at "x"
      refine r_strI (f_str sz) ?_
      repeat' walk_at "x"
      · exact ⟨rfl, rfl⟩
      · rename_i h
        exact absurd ep h
end Kq

set_option linter.all false
set_option maxRecDepth 100000
set_option maxHeartbeats 4000000
namespace Kq
open PySem PySem.Spec PyProof.Rows L2 DF TL NumText
variable [TbC]
/-! ### bent texts -/
def Rn (M : Nat) (l : List Nat) : Prop := ∀ p, p <:+: l → 32 ∉ p → p.length ≤ M
theorem inf_app {p A B : List Nat} (h : p <:+: A ++ B) : ∃ p1 p2, p = p1 ++ p2 ∧ p1 <:+: A ∧ p2 <:+: B := by
  obtain ⟨s, t, e⟩ := h
  rw [List.append_assoc] at e
  rcases List.append_eq_append_iff.mp e with ⟨a, e1, e2⟩ | ⟨a, e1, e2⟩
  · -- s ++ a = A, p ++ t = a ++ B
    rcases List.append_eq_append_iff.mp e2 with ⟨b, e3, e4⟩ | ⟨b, e3, e4⟩
    · exact ⟨p, [], by simp, ⟨s, b, by rw [e1, e3]; simp⟩, List.nil_infix⟩
    · exact ⟨a, b, e3, ⟨s, [], by rw [e1]; simp⟩, ⟨[], t, by rw [e4]; simp⟩⟩
  · exact ⟨[], p, by simp, List.nil_infix, ⟨a, t, by rw [e2]; simp⟩⟩
theorem Rn_app {M N : Nat} {A B : List Nat} (h : Rn M A) (k : Rn N B) : Rn (M + N) (A ++ B) := fun p hp hn => by
  obtain ⟨p1, p2, e, h1, h2⟩ := inf_app hp
  subst e
  have := h p1 h1 fun q => hn (List.mem_append_left _ q)
  have := k p2 h2 fun q => hn (List.mem_append_right _ q)
  rw [List.length_append]
  omega
theorem Rn_sub {M : Nat} {A B : List Nat} (h : Rn M A) (i : B <:+: A) : Rn M B := fun p hp hn => h p (hp.trans i) hn
theorem Rn_short {M : Nat} {A : List Nat} (h : A.length ≤ M) : Rn M A := fun p hp _ => Nat.le_trans hp.length_le h
theorem inf_sep {p A B : List Nat} (h : p <:+: A ++ 32 :: B) (hn : 32 ∉ p) : p <:+: A ∨ p <:+: B := by
  obtain ⟨s, t, e⟩ := h
  rw [List.append_assoc] at e
  rcases List.append_eq_append_iff.mp e with ⟨a, e1, e2⟩ | ⟨a, e1, e2⟩
  · rcases List.append_eq_append_iff.mp e2 with ⟨b, e3, e4⟩ | ⟨b, e3, e4⟩
    · exact .inl ⟨s, b, by rw [e1, e3]; simp⟩
    · cases b with
      | nil => exact .inl ⟨s, [], by rw [e1, e3]; simp⟩
      | cons c b =>
        injection e4 with e5 _
        exact absurd (by rw [e3, ← e5]; simp) hn
  · cases a with
    | nil =>
      cases p with
      | nil => exact .inl List.nil_infix
      | cons c p =>
        injection e2 with e5 _
        exact absurd (by rw [← e5]; simp) hn
    | cons c a =>
      injection e2 with _ e5
      exact .inr ⟨a, t, by rw [e5]; simp⟩
theorem Rn_sep {M : Nat} {A B : List Nat} (h : Rn M A) (k : Rn M B) : Rn M (A ++ 32 :: B) := fun p hp hn => (inf_sep hp hn).elim (fun q => h p q hn) fun q => k p q hn
theorem Rn_join {M : Nat} : ∀ {L : List (List Nat)}, (∀ p ∈ L, p.length ≤ M) → Rn M (joinL [32] L)
  | [], _ => Rn_short (by simp [joinL])
  | [p], h => Rn_short (h p (List.mem_singleton.mpr rfl))
  | p :: q :: r, h => by
    show Rn M (p ++ 32 :: joinL [32] (q :: r))
    exact Rn_sep (Rn_short (h p List.mem_cons_self)) (Rn_join fun x hx => h x (List.mem_cons_of_mem _ hx))
theorem spl_no : ∀ (l acc : List Nat), 32 ∉ acc → ∀ p ∈ spl [32] 0 acc l, 32 ∉ p
  | [], acc, h, p, hp => by
    rw [spl_nil] at hp
    rw [List.mem_singleton.mp hp]; exact h
  | c :: r, acc, h, p, hp => by
    cases hh : pre [32] (c :: r) with
    | true =>
      rw [spl_hit hh] at hp
      rcases List.mem_cons.mp hp with e | hp
      · rw [e]; exact h
      · exact spl_no r [] (by simp) p hp
    | false =>
      rw [spl_miss hh] at hp
      refine spl_no r _ (fun q => ?_) p hp
      rcases List.mem_append.mp q with q | q
      · exact h q
      · have hc : c = 32 := (List.mem_singleton.mp q).symm
        subst hc
        have : pre [32] (32 :: r) = true := by simp [pre]
        rw [this] at hh
        cases hh
theorem spl_cnt : ∀ (l acc : List Nat), (spl [32] 0 acc l).length ≤ l.length + 1
  | [], acc => by rw [spl_nil]; simp
  | c :: r, acc => by
    cases hh : pre [32] (c :: r) with
    | true => rw [spl_hit hh]; have := spl_cnt r []; simp only [List.length_cons]; show (spl [32] 0 [] r).length + 1 ≤ _; omega
    | false => rw [spl_miss hh]; have := spl_cnt r (acc ++ [c]); simp only [List.length_cons]; omega
theorem jl_inf : ∀ {L : List (List Nat)} {p : List Nat}, p ∈ L → p <:+: joinL [32] L
  | [], p, h => (List.not_mem_nil h).elim
  | [q], p, h => by rw [List.mem_singleton.mp h]; exact List.infix_refl _
  | q :: q2 :: r, p, h => by
    show p <:+: q ++ ([32] ++ joinL [32] (q2 :: r))
    rcases List.mem_cons.mp h with e | h
    · rw [e]; exact ⟨[], [32] ++ joinL [32] (q2 :: r), by simp⟩
    · exact (jl_inf h).trans ⟨q ++ [32], [], by simp⟩
theorem split_tl (z : Str) : (Txt.split z (Str.ofString " ")).map tl = spl [32] 0 [] (tl z) := by
  have := split_spl z (Str.ofString " ") (by rw [sep_tl]; simp) (kind_ok (by decide +kernel))
  rw [sep_tl] at this
  exact this
theorem okz {z : Str} (h : z.length ≤ 600) (hc : ∀ c ∈ tl z, c < 1114112) (hr : Rn 64 (tl z)) : OKZ z := ⟨h, hc, fun w hw => by
  have hm : tl w ∈ spl [32] 0 [] (tl z) := by rw [← split_tl]; exact List.mem_map.mpr ⟨w, hw, rfl⟩
  have hi : tl w <:+: tl z := by
    have := jl_inf hm
    rw [spl_back, List.nil_append] at this
    exact this
  exact ⟨by rw [len_tl]; exact hr _ hi (spl_no _ [] (by simp) _ hm), fun c hc' => hc c (hi.subset hc')⟩, by
  have := spl_cnt (tl z) []
  rw [← split_tl, List.length_map, ← len_tl] at this
  omega⟩
theorem sIx_min {n d k : Nat} : HT.sIx n d (some (k : Int)) = min k n := by
  unfold HT.sIx
  simp
  omega
theorem cut_low {z : Str} {k : Nat} : tl (cutS z none (some (k : Int))) = (tl z).take k := by
  rw [tl_cutS, sIx_min]
  show ((tl z).drop 0).take (min k (tl z).length - 0) = _
  rw [List.drop_zero, Nat.sub_zero, ← List.take_eq_take_min]
theorem cut_high {z : Str} {k : Nat} : tl (cutS z (some (k : Int)) none) = (tl z).drop k := by
  rw [tl_cutS, sIx_min]
  show ((tl z).drop (min k (tl z).length)).take ((tl z).length - min k (tl z).length) = _
  by_cases h : k ≤ (tl z).length
  · rw [Nat.min_eq_left h, List.take_of_length_le (by simp)]
  · rw [Nat.min_eq_right (by omega), Nat.sub_self, List.take_zero, List.drop_eq_nil_of_le (by omega)]
theorem cut_high1 {z : Str} {k : Nat} : tl (cutS z (some ((k : Int) + 1)) none) = (tl z).drop (k + 1) := cut_high (k := k + 1)
abbrev Wl (w : Str) : Prop := w.length ≤ 30 ∧ ∀ c ∈ tl w, c < 1114112
theorem wl_sI {i : Int} (h : fit i) : Wl (sI i) := ⟨by
  rw [len_tl, tl_sI]
  exact tlI_len (k := 29) (by decide) (Nat.lt_of_le_of_lt h (by decide)), sI_chars⟩
theorem sum_wl : ∀ {ws : List Str}, (∀ w ∈ ws, Wl w) → (ws.map fun x => x.length).sum ≤ 30 * ws.length
  | [], _ => by simp
  | w :: ws, h => by
    have := (h w List.mem_cons_self).1
    have ih := sum_wl fun v hv => h v (List.mem_cons_of_mem _ hv)
    simp only [List.map_cons, List.sum_cons, List.length_cons]
    omega
theorem okz_join {ws : List Str} (h : ∀ w ∈ ws, Wl w) (hl : ws.length ≤ 16) : OKZ (Txt.join (Str.ofString " ") ws) := by
  refine okz ?_ (chars_join fun w hw => (h w hw).2) ?_
  · have := sum_wl h
    refine Nat.le_trans len_join ?_
    have e : (ws.map Str.length).sum = (ws.map fun x => x.length).sum := rfl
    rw [e]
    omega
  · rw [join_eq, tl_join, sep_tl]
    exact Rn_join fun p hp => by
      obtain ⟨w, hw, e⟩ := List.mem_map.mp hp
      rw [← e, ← len_tl]
      exact Nat.le_trans (h w hw).1 (by decide)
theorem cut_strs (ws : List Str) (lo hi : Option Int) : ∃ l : List Str, DF.cutD (ws.map D.str) lo hi = l.map D.str ∧ (∀ w ∈ l, w ∈ ws) ∧ l.length ≤ ws.length := by
  refine ⟨(ws.drop (HT.sIx (ws.map D.str).length 0 lo)).take (HT.sIx (ws.map D.str).length (ws.map D.str).length hi - HT.sIx (ws.map D.str).length 0 lo), ?_, fun w hw => List.mem_of_mem_drop (List.mem_of_mem_take hw), ?_⟩
  · unfold DF.cutD
    rw [← List.map_drop, ← List.map_take]
  · rw [List.length_take, List.length_drop]
    omega
structure Fz (ns : List Int) : Prop where
  lo : 1 ≤ ns.length
  hi : ns.length ≤ 3
  al : ∀ i ∈ ns, fit i
theorem Fz.sz {ns : List Int} (h : Fz ns) : Sz ns := ⟨h.lo, h.hi, fun i hi => Nat.lt_of_le_of_lt (h.al i hi) (by decide)⟩
theorem wl_words {ns : List Int} (h : Fz ns) : ∀ w ∈ Str.ofString "grid" :: sI ns.length :: ns.map sI, Wl w := fun w hw => by
  rcases List.mem_cons.mp hw with e | hw
  · rw [e]; exact ⟨by decide +kernel, by decide +kernel⟩
  rcases List.mem_cons.mp hw with e | hw
  · rw [e]; exact wl_sI (by unfold fit; have := h.hi; exact Nat.le_trans (show (ns.length : Int).natAbs ≤ 3 by omega) (by decide))
  · obtain ⟨i, hi, e⟩ := List.mem_map.mp hw
    rw [← e]; exact wl_sI (h.al i hi)
theorem page_chars {ns : List Int} (h : Fz ns) : ∀ c ∈ tl (page ns), c < 1114112 := chars_join fun w hw => (wl_words h w hw).2
theorem page_len {ns : List Int} (h : Fz ns) : (page ns).length ≤ 160 := by
  have h1 := sum_wl (wl_words h)
  have h2 := len_join (ws := Str.ofString "grid" :: sI ns.length :: ns.map sI)
  have := h.hi
  have e : ((Str.ofString "grid" :: sI ns.length :: ns.map sI).map Str.length).sum = ((Str.ofString "grid" :: sI ns.length :: ns.map sI).map fun x => x.length).sum := rfl
  rw [e] at h2
  simp only [List.length_cons, List.length_map] at h1 h2
  unfold page
  omega
theorem page_Rn {ns : List Int} (h : Fz ns) : Rn 30 (tl (page ns)) := by
  unfold page
  rw [join_eq, tl_join, sep_tl]
  exact Rn_join fun p hp => by
    obtain ⟨w, hw, e⟩ := List.mem_map.mp hp
    rw [← e, ← len_tl]
    exact (wl_words h w hw).1
theorem okz_page {ns : List Int} (h : Fz ns) : OKZ (page ns) := okz_join (wl_words h) (by have := h.hi; simp; omega)
end Kq

set_option linter.all false
set_option maxRecDepth 100000
set_option maxHeartbeats 4000000
namespace Kq
open PySem PySem.Spec PyProof.Rows L2 DF TL NumText
variable [TbC]
/-! ### one step -/
local macro_rules | `(tactic| walk_at "set") => `(tactic| (refine' e_set ?qa ?_; (case qa => (simp only [wipeF, backF, List.set, List.getD_cons_succ, List.getD_cons_zero, Int.reduceToNat]; rfl))))
local macro_rules | `(tactic| walk_at "cnd") => `(tactic| first | assumption | decide | omega)
local macro_rules | `(tactic| walk_at "mul") => `(tactic| first | exact mulOk_r (by decide) (by decide) | exact mulOk_l (by decide) (by decide) | exact mulOk_l (by omega) (by omega) | exact mulOk_r (by omega) (by omega))
local macro_rules | `(tactic| walk_at "x") => `(tactic| first
  | with_reducible apply x_seq
  | with_reducible apply k_nx
  | with_reducible apply k_rt
  | with_reducible apply x_nx
  | with_reducible refine x_asgK (fa := fLstO _) ?_
  | with_reducible refine x_asgK (fa := fLcO _ _ _ _ _) ?_
  | with_reducible apply ak_own
  | with_reducible apply ak_val
  | with_reducible apply x_asg
  | with_reducible refine x_retK (fa := fLstO _) ?_
  | with_reducible apply rk_own
  | with_reducible apply x_ret
  | with_reducible apply x_ifS
  | with_reducible apply x_asgG
  | with_reducible apply x_drop
  | with_reducible apply x_par
  | with_reducible apply x_par3
  | with_reducible apply x_asg3
  | with_reducible apply x_for
  | with_reducible refine x_aug ⟨_, rfl, ?_⟩
  | with_reducible apply xv_c
  | (with_reducible refine xv_var rfl ?_)
  | (with_reducible refine x_varV rfl ?_)
  | (with_reducible refine x_varO rfl ?_)
  | with_reducible apply xv_op
  | with_reducible apply xv_un
  | with_reducible apply xv_cb
  | with_reducible apply xs_nil
  | with_reducible apply xs_cons
  | with_reducible apply xa_nil
  | with_reducible apply xa_cons
  | with_reducible apply xv_tup
  | with_reducible apply xv_lst
  | with_reducible apply x_lstO
  | with_reducible apply xv_if
  | with_reducible apply xv_andV
  | with_reducible apply xv_orV
  | with_reducible apply xv_notV
  | with_reducible apply xv_isN
  | with_reducible apply xv_notN
  | with_reducible apply xt_test
  | with_reducible apply xt_tru
  | with_reducible apply xt_not
  | with_reducible apply xt_and
  | with_reducible apply xt_or
  | with_reducible apply xt_yes
  | with_reducible apply xv_call
  | with_reducible apply xv_callN
  | with_reducible apply xv_cmeth
  | with_reducible apply xv_cmethN
  | with_reducible apply xv_fld
  | with_reducible apply xv_prop
  | with_reducible apply x_setF
  | with_reducible apply xv_make
  | with_reducible apply xv_makeN
  | (with_reducible refine xv_makeL rfl ?_)
  | with_reducible apply xg_name
  | with_reducible apply xg_nil
  | with_reducible apply xg_cons
  | (with_reducible refine xg_tup rfl ?_)
  | (with_reducible refine xg_unl rfl ?_)
  | (with_reducible refine xg_sub rfl ?_)
  | (with_reducible refine xv_ixO rfl ?_)
  | ((with_reducible refine' xv_pk ?qa ?_); (case qa => (simp only [List.map, seeO, odD]; rfl)))
  | ((with_reducible refine' xt_pk ?qa ?_); (case qa => (simp only [List.map, seeO, odD]; rfl)))
  | with_reducible apply xv_bm
  | with_reducible apply xv_bm0
  | with_reducible apply xv_sl
  | with_reducible apply xo_no
  | with_reducible apply xo_some
  | with_reducible apply xv_revS
  | with_reducible apply xv_revL
  | with_reducible apply xv_fmt
  | with_reducible apply xw_any
  | with_reducible apply xw_rng1
  | with_reducible apply xw_rng2
  | with_reducible apply xv_lc
  | with_reducible apply vk_val
  | with_reducible apply bk_none
  | with_reducible apply bk_tmp
  | (with_reducible refine bk_slot rfl ?_)
  | with_reducible apply rk_val
  | with_reducible apply fk_nx
  | with_reducible apply fk_rt
  | ((with_reducible refine' e_par ?qa ?_); (case qa => (simp only [List.set]; rfl)))
  | ((with_reducible refine' e_par3 ?qa ?_); (case qa => (simp only [List.set]; rfl)))
  | ((with_reducible refine' e_ixO ?qa ?qb ?_); (case qa => exact rfl); (case qb => exact rfl))
  | ((with_reducible refine' e_sub ?qa ?qb ?qc ?_); (case qa => exact rfl); (case qb => exact rfl); (case qc => (simp only [List.set, Int.reduceToNat]; rfl)))
  | ((with_reducible refine' e_setF ?qa ?qb ?qc ?_); (case qa => exact rfl); (case qb => (simp only [List.length_cons, List.length_nil]; decide)); (case qc => (simp only [List.set, Int.reduceToNat]; rfl)))
  | ((with_reducible refine' e_fields ?qa ?qb ?_); (case qa => exact rfl); (case qb => exact rfl))
  | ((with_reducible refine' e_has ?qa ?_); (case qa => exact rfl))
  | with_reducible apply r_addI
  | with_reducible apply r_sub
  | with_reducible apply r_lt
  | with_reducible apply r_gt
  | with_reducible apply r_le
  | with_reducible apply r_ge
  | with_reducible apply r_int
  | with_reducible apply r_intB
  | with_reducible apply r_abs
  | with_reducible refine r_dec2 (fun h => ?_) (fun h => ?_)
  | with_reducible refine r_decN2 (fun h => ?_) (fun h => ?_)
  | with_reducible refine r_decM2 (fun h => ?_) (fun h => ?_)
  | with_reducible apply r_bool
  | with_reducible apply r_truB
  | with_reducible apply r_len
  | with_reducible apply r_lenS
  | with_reducible apply r_orEqS
  | with_reducible apply r_orNeS
  | with_reducible apply r_orEqI
  | with_reducible apply r_orNeI
  | with_reducible apply xv_joined
  | with_reducible apply xj_cons
  | with_reducible apply xj_nil
  | with_reducible apply r_eqI
  | with_reducible apply r_neI
  | with_reducible apply r_eqS
  | with_reducible apply r_neS
  | ((with_reducible refine' e_addD ?qa ?_); (case qa => exact rfl))
  | ((with_reducible refine' e_subD ?qa ?_); (case qa => exact rfl))
  | ((with_reducible refine' r_mul ?qa ?_); (case qa => walk_at "mul"))
  | ((with_reducible refine' r_mod ?qa ?_); (case qa => walk_at "cnd"))
  | ((with_reducible refine' r_fdiv ?qa ?qb ?_); (case qa => walk_at "cnd"); (case qb => walk_at "cnd"))
  | ((with_reducible refine' r_divmod ?qa ?qb ?_); (case qa => walk_at "cnd"); (case qb => walk_at "cnd"))
  | ((with_reducible refine' e_ltD ?qa ?_); (case qa => exact rfl))
  | ((with_reducible refine' e_leD ?qa ?_); (case qa => exact rfl))
  | ((with_reducible refine' e_gtD ?qa ?_); (case qa => exact rfl))
  | ((with_reducible refine' e_geD ?qa ?_); (case qa => exact rfl))
  | ((with_reducible refine' e_negD ?qa ?_); (case qa => exact rfl))
  | ((with_reducible refine' e_ixD ?qa ?_); (case qa => exact rfl))
  | ((with_reducible refine' e_intD ?qa ?_); (case qa => exact rfl))
  | ((with_reducible refine' e_absD ?qa ?_); (case qa => exact rfl))
  | ((with_reducible refine' e_intOf ?qa ?_); (case qa => exact rfl))
  | ((with_reducible refine' e_tupOf ?qa ?_); (case qa => exact rfl))
  | ((with_reducible refine' e_lstOf ?qa ?_); (case qa => exact rfl))
  | ((with_reducible refine' e2_boolOf ?qa ?_ ?_); (case qa => exact rfl))
  | ((with_reducible refine' e_boolOf ?qa ?_); (case qa => exact rfl))
  | ((with_reducible refine' e_truD ?qa ?_); (case qa => exact rfl))
  | ((with_reducible refine' e_itemsOf ?qa ?_); (case qa => exact rfl))
  | ((with_reducible refine' e_slD ?qa ?_); (case qa => exact rfl))
  | ((with_reducible refine' e_isiD ?qa ?_); (case qa => exact rfl))
  | ((with_reducible refine' e_boolI ?qa ?_); (case qa => exact rfl))
  | ((with_reducible refine' e_rng ?qa ?_); (case qa => exact ⟨by omega, by omega⟩))
  | with_reducible apply e_some
  | with_reducible apply e_str
  | with_reducible apply e_rev
  | ((with_reducible refine' en_val ?qa ?_); (case qa => exact rfl))
  | ((with_reducible refine' en_own ?qa ?_); (case qa => exact rfl))
  | ((with_reducible refine' en_nx ?qa ?_); (case qa => exact rfl))
  | with_reducible apply x_call
  | with_reducible refine x_ofV (fa := fC _) ?_
  | with_reducible refine x_ofV (fa := fOp _ _ _) ?_
  | with_reducible refine x_ofV (fa := fUn _ _) ?_
  | with_reducible refine x_ofV (fa := fCB _ _) ?_
  | with_reducible refine x_ofV (fa := fTup _) ?_
  | with_reducible refine x_ofV (fa := fLst _) ?_
  | with_reducible refine x_ofV (fa := fBM _ _ _ _) ?_
  | with_reducible refine x_ofV (fa := fBM0 _ _ _) ?_
  | with_reducible refine x_ofV (fa := fLc _ _ _ _ _) ?_
  | with_reducible refine x_ofV (fa := fFld _ _ _) ?_
  | with_reducible refine x_ofV (fa := fProp _ _ _) ?_
  | with_reducible refine x_ofV (fa := fMake _ _ _) ?_
  | with_reducible refine x_ofV (fa := fMakeN _ _ _ _ _ _ _) ?_
  | with_reducible refine x_ofV (fa := fSl _ _ _) ?_
  | with_reducible refine x_ofV (fa := fJoined _) ?_
  | with_reducible refine x_ofV (fa := fAndV _ _) ?_
  | with_reducible refine x_ofV (fa := fOrV _ _) ?_
  | with_reducible refine x_ofV (fa := fNotV _) ?_
  | with_reducible refine x_ofV (fa := fIf _ _ _) ?_
  | with_reducible refine x_ofV (fa := fIxO _ _) ?_
  | with_reducible refine x_ofV (fa := fCMeth _ _ _) ?_
  | with_reducible refine x_ofV (fa := fCMethN _ _ _ _ _) ?_
  | with_reducible refine x_ofV (fa := fCallN _ _ _ _ _ _) ?_
  | with_reducible refine x_ofV (fa := fIsN _) ?_
  | with_reducible refine x_ofV (fa := fNotN _) ?_
  | with_reducible apply xl_nil
  | with_reducible refine xl_cons rfl ?_
  | (refine And.intro (show List.length _ ≤ 16777216 from by simp only [List.length_cons, List.length_nil]; decide) ?_)
  | (refine And.intro (show tyS _ = some _ from rfl) ?_)
  | (refine And.intro (show flat _ = true from rfl) ?_)
  | (refine And.intro (show List.length _ = _ from rfl) ?_)
  | (refine And.intro (show List.length _ < 16777216 from by simp only [List.length_cons, List.length_nil]; decide) ?_)
  | (refine And.intro (show List.map isOwn _ = List.map isOwn _ from rfl) ?_)
  | with_reducible apply tt_intro
  | with_reducible apply nt_intro
  | with_reducible apply nnf_intro
  | with_reducible apply nnt_intro
  | with_reducible apply nf_intro
  | with_reducible apply ff_intro
  | walk_at "set")
theorem p_bent {n a b c : Int} {ns : List Int} {Φ : Vr → Option OD → Prop} (h : RO n a b c) (hn : n ≤ 10 ^ 14) (hf : Fz ns)
    (k : ∀ z a b c, OKZ z → RO (n + 5) a b c → Φ (.val (.str z)) (some (rl a b c))) : Fp F_l_bent [.own 1 (rl a b c), .val (.str (page ns))] Φ := by
  have hL := page_len hf
  have hC := page_chars hf
  have hR := page_Rn hf
  have hw := wl_words hf
  have hh := hf.hi
  refine f_def rfl ?_
  show X _ [_, _, _, _, _, _, _, _] _
  unfold B_l_bent
  repeat' walk_at "x"
  refine x_callF rfl ?_
  refine p_sip h (by omega) (by omega) (by omega) fun form a b c f0 f1 h => ?_
  repeat' walk_at "x"
  refine r_lenT (by omega) ?_
  repeat' walk_at "x"
  refine x_callF rfl ?_
  refine p_sip h (by omega) (by omega) (by omega) fun spot a b c s0 s1 h => ?_
  repeat' walk_at "x"
  refine x_callF rfl ?_
  refine p_list h (by omega) (by decide) (by decide) fun d a b c hd h => ?_
  obtain ⟨g, rfl, hg, hgc⟩ : ∃ g : Str, d = D.str g ∧ g.length = 1 ∧ ∀ c ∈ tl g, c < 1114112 := by
    simp only [List.mem_cons, List.not_mem_nil, or_false] at hd
    rcases hd with e | e | e | e | e | e | e | e <;> exact ⟨_, e, by decide +kernel, by decide +kernel⟩
  repeat' walk_at "x"
  refine e_splitD (e_spl (by omega)) ?_
  rw [split_page]
  have hW5 : (Str.ofString "grid" :: sI ns.length :: ns.map sI).length ≤ 5 := by simp; omega
  have hW0 : 0 < (Str.ofString "grid" :: sI ns.length :: ns.map sI).length := by simp
  generalize (Str.ofString "grid" :: sI ns.length :: ns.map sI) = W at hw hW5 hW0 ⊢
  obtain ⟨sp, rfl⟩ : ∃ sp : Nat, spot = sp := ⟨spot.toNat, by omega⟩
  have ll : (cutS (page ns) none (some (sp : Int))).length ≤ 160 := by rw [len_tl, cut_low, List.length_take, ← len_tl]; omega
  have l0 : (cutS (page ns) (some (sp : Int)) none).length ≤ 160 := by rw [len_tl, cut_high, List.length_drop, ← len_tl]; omega
  have l1 : (cutS (page ns) (some ((sp : Int) + 1)) none).length ≤ 160 := by rw [len_tl, cut_high1, List.length_drop, ← len_tl]; omega
  have cl : ∀ c ∈ tl (cutS (page ns) none (some (sp : Int))), c < 1114112 := fun c hc => by rw [cut_low] at hc; exact hC c (List.mem_of_mem_take hc)
  have c0 : ∀ c ∈ tl (cutS (page ns) (some (sp : Int)) none), c < 1114112 := fun c hc => by rw [cut_high] at hc; exact hC c (List.mem_of_mem_drop hc)
  have c1 : ∀ c ∈ tl (cutS (page ns) (some ((sp : Int) + 1)) none), c < 1114112 := fun c hc => by rw [cut_high1] at hc; exact hC c (List.mem_of_mem_drop hc)
  have rl' : Rn 30 (tl (cutS (page ns) none (some (sp : Int)))) := by rw [cut_low]; exact Rn_sub hR (List.take_prefix _ _).isInfix
  have r0 : Rn 30 (tl (cutS (page ns) (some (sp : Int)) none)) := by rw [cut_high]; exact Rn_sub hR (List.drop_suffix _ _).isInfix
  have r1 : Rn 30 (tl (cutS (page ns) (some ((sp : Int) + 1)) none)) := by rw [cut_high1]; exact Rn_sub hR (List.drop_suffix _ _).isInfix
  have rg : Rn 1 (tl g) := Rn_short (by rw [← len_tl]; omega)
  have up : ∀ {M : Nat} {l : List Nat}, Rn M l → M ≤ 64 → Rn 64 l := fun h hm p hp hn => Nat.le_trans (h p hp hn) hm
  have app : ∀ {u v : Str}, (∀ c ∈ tl u, c < 1114112) → (∀ c ∈ tl v, c < 1114112) → ∀ c ∈ tl (u ++ v), c < 1114112 := fun hu hv c hc => by
    rw [tl_append] at hc
    exact (List.mem_append.mp hc).elim (hu c) (hv c)
  repeat' walk_at "x"
  · refine e_slD (sl_str (by omega) _ _) ?_
    repeat' walk_at "x"
    refine r_addS (by omega) ?_
    repeat' walk_at "x"
    refine e_slD (sl_str (by omega) _ _) ?_
    refine r_addS (by rw [len_app]; omega) ?_
    repeat' walk_at "x"
    exact k _ _ _ _ (okz (by rw [len_app, len_app]; omega) (app (app cl hgc) c0) (by rw [tl_append, tl_append]; exact up (Rn_app (Rn_app rl' rg) r0) (by decide))) (h.up (by omega))
  · refine e_slD (sl_str (by omega) _ _) ?_
    repeat' walk_at "x"
    refine e_slD (sl_str (by omega) _ _) ?_
    refine r_addS (by omega) ?_
    repeat' walk_at "x"
    exact k _ _ _ _ (okz (by rw [len_app]; omega) (app cl c1) (by rw [tl_append]; exact up (Rn_app rl' r1) (by decide))) (h.up (by omega))
  · refine e_slD (sl_str (by omega) _ _) ?_
    repeat' walk_at "x"
    refine r_addS (by omega) ?_
    repeat' walk_at "x"
    refine e_slD (sl_str (by omega) _ _) ?_
    refine r_addS (by rw [len_app]; omega) ?_
    repeat' walk_at "x"
    exact k _ _ _ _ (okz (by rw [len_app, len_app]; omega) (app (app cl hgc) c1) (by rw [tl_append, tl_append]; exact up (Rn_app (Rn_app rl' rg) r1) (by decide))) (h.up (by omega))
  refine x_callF rfl ?_
  refine p_sip h (by omega) (by rw [List.length_map]; omega) (by rw [List.length_map]; omega) fun at' a b c a0 a1 h => ?_
  repeat' walk_at "x"
  · refine x_callF rfl ?_
    refine p_list h (by omega) (by decide) (by decide) fun d a b c hd h => ?_
    obtain ⟨w, rfl, hwl⟩ : ∃ w : Str, d = D.str w ∧ Wl w := by
      simp only [List.mem_cons, List.not_mem_nil, or_false] at hd
      rcases hd with e | e | e | e | e | e | e | e | e | e | e | e <;> exact ⟨_, e, by decide +kernel, by decide +kernel⟩
    repeat' walk_at "x"
    obtain ⟨A, eA, hA, lA⟩ := cut_strs W none (some at')
    obtain ⟨B, eB, hB, lB⟩ := cut_strs W (some (at' + 1)) none
    rw [eA]
    refine r_addL (by simp; omega) ?_
    repeat' walk_at "x"
    rw [eB]
    refine r_addL (by simp; omega) ?_
    repeat' walk_at "x"
    have e3 : A.map D.str ++ [D.str w] ++ B.map D.str = (A ++ [w] ++ B).map D.str := by simp
    rw [e3]
    have hall : ∀ x ∈ A ++ [w] ++ B, Wl x := fun x hx => by
      rcases List.mem_append.mp hx with hx | hx
      · rcases List.mem_append.mp hx with hx | hx
        · exact hw x (hA x hx)
        · rw [List.mem_singleton.mp hx]; exact hwl
      · exact hw x (hB x hx)
    have hlen : (A ++ [w] ++ B).length ≤ 16 := by simp; omega
    have := sum_wl hall
    refine e_joinD (joinD_ws (by omega)) ?_
    repeat' walk_at "x"
    exact k _ _ _ _ (okz_join hall hlen) (h.up (by omega))
  · obtain ⟨A, eA, hA, lA⟩ := cut_strs W none (some at')
    obtain ⟨B, eB, hB, lB⟩ := cut_strs W (some (at' + 1)) none
    rw [eA, eB]
    refine r_addL (by simp; omega) ?_
    repeat' walk_at "x"
    rw [← List.map_append]
    have hall : ∀ x ∈ A ++ B, Wl x := fun x hx => by
      rcases List.mem_append.mp hx with hx | hx
      · exact hw x (hA x hx)
      · exact hw x (hB x hx)
    have hlen : (A ++ B).length ≤ 16 := by simp; omega
    have := sum_wl hall
    refine e_joinD (joinD_ws (by omega)) ?_
    repeat' walk_at "x"
    exact k _ _ _ _ (okz_join hall hlen) (h.up (by omega))
  · obtain ⟨A, eA, hA, lA⟩ := cut_strs W none (some at')
    obtain ⟨M, eM, hM, lM⟩ := cut_strs W (some at') (some (at' + 1))
    obtain ⟨B, eB, hB, lB⟩ := cut_strs W (some at') none
    rw [eA, eM]
    refine r_addL (by simp; omega) ?_
    repeat' walk_at "x"
    rw [eB]
    refine r_addL (by simp; omega) ?_
    repeat' walk_at "x"
    rw [← List.map_append, ← List.map_append]
    have hall : ∀ x ∈ A ++ M ++ B, Wl x := fun x hx => by
      rcases List.mem_append.mp hx with hx | hx
      · rcases List.mem_append.mp hx with hx | hx
        · exact hw x (hA x hx)
        · exact hw x (hM x hx)
      · exact hw x (hB x hx)
    have hlen : (A ++ M ++ B).length ≤ 16 := by simp; omega
    have := sum_wl hall
    refine e_joinD (joinD_ws (by omega)) ?_
    repeat' walk_at "x"
    exact k _ _ _ _ (okz_join hall hlen) (h.up (by omega))
end Kq

set_option linter.all false
set_option maxRecDepth 100000
set_option maxHeartbeats 4000000
namespace Kq
open PySem PySem.Spec PyProof.Rows L2 DF TL NumText
variable [TbC]
/-! ### one step -/
local macro_rules | `(tactic| walk_at "set") => `(tactic| (refine' e_set ?qa ?_; (case qa => (simp only [wipeF, backF, List.set, List.getD_cons_succ, List.getD_cons_zero, Int.reduceToNat]; rfl))))
local macro_rules | `(tactic| walk_at "cnd") => `(tactic| first | assumption | decide | omega)
local macro_rules | `(tactic| walk_at "mul") => `(tactic| first | exact mulOk_r (by decide) (by decide) | exact mulOk_l (by decide) (by decide) | exact mulOk_l (by omega) (by omega) | exact mulOk_r (by omega) (by omega))
local macro_rules | `(tactic| walk_at "x") => `(tactic| first
  | with_reducible apply x_seq
  | with_reducible apply k_nx
  | with_reducible apply k_rt
  | with_reducible apply x_nx
  | with_reducible refine x_asgK (fa := fLstO _) ?_
  | with_reducible refine x_asgK (fa := fLcO _ _ _ _ _) ?_
  | with_reducible apply ak_own
  | with_reducible apply ak_val
  | with_reducible apply x_asg
  | with_reducible refine x_retK (fa := fLstO _) ?_
  | with_reducible apply rk_own
  | with_reducible apply x_ret
  | with_reducible apply x_ifS
  | with_reducible apply x_asgG
  | with_reducible apply x_drop
  | with_reducible apply x_par
  | with_reducible apply x_par3
  | with_reducible apply x_asg3
  | with_reducible apply x_for
  | with_reducible refine x_aug ⟨_, rfl, ?_⟩
  | with_reducible apply xv_c
  | (with_reducible refine xv_var rfl ?_)
  | (with_reducible refine x_varV rfl ?_)
  | (with_reducible refine x_varO rfl ?_)
  | with_reducible apply xv_op
  | with_reducible apply xv_un
  | with_reducible apply xv_cb
  | with_reducible apply xs_nil
  | with_reducible apply xs_cons
  | with_reducible apply xa_nil
  | with_reducible apply xa_cons
  | with_reducible apply xv_tup
  | with_reducible apply xv_lst
  | with_reducible apply x_lstO
  | with_reducible apply xv_if
  | with_reducible apply xv_andV
  | with_reducible apply xv_orV
  | with_reducible apply xv_notV
  | with_reducible apply xv_isN
  | with_reducible apply xv_notN
  | with_reducible apply xt_test
  | with_reducible apply xt_tru
  | with_reducible apply xt_not
  | with_reducible apply xt_and
  | with_reducible apply xt_or
  | with_reducible apply xt_yes
  | with_reducible apply xv_call
  | with_reducible apply xv_callN
  | with_reducible apply xv_cmeth
  | with_reducible apply xv_cmethN
  | with_reducible apply xv_fld
  | with_reducible apply xv_prop
  | with_reducible apply x_setF
  | with_reducible apply xv_make
  | with_reducible apply xv_makeN
  | (with_reducible refine xv_makeL rfl ?_)
  | with_reducible apply xg_name
  | with_reducible apply xg_nil
  | with_reducible apply xg_cons
  | (with_reducible refine xg_tup rfl ?_)
  | (with_reducible refine xg_unl rfl ?_)
  | (with_reducible refine xg_sub rfl ?_)
  | (with_reducible refine xv_ixO rfl ?_)
  | ((with_reducible refine' xv_pk ?qa ?_); (case qa => (simp only [List.map, seeO, odD]; rfl)))
  | ((with_reducible refine' xt_pk ?qa ?_); (case qa => (simp only [List.map, seeO, odD]; rfl)))
  | with_reducible apply xv_bm
  | with_reducible apply xv_bm0
  | with_reducible apply xv_sl
  | with_reducible apply xo_no
  | with_reducible apply xo_some
  | with_reducible apply xv_revS
  | with_reducible apply xv_revL
  | with_reducible apply xv_fmt
  | with_reducible apply xw_any
  | with_reducible apply xw_rng1
  | with_reducible apply xw_rng2
  | with_reducible apply xv_lc
  | with_reducible apply vk_val
  | with_reducible apply bk_none
  | with_reducible apply bk_tmp
  | (with_reducible refine bk_slot rfl ?_)
  | with_reducible apply rk_val
  | with_reducible apply fk_nx
  | with_reducible apply fk_rt
  | ((with_reducible refine' e_par ?qa ?_); (case qa => (simp only [List.set]; rfl)))
  | ((with_reducible refine' e_par3 ?qa ?_); (case qa => (simp only [List.set]; rfl)))
  | ((with_reducible refine' e_ixO ?qa ?qb ?_); (case qa => exact rfl); (case qb => exact rfl))
  | ((with_reducible refine' e_sub ?qa ?qb ?qc ?_); (case qa => exact rfl); (case qb => exact rfl); (case qc => (simp only [List.set, Int.reduceToNat]; rfl)))
  | ((with_reducible refine' e_setF ?qa ?qb ?qc ?_); (case qa => exact rfl); (case qb => (simp only [List.length_cons, List.length_nil]; decide)); (case qc => (simp only [List.set, Int.reduceToNat]; rfl)))
  | ((with_reducible refine' e_fields ?qa ?qb ?_); (case qa => exact rfl); (case qb => exact rfl))
  | ((with_reducible refine' e_has ?qa ?_); (case qa => exact rfl))
  | with_reducible apply r_addI
  | with_reducible apply r_sub
  | with_reducible apply r_lt
  | with_reducible apply r_gt
  | with_reducible apply r_le
  | with_reducible apply r_ge
  | with_reducible apply r_int
  | with_reducible apply r_intB
  | with_reducible apply r_abs
  | with_reducible refine r_dec2 (fun h => ?_) (fun h => ?_)
  | with_reducible refine r_decN2 (fun h => ?_) (fun h => ?_)
  | with_reducible refine r_decM2 (fun h => ?_) (fun h => ?_)
  | with_reducible apply r_bool
  | with_reducible apply r_truB
  | with_reducible apply r_len
  | with_reducible apply r_lenS
  | with_reducible apply r_orEqS
  | with_reducible apply r_orNeS
  | with_reducible apply r_orEqI
  | with_reducible apply r_orNeI
  | with_reducible apply xv_joined
  | with_reducible apply xj_cons
  | with_reducible apply xj_nil
  | with_reducible apply r_eqI
  | with_reducible apply r_neI
  | with_reducible apply r_eqS
  | with_reducible apply r_neS
  | ((with_reducible refine' e_addD ?qa ?_); (case qa => exact rfl))
  | ((with_reducible refine' e_subD ?qa ?_); (case qa => exact rfl))
  | ((with_reducible refine' r_mul ?qa ?_); (case qa => walk_at "mul"))
  | ((with_reducible refine' r_mod ?qa ?_); (case qa => walk_at "cnd"))
  | ((with_reducible refine' r_fdiv ?qa ?qb ?_); (case qa => walk_at "cnd"); (case qb => walk_at "cnd"))
  | ((with_reducible refine' r_divmod ?qa ?qb ?_); (case qa => walk_at "cnd"); (case qb => walk_at "cnd"))
  | ((with_reducible refine' e_ltD ?qa ?_); (case qa => exact rfl))
  | ((with_reducible refine' e_leD ?qa ?_); (case qa => exact rfl))
  | ((with_reducible refine' e_gtD ?qa ?_); (case qa => exact rfl))
  | ((with_reducible refine' e_geD ?qa ?_); (case qa => exact rfl))
  | ((with_reducible refine' e_negD ?qa ?_); (case qa => exact rfl))
  | ((with_reducible refine' e_ixD ?qa ?_); (case qa => exact rfl))
  | ((with_reducible refine' e_intD ?qa ?_); (case qa => exact rfl))
  | ((with_reducible refine' e_absD ?qa ?_); (case qa => exact rfl))
  | ((with_reducible refine' e_intOf ?qa ?_); (case qa => exact rfl))
  | ((with_reducible refine' e_tupOf ?qa ?_); (case qa => exact rfl))
  | ((with_reducible refine' e_lstOf ?qa ?_); (case qa => exact rfl))
  | ((with_reducible refine' e2_boolOf ?qa ?_ ?_); (case qa => exact rfl))
  | ((with_reducible refine' e_boolOf ?qa ?_); (case qa => exact rfl))
  | ((with_reducible refine' e_truD ?qa ?_); (case qa => exact rfl))
  | ((with_reducible refine' e_itemsOf ?qa ?_); (case qa => exact rfl))
  | ((with_reducible refine' e_slD ?qa ?_); (case qa => exact rfl))
  | ((with_reducible refine' e_isiD ?qa ?_); (case qa => exact rfl))
  | ((with_reducible refine' e_boolI ?qa ?_); (case qa => exact rfl))
  | ((with_reducible refine' e_rng ?qa ?_); (case qa => exact ⟨by omega, by omega⟩))
  | with_reducible apply e_some
  | with_reducible apply e_str
  | with_reducible apply e_rev
  | ((with_reducible refine' en_val ?qa ?_); (case qa => exact rfl))
  | ((with_reducible refine' en_own ?qa ?_); (case qa => exact rfl))
  | ((with_reducible refine' en_nx ?qa ?_); (case qa => exact rfl))
  | with_reducible apply x_call
  | with_reducible refine x_ofV (fa := fC _) ?_
  | with_reducible refine x_ofV (fa := fOp _ _ _) ?_
  | with_reducible refine x_ofV (fa := fUn _ _) ?_
  | with_reducible refine x_ofV (fa := fCB _ _) ?_
  | with_reducible refine x_ofV (fa := fTup _) ?_
  | with_reducible refine x_ofV (fa := fLst _) ?_
  | with_reducible refine x_ofV (fa := fBM _ _ _ _) ?_
  | with_reducible refine x_ofV (fa := fBM0 _ _ _) ?_
  | with_reducible refine x_ofV (fa := fLc _ _ _ _ _) ?_
  | with_reducible refine x_ofV (fa := fFld _ _ _) ?_
  | with_reducible refine x_ofV (fa := fProp _ _ _) ?_
  | with_reducible refine x_ofV (fa := fMake _ _ _) ?_
  | with_reducible refine x_ofV (fa := fMakeN _ _ _ _ _ _ _) ?_
  | with_reducible refine x_ofV (fa := fSl _ _ _) ?_
  | with_reducible refine x_ofV (fa := fJoined _) ?_
  | with_reducible refine x_ofV (fa := fAndV _ _) ?_
  | with_reducible refine x_ofV (fa := fOrV _ _) ?_
  | with_reducible refine x_ofV (fa := fNotV _) ?_
  | with_reducible refine x_ofV (fa := fIf _ _ _) ?_
  | with_reducible refine x_ofV (fa := fIxO _ _) ?_
  | with_reducible refine x_ofV (fa := fCMeth _ _ _) ?_
  | with_reducible refine x_ofV (fa := fCMethN _ _ _ _ _) ?_
  | with_reducible refine x_ofV (fa := fCallN _ _ _ _ _ _) ?_
  | with_reducible refine x_ofV (fa := fIsN _) ?_
  | with_reducible refine x_ofV (fa := fNotN _) ?_
  | with_reducible apply xl_nil
  | with_reducible refine xl_cons rfl ?_
  | (refine And.intro (show List.length _ ≤ 16777216 from by simp only [List.length_cons, List.length_nil]; decide) ?_)
  | (refine And.intro (show tyS _ = some _ from rfl) ?_)
  | (refine And.intro (show flat _ = true from rfl) ?_)
  | (refine And.intro (show List.length _ = _ from rfl) ?_)
  | (refine And.intro (show List.length _ < 16777216 from by simp only [List.length_cons, List.length_nil]; decide) ?_)
  | (refine And.intro (show List.map isOwn _ = List.map isOwn _ from rfl) ?_)
  | with_reducible apply tt_intro
  | with_reducible apply nt_intro
  | with_reducible apply nnf_intro
  | with_reducible apply nnt_intro
  | with_reducible apply nf_intro
  | with_reducible apply ff_intro
  | walk_at "set")
/-! ### what was heard -/
theorem xv_isC {tb : List (Str × Str × Bool)} {lv : List (Str × Str)} {c f x : Str} {i : Nat} {b : Bool} {Γ : EnvF} {Φ : D → EnvF → Prop} (e : Γ[i]? = some .exc) (hl : (c, f) ∈ lv) (hk : isX tb c x = some b) (p : Φ (.bl b) Γ) : X (fV (isC tb lv c f x i)) Γ Φ :=
  x_V ⟨.val (.bl b), Γ, by unfold isC atX; rw [e, if_pos ⟨hl, rfl⟩, hk]; rfl, p⟩
theorem xv_gvC {lv : List (Str × Str)} {c f : Str} {d : D} {i : Nat} {Γ : EnvF} {Φ : D → EnvF → Prop} (e : Γ[i]? = some .exc) (hl : (c, f) ∈ lv) (p : Φ d Γ) : X (fV (gvC lv c f f d i)) Γ Φ :=
  x_V ⟨.val d, Γ, by unfold gvC atX; rw [e, if_pos ⟨hl, rfl, rfl⟩], p⟩
theorem xa_gvC {lv : List (Str × Str)} {c f : Str} {d : D} {i : Nat} {Γ : EnvF} {Φ : Vr → EnvF → Prop} (e : Γ[i]? = some .exc) (hl : (c, f) ∈ lv) (p : Φ (.val d) Γ) : X (gvC lv c f f d i) Γ Φ :=
  ⟨.val d, Γ, by unfold gvC atX; rw [e, if_pos ⟨hl, rfl, rfl⟩], p⟩
def hear (c : Str) : Str := if c = Str.ofString "InvalidText" then "text" else "numbers"
theorem f_showQ {d z : D} (hi : isiD cs_ tb_ [d, .cls "Point"] = some (.bl false)) (hz : reprZ [d] = some z) : FQ_l_shown [.val d] = some (.ok (.val z) none) := by
  refine Fp.eq (f_def rfl ?_)
  show X _ [_] _
  unfold BQ_l_shown
  repeat' walk_at "x"
  refine e_isiD hi ?_
  repeat' walk_at "x"
  refine ⟨_, hz, ?_⟩
  repeat' walk_at "x"
  exact ⟨rfl, rfl⟩
theorem f_shownP {ns : List Int} (h : Sz ns) (hl : (page ns).length ≤ 10000) : F_l_shown [.val (pt ns)] = some (.ok (.val (.str (Str.ofString "point " ++ page ns))) none) := by
  refine Fp.eq (f_def rfl ?_)
  show X _ [_] _
  unfold B_l_shown
  repeat' walk_at "x"
  refine r_strI (f_str h) ?_
  refine r_addS (by rw [show (Str.ofString "point ").length = 6 from by decide +kernel]; omega) ?_
  repeat' walk_at "x"
  exact ⟨rfl, rfl⟩
theorem f_class {c : Str} {d z : D} (hc : c = Str.ofString "InvalidText" ∨ c = Str.ofString "InvalidNumbers") (hz : FQ_l_shown [.val d] = some (.ok (.val z) none)) : F_l_class c "given" d [.exc] = some (.ok (.val (.lst [.str (hear c), z])) none) := by
  have h1 : hear (Str.ofString "InvalidText") = Str.ofString "text" := by decide +kernel
  have h2 : hear (Str.ofString "InvalidNumbers") = Str.ofString "numbers" := by decide +kernel
  rcases hc with e | e <;> subst e <;> first | rw [h1] | rw [h2]
  all_goals
    refine Fp.eq (f_def rfl ?_)
    show X _ [_, _, _, _, _] _
    unfold B_l_class
    repeat' (first | walk_at "x" | refine xv_isC (b := true) rfl (by decide +kernel) rfl ?_ | refine xv_isC (b := false) rfl (by decide +kernel) rfl ?_ | refine xv_isCT (b := true) rfl (by decide +kernel) rfl ?_ | refine xv_isCT (b := false) rfl (by decide +kernel) rfl ?_ | refine xv_gvC rfl (by decide +kernel) ?_ | refine xa_gvC rfl (by decide +kernel) ?_ | refine ⟨.bl false, (by rfl : neD _ _ = some (.bl false)), ?_⟩ | refine ⟨.int 1, (by rfl : lcountD _ _ = some (.int 1)), ?_⟩ | refine ⟨.int 0, (by rfl : indexD _ _ = some (.int 0)), ?_⟩ | refine ⟨.int 1, (by rfl : indexD _ _ = some (.int 1)), ?_⟩ | refine r_addL (Nat.le_of_ble_eq_true rfl) ?_ | refine x_callF rfl (fp_of hz ?_))
    all_goals first | (exfalso; omega) | exact ⟨rfl, rfl⟩
theorem try_ex {c : Str} {d d' : D} {Γ0 : EnvF} (hc : c = Str.ofString "InvalidText" ∨ c = Str.ofString "InvalidNumbers") (hw : F_l_class c "given" d [.exc] = some (.ok (.val d') none)) :
    ∃ Γ', B_l_heard (fAct 3 (some (.ex c "given" d Γ0))) (.exc :: List.replicate (3 - 1) .no) = some (.ok (.rt (.val d')) Γ') := by
  have e1 : fCallX (F_l_class c "given" d) 2 [.no, .no, .exc] = some (.ok (.val d') [.no, .no, .exc]) := by
    unfold fCallX
    rw [if_pos (show atX 2 [.no, .no, .exc] = true from rfl), hw]
  have e2 : (fRet (fCallX (F_l_class c "given" d) 2)) [.no, .no, .exc] = some (.ok (.rt (.val d')) [.no, .no, .exc]) := by
    unfold fRet FM.bind
    rw [e1]
  have e3 : handF xt_ ((["WrongValue", "WrongName", "NotPossible"], 2, fun c f d => (fRet (fCallX (F_l_class c f d) 2))) :: []) c "given" d [.no, .no, .no] = some (.ok (.rt (.val d')) [.no, .no, .no]) := by
    unfold handF
    have ei : isXs xt_ c ["WrongValue", "WrongName", "NotPossible"] = some [true, false, false] := by rcases hc with e | e <;> subst e <;> rfl
    rw [ei]
    show (match (fRet (fCallX (F_l_class c "given" d) 2)) [.no, .no, .exc] with
      | some (Rt.ok (Fl.rt v) Γ') => some (Rt.ok (Fl.rt v) (Γ'.map unX))
      | some (Rt.ok fl Γ') => some (Rt.ok fl ((Γ'.map unX).set 2 .no))
      | _ => none) = _
    rw [e2]
    rfl
  refine ⟨[.no, .no, .no], ?_⟩
  have e4 : fTry xt_ ((["WrongValue", "WrongName", "NotPossible"], 2, fun c f d => (fRet (fCallX (F_l_class c f d) 2))) :: []) (fAsg 1 (fAct 3 (some (.ex c "given" d Γ0)))) (.exc :: List.replicate (3 - 1) .no) = some (.ok (.rt (.val d')) [.no, .no, .no]) := e3
  unfold B_l_heard fSeq FM.bind
  rw [e4]
  rfl
theorem try_ok {d z : D} {Γ0 : EnvF} (hz : F_l_shown [.val d] = some (.ok (.val z) none)) : ∃ Γ', B_l_heard (fAct 3 (some (.ok (.val d) Γ0))) (.exc :: List.replicate (3 - 1) .no) = some (.ok (.rt (.val (.lst [.str "gave", z]))) Γ') := by
  have h : X (B_l_heard (fAct 3 (some (.ok (.val d) Γ0)))) [.exc, .no, .no] fun v Γ' => v = .rt (.val (.lst [.str "gave", z])) := by
    unfold B_l_heard
    refine x_seq ?_
    refine ⟨.nx, [.exc, .val d, .no], rfl, ?_⟩
    repeat' walk_at "x"
    refine x_callF rfl (fp_of hz ?_)
    repeat' walk_at "x"
    rfl
  obtain ⟨v, Γ', e, rfl⟩ := h
  exact ⟨Γ', e⟩
theorem xv_heard {e : FE} {Γ : EnvF} {c : Str} {d z : D} {Φ : D → EnvF → Prop} (hc : c = Str.ofString "InvalidText" ∨ c = Str.ofString "InvalidNumbers") (hz : FQ_l_shown [.val d] = some (.ok (.val z) none))
    (he : Er e (Γ.map hideO) c "given" d) (p : Φ (.lst [.str (hear c), z]) Γ) : X (fV (fLam B_l_heard 3 e)) Γ Φ := by
  obtain ⟨Γ0, he⟩ := he
  obtain ⟨Γ', h⟩ := try_ex (Γ0 := Γ0) hc (f_class hc hz)
  exact xv_lam _ he ⟨_, Γ', h, p⟩
theorem xv_gave {e : FE} {Γ : EnvF} {d z : D} {Φ : D → EnvF → Prop} (hz : F_l_shown [.val d] = some (.ok (.val z) none)) (he : X e (Γ.map hideO) fun v _ => v = .val d) (p : Φ (.lst [.str "gave", z]) Γ) : X (fV (fLam B_l_heard 3 e)) Γ Φ := by
  obtain ⟨v, Γ0, h, rfl⟩ := he
  obtain ⟨Γ', h2⟩ := try_ok (Γ0 := Γ0) hz
  exact xv_lam _ h ⟨_, Γ', h2, p⟩
end Kq

set_option linter.all false
set_option maxRecDepth 100000
set_option maxHeartbeats 4000000
namespace Kq
open PySem PySem.Spec PyProof.Rows L2 DF TL NumText
variable [TbC]
theorem odd_ok {d : D} (h : d ∈ [D.non, .int 5, .str "3", .lst [.int 3, .int (-4)], .tup [], .tup [.int 1, .int 2, .int 3, .int 4], .tup [.bl true], .tup [.int 1, .non], .tup [.int 1, .str "2"], .tup [.tup [.int 1]], .tup [.int 0, .bl false], .dct [], .tup [.int 1, .lst [.int 2]]]) :
    FE_Point_init [.own 1 (.ins "Point" []), .val d] = some (.ex "InvalidNumbers" "given" d (some (.ins "Point" []))) ∧ isiD cs_ tb_ [d, .cls "Point"] = some (.bl false) ∧ ∃ rb : Str, reprZ [d] = some (.str rb) ∧ ∀ c ∈ tl rb, c < 1114112 := by
  simp only [List.mem_cons, List.not_mem_nil, or_false] at h
  rcases h with e | e | e | e | e | e | e | e | e | e | e | e | e <;> subst e
  · exact ⟨by kernel_rfl, by kernel_rfl, "None", by kernel_rfl, by decide +kernel⟩
  · exact ⟨by kernel_rfl, by kernel_rfl, "5", by kernel_rfl, by decide +kernel⟩
  · exact ⟨by kernel_rfl, by kernel_rfl, "'3'", by kernel_rfl, by decide +kernel⟩
  · exact ⟨by kernel_rfl, by kernel_rfl, "[3, -4]", by kernel_rfl, by decide +kernel⟩
  · exact ⟨by kernel_rfl, by kernel_rfl, "()", by kernel_rfl, by decide +kernel⟩
  · exact ⟨by kernel_rfl, by kernel_rfl, "(1, 2, 3, 4)", by kernel_rfl, by decide +kernel⟩
  · exact ⟨by kernel_rfl, by kernel_rfl, "(True,)", by kernel_rfl, by decide +kernel⟩
  · exact ⟨by kernel_rfl, by kernel_rfl, "(1, None)", by kernel_rfl, by decide +kernel⟩
  · exact ⟨by kernel_rfl, by kernel_rfl, "(1, '2')", by kernel_rfl, by decide +kernel⟩
  · exact ⟨by kernel_rfl, by kernel_rfl, "((1,),)", by kernel_rfl, by decide +kernel⟩
  · exact ⟨by kernel_rfl, by kernel_rfl, "(0, False)", by kernel_rfl, by decide +kernel⟩
  · exact ⟨by kernel_rfl, by kernel_rfl, "{}", by kernel_rfl, by decide +kernel⟩
  · exact ⟨by kernel_rfl, by kernel_rfl, "(1, [2])", by kernel_rfl, by decide +kernel⟩
theorem bad_ok {d : D} (h : d ∈ [D.non, .int 5, .bl true, .tup [.str "grid 1 5"], .lst [.str "grid 1 5"], .str "", .str "grid", .str "grid 0", .str "grid 1 5\n", .dct [], .str "grid 4 1 2 3 4"] ++ [D.str "ruler + 5"]) :
    FE_Point_read [.val (.cls "Point"), .val d] = some (.ex "InvalidText" "given" d none) ∧ isiD cs_ tb_ [d, .cls "Point"] = some (.bl false) ∧ ∃ rb : Str, reprZ [d] = some (.str rb) ∧ ∀ c ∈ tl rb, c < 1114112 := by
  simp only [List.cons_append, List.nil_append, List.mem_cons, List.not_mem_nil, or_false] at h
  rcases h with e | e | e | e | e | e | e | e | e | e | e | e <;> subst e
  · exact ⟨by kernel_rfl, by kernel_rfl, "None", by kernel_rfl, by decide +kernel⟩
  · exact ⟨by kernel_rfl, by kernel_rfl, "5", by kernel_rfl, by decide +kernel⟩
  · exact ⟨by kernel_rfl, by kernel_rfl, "True", by kernel_rfl, by decide +kernel⟩
  · exact ⟨by kernel_rfl, by kernel_rfl, "('grid 1 5',)", by kernel_rfl, by decide +kernel⟩
  · exact ⟨by kernel_rfl, by kernel_rfl, "['grid 1 5']", by kernel_rfl, by decide +kernel⟩
  · exact ⟨by kernel_rfl, by kernel_rfl, "''", by kernel_rfl, by decide +kernel⟩
  · exact ⟨by kernel_rfl, by kernel_rfl, "'grid'", by kernel_rfl, by decide +kernel⟩
  · exact ⟨by kernel_rfl, by kernel_rfl, "'grid 0'", by kernel_rfl, by decide +kernel⟩
  · exact ⟨by kernel_rfl, by kernel_rfl, "'grid 1 5\\n'", by kernel_rfl, by decide +kernel⟩
  · exact ⟨by kernel_rfl, by kernel_rfl, "{}", by kernel_rfl, by decide +kernel⟩
  · exact ⟨by kernel_rfl, by kernel_rfl, "'grid 4 1 2 3 4'", by kernel_rfl, by decide +kernel⟩
  · exact ⟨by kernel_rfl, by kernel_rfl, "'ruler + 5'", by kernel_rfl, by decide +kernel⟩
end Kq

set_option linter.all false
set_option maxRecDepth 100000
set_option maxHeartbeats 4000000
namespace Kq
open PySem PySem.Spec PyProof.Rows L2 DF TL NumText
variable [TbC]
/-! ### one step -/
local macro_rules | `(tactic| walk_at "set") => `(tactic| (refine' e_set ?qa ?_; (case qa => (simp only [wipeF, backF, List.set, List.getD_cons_succ, List.getD_cons_zero, Int.reduceToNat]; rfl))))
local macro_rules | `(tactic| walk_at "cnd") => `(tactic| first | assumption | decide | omega)
local macro_rules | `(tactic| walk_at "mul") => `(tactic| first | exact mulOk_r (by decide) (by decide) | exact mulOk_l (by decide) (by decide) | exact mulOk_l (by omega) (by omega) | exact mulOk_r (by omega) (by omega))
local macro_rules | `(tactic| walk_at "x") => `(tactic| first
  | with_reducible apply x_seq
  | with_reducible apply k_nx
  | with_reducible apply k_rt
  | with_reducible apply x_nx
  | with_reducible refine x_asgK (fa := fLstO _) ?_
  | with_reducible refine x_asgK (fa := fLcO _ _ _ _ _) ?_
  | with_reducible apply ak_own
  | with_reducible apply ak_val
  | with_reducible apply x_asg
  | with_reducible refine x_retK (fa := fLstO _) ?_
  | with_reducible apply rk_own
  | with_reducible apply x_ret
  | with_reducible apply x_ifS
  | with_reducible apply x_asgG
  | with_reducible apply x_drop
  | with_reducible apply x_par
  | with_reducible apply x_par3
  | with_reducible apply x_asg3
  | with_reducible apply x_for
  | with_reducible refine x_aug ⟨_, rfl, ?_⟩
  | with_reducible apply xv_c
  | (with_reducible refine xv_var rfl ?_)
  | (with_reducible refine x_varV rfl ?_)
  | (with_reducible refine x_varO rfl ?_)
  | with_reducible apply xv_op
  | with_reducible apply xv_un
  | with_reducible apply xv_cb
  | with_reducible apply xs_nil
  | with_reducible apply xs_cons
  | with_reducible apply xa_nil
  | with_reducible apply xa_cons
  | with_reducible apply xv_tup
  | with_reducible apply xv_lst
  | with_reducible apply x_lstO
  | with_reducible apply xv_if
  | with_reducible apply xv_andV
  | with_reducible apply xv_orV
  | with_reducible apply xv_notV
  | with_reducible apply xv_isN
  | with_reducible apply xv_notN
  | with_reducible apply xt_test
  | with_reducible apply xt_tru
  | with_reducible apply xt_not
  | with_reducible apply xt_and
  | with_reducible apply xt_or
  | with_reducible apply xt_yes
  | with_reducible apply xv_call
  | with_reducible apply xv_callN
  | with_reducible apply xv_cmeth
  | with_reducible apply xv_cmethN
  | with_reducible apply xv_fld
  | with_reducible apply xv_prop
  | with_reducible apply x_setF
  | with_reducible apply xv_make
  | with_reducible apply xv_makeN
  | (with_reducible refine xv_makeL rfl ?_)
  | with_reducible apply xg_name
  | with_reducible apply xg_nil
  | with_reducible apply xg_cons
  | (with_reducible refine xg_tup rfl ?_)
  | (with_reducible refine xg_unl rfl ?_)
  | (with_reducible refine xg_sub rfl ?_)
  | (with_reducible refine xv_ixO rfl ?_)
  | ((with_reducible refine' xv_pk ?qa ?_); (case qa => (simp only [List.map, seeO, odD]; rfl)))
  | ((with_reducible refine' xt_pk ?qa ?_); (case qa => (simp only [List.map, seeO, odD]; rfl)))
  | with_reducible apply xv_bm
  | with_reducible apply xv_bm0
  | with_reducible apply xv_sl
  | with_reducible apply xo_no
  | with_reducible apply xo_some
  | with_reducible apply xv_revS
  | with_reducible apply xv_revL
  | with_reducible apply xv_fmt
  | with_reducible apply xw_any
  | with_reducible apply xw_rng1
  | with_reducible apply xw_rng2
  | with_reducible apply xv_lc
  | with_reducible apply vk_val
  | with_reducible apply bk_none
  | with_reducible apply bk_tmp
  | (with_reducible refine bk_slot rfl ?_)
  | with_reducible apply rk_val
  | with_reducible apply fk_nx
  | with_reducible apply fk_rt
  | ((with_reducible refine' e_par ?qa ?_); (case qa => (simp only [List.set]; rfl)))
  | ((with_reducible refine' e_par3 ?qa ?_); (case qa => (simp only [List.set]; rfl)))
  | ((with_reducible refine' e_ixO ?qa ?qb ?_); (case qa => exact rfl); (case qb => exact rfl))
  | ((with_reducible refine' e_sub ?qa ?qb ?qc ?_); (case qa => exact rfl); (case qb => exact rfl); (case qc => (simp only [List.set, Int.reduceToNat]; rfl)))
  | ((with_reducible refine' e_setF ?qa ?qb ?qc ?_); (case qa => exact rfl); (case qb => (simp only [List.length_cons, List.length_nil]; decide)); (case qc => (simp only [List.set, Int.reduceToNat]; rfl)))
  | ((with_reducible refine' e_fields ?qa ?qb ?_); (case qa => exact rfl); (case qb => exact rfl))
  | ((with_reducible refine' e_has ?qa ?_); (case qa => exact rfl))
  | with_reducible apply r_addI
  | with_reducible apply r_sub
  | with_reducible apply r_lt
  | with_reducible apply r_gt
  | with_reducible apply r_le
  | with_reducible apply r_ge
  | with_reducible apply r_int
  | with_reducible apply r_intB
  | with_reducible apply r_abs
  | with_reducible refine r_dec2 (fun h => ?_) (fun h => ?_)
  | with_reducible refine r_decN2 (fun h => ?_) (fun h => ?_)
  | with_reducible refine r_decM2 (fun h => ?_) (fun h => ?_)
  | with_reducible apply r_bool
  | with_reducible apply r_truB
  | with_reducible apply r_len
  | with_reducible apply r_lenS
  | with_reducible apply r_orEqS
  | with_reducible apply r_orNeS
  | with_reducible apply r_orEqI
  | with_reducible apply r_orNeI
  | with_reducible apply xv_joined
  | with_reducible apply xj_cons
  | with_reducible apply xj_nil
  | with_reducible apply r_eqI
  | with_reducible apply r_neI
  | with_reducible apply r_eqS
  | with_reducible apply r_neS
  | ((with_reducible refine' e_addD ?qa ?_); (case qa => exact rfl))
  | ((with_reducible refine' e_subD ?qa ?_); (case qa => exact rfl))
  | ((with_reducible refine' r_mul ?qa ?_); (case qa => walk_at "mul"))
  | ((with_reducible refine' r_mod ?qa ?_); (case qa => walk_at "cnd"))
  | ((with_reducible refine' r_fdiv ?qa ?qb ?_); (case qa => walk_at "cnd"); (case qb => walk_at "cnd"))
  | ((with_reducible refine' r_divmod ?qa ?qb ?_); (case qa => walk_at "cnd"); (case qb => walk_at "cnd"))
  | ((with_reducible refine' e_ltD ?qa ?_); (case qa => exact rfl))
  | ((with_reducible refine' e_leD ?qa ?_); (case qa => exact rfl))
  | ((with_reducible refine' e_gtD ?qa ?_); (case qa => exact rfl))
  | ((with_reducible refine' e_geD ?qa ?_); (case qa => exact rfl))
  | ((with_reducible refine' e_negD ?qa ?_); (case qa => exact rfl))
  | ((with_reducible refine' e_ixD ?qa ?_); (case qa => exact rfl))
  | ((with_reducible refine' e_intD ?qa ?_); (case qa => exact rfl))
  | ((with_reducible refine' e_absD ?qa ?_); (case qa => exact rfl))
  | ((with_reducible refine' e_intOf ?qa ?_); (case qa => exact rfl))
  | ((with_reducible refine' e_tupOf ?qa ?_); (case qa => exact rfl))
  | ((with_reducible refine' e_lstOf ?qa ?_); (case qa => exact rfl))
  | ((with_reducible refine' e2_boolOf ?qa ?_ ?_); (case qa => exact rfl))
  | ((with_reducible refine' e_boolOf ?qa ?_); (case qa => exact rfl))
  | ((with_reducible refine' e_truD ?qa ?_); (case qa => exact rfl))
  | ((with_reducible refine' e_itemsOf ?qa ?_); (case qa => exact rfl))
  | ((with_reducible refine' e_slD ?qa ?_); (case qa => exact rfl))
  | ((with_reducible refine' e_isiD ?qa ?_); (case qa => exact rfl))
  | ((with_reducible refine' e_boolI ?qa ?_); (case qa => exact rfl))
  | ((with_reducible refine' e_rng ?qa ?_); (case qa => exact ⟨by omega, by omega⟩))
  | with_reducible apply e_some
  | with_reducible apply e_str
  | with_reducible apply e_rev
  | ((with_reducible refine' en_val ?qa ?_); (case qa => exact rfl))
  | ((with_reducible refine' en_own ?qa ?_); (case qa => exact rfl))
  | ((with_reducible refine' en_nx ?qa ?_); (case qa => exact rfl))
  | with_reducible apply x_call
  | with_reducible refine x_ofV (fa := fC _) ?_
  | with_reducible refine x_ofV (fa := fOp _ _ _) ?_
  | with_reducible refine x_ofV (fa := fUn _ _) ?_
  | with_reducible refine x_ofV (fa := fCB _ _) ?_
  | with_reducible refine x_ofV (fa := fTup _) ?_
  | with_reducible refine x_ofV (fa := fLst _) ?_
  | with_reducible refine x_ofV (fa := fBM _ _ _ _) ?_
  | with_reducible refine x_ofV (fa := fBM0 _ _ _) ?_
  | with_reducible refine x_ofV (fa := fLc _ _ _ _ _) ?_
  | with_reducible refine x_ofV (fa := fFld _ _ _) ?_
  | with_reducible refine x_ofV (fa := fProp _ _ _) ?_
  | with_reducible refine x_ofV (fa := fMake _ _ _) ?_
  | with_reducible refine x_ofV (fa := fMakeN _ _ _ _ _ _ _) ?_
  | with_reducible refine x_ofV (fa := fSl _ _ _) ?_
  | with_reducible refine x_ofV (fa := fJoined _) ?_
  | with_reducible refine x_ofV (fa := fAndV _ _) ?_
  | with_reducible refine x_ofV (fa := fOrV _ _) ?_
  | with_reducible refine x_ofV (fa := fNotV _) ?_
  | with_reducible refine x_ofV (fa := fIf _ _ _) ?_
  | with_reducible refine x_ofV (fa := fIxO _ _) ?_
  | with_reducible refine x_ofV (fa := fCMeth _ _ _) ?_
  | with_reducible refine x_ofV (fa := fCMethN _ _ _ _ _) ?_
  | with_reducible refine x_ofV (fa := fCallN _ _ _ _ _ _) ?_
  | with_reducible refine x_ofV (fa := fIsN _) ?_
  | with_reducible refine x_ofV (fa := fNotN _) ?_
  | with_reducible apply xl_nil
  | with_reducible refine xl_cons rfl ?_
  | (refine And.intro (show List.length _ ≤ 16777216 from by simp only [List.length_cons, List.length_nil]; decide) ?_)
  | (refine And.intro (show tyS _ = some _ from rfl) ?_)
  | (refine And.intro (show flat _ = true from rfl) ?_)
  | (refine And.intro (show List.length _ = _ from rfl) ?_)
  | (refine And.intro (show List.length _ < 16777216 from by simp only [List.length_cons, List.length_nil]; decide) ?_)
  | (refine And.intro (show List.map isOwn _ = List.map isOwn _ from rfl) ?_)
  | with_reducible apply tt_intro
  | with_reducible apply nt_intro
  | with_reducible apply nnf_intro
  | with_reducible apply nnt_intro
  | with_reducible apply nf_intro
  | with_reducible apply ff_intro
  | walk_at "set")
theorem one_arg {Γ : EnvF} {fa : FE} {x : D} (ea : fV fa Γ = some (.ok x Γ)) : fVs (fCons fa fNil) Γ = some (.ok [x] Γ) := by
  obtain ⟨v, g, e, e1, e2⟩ : X (fVs (fCons fa fNil)) Γ fun v g => v = [x] ∧ g = Γ := xs_cons ⟨x, Γ, ea, xs_nil ⟨rfl, rfl⟩⟩
  subst e1 e2
  exact e
theorem mk1_ex {c : Str} {Γ : EnvF} {fa : FE} {x d : D} {o : Option OD} (ea : fV fa Γ = some (.ok x Γ)) (h : FE_Point_init [.own 1 (.ins "Point" []), .val x] = some (.ex c "given" d o)) :
    Er (fMake "Point" FE_Point_init (fCons fa fNil)) Γ c "given" d := by
  refine ⟨Γ, ?_⟩
  unfold fMake FM.bind
  rw [one_arg ea]
  show (match FE_Point_init [.own 1 (.ins "Point" []), .val x] with
    | some (RF.ok (Vr.val D.non) (some (OD.ins c gs))) => FM.pure (Vr.val (D.ins c gs))
    | some (RF.ex c f d _) => fun Γ => some (Rt.ex c f d Γ)
    | _ => fFail) Γ = _
  rw [h]
theorem mkN_ex {c : Str} {Γ : EnvF} {fa : FE} {x d : D} {o : Option OD} (ea : fV fa Γ = some (.ok x Γ)) (h : FE_Point_init [.own 1 (.ins "Point" []), .val x] = some (.ex c "given" d o)) :
    Er (fMakeN "Point" FE_Point_init 0 1 [0] fNil (fCons fa fNil)) Γ c "given" d := by
  refine ⟨Γ, ?_⟩
  have e1 : (FM.bind (fVs fNil) fun vs => FM.bind (fVs (fCons fa fNil)) fun xs => FM.pure (vs, xs)) Γ = some (.ok ([], [x]) Γ) := by
    show FM.bind (fVs (fCons fa fNil)) (fun xs => FM.pure ([], xs)) Γ = _
    unfold FM.bind
    rw [one_arg ea]
    rfl
  unfold fMakeN
  generalize (FM.bind (fVs fNil) fun vs => FM.bind (fVs (fCons fa fNil)) fun xs => FM.pure (vs, xs)) = ff at e1 ⊢
  unfold FM.bind
  rw [e1]
  show (match FE_Point_init [.own 1 (.ins "Point" []), .val x] with
    | some (RF.ok (Vr.val D.non) (some (OD.ins c gs))) => FM.pure (Vr.val (D.ins c gs))
    | some (RF.ex c f d _) => fun Γ => some (Rt.ex c f d Γ)
    | _ => fFail) Γ = _
  rw [h]
theorem call_ex {Γ : EnvF} {x d : D} {c : Str} {o : Option OD} (h : FE_Point_read [.val (.cls "Point"), .val x] = some (.ex c "given" d o)) : callF FE_Point_read [.val (.cls "Point"), .val x] Γ = some (.ex c "given" d Γ) := by
  unfold callF
  show (match FE_Point_read [.val (.cls "Point"), .val x] with
    | some (RF.ok v o) => (putBack .none o Γ).map fun Γ' => Rt.ok v Γ'
    | some (RF.ex c f d o) => (putBack .none o Γ).map fun Γ' => Rt.ex c f d Γ'
    | none => none) = _
  rw [h]
  rfl
theorem arg1 {Γ : EnvF} {fa : FE} {x : D} (ea : fa Γ = some (.ok (.val x) Γ)) : (fCons fa fNil) Γ = some (.ok [.val x] Γ) := by
  unfold fCons FM.bind
  rw [ea]
  rfl
theorem rd_ex {Γ : EnvF} {fa : FE} {x d : D} {c : Str} {o : Option OD} (ea : fa Γ = some (.ok (.val x) Γ)) (h : FE_Point_read [.val (.cls "Point"), .val x] = some (.ex c "given" d o)) : Er (fCMeth "Point" FE_Point_read (fCons fa fNil)) Γ c "given" d := by
  refine ⟨Γ, ?_⟩
  unfold fCMeth FM.bind
  rw [arg1 ea]
  exact call_ex h
theorem rdN_ex {Γ : EnvF} {fa : FE} {x d : D} {c : Str} {o : Option OD} (ea : fa Γ = some (.ok (.val x) Γ)) (h : FE_Point_read [.val (.cls "Point"), .val x] = some (.ex c "given" d o)) : Er (fCMethN "Point" FE_Point_read 1 [0, 1] (fCons fa fNil)) Γ c "given" d := by
  refine ⟨Γ, ?_⟩
  unfold fCMethN FM.bind
  rw [arg1 ea]
  exact call_ex h
theorem mul_n {x : D} {k : Int} (h0 : 0 ≤ k) (h1 : k ≤ 1000) : mulD (.lst [x]) (.int k) = some (.lst (List.replicate k.toNat x)) := by
  show (if 0 ≤ k ∧ k ≤ 1000000 ∧ [x].length * k.toNat ≤ 16777216 then some (D.lst (List.replicate k.toNat [x]).flatten) else none) = _
  rw [if_pos ⟨h0, by omega, by simp; omega⟩]
  congr 2
  induction k.toNat with
  | zero => rfl
  | succ n ih => rw [List.replicate_succ, List.flatten_cons, ih, List.replicate_succ]; rfl
theorem p_refused {n a b c : Int} {Φ : Vr → Option OD → Prop} (h : RO n a b c) (hn : n ≤ 10 ^ 14)
    (k : ∀ a b c, RO (n + 3) a b c → Φ (.val (.bl true)) (some (rl a b c))) : Fp F_l_refused_right [.own 1 (rl a b c)] Φ := by
  have hs : hear (Str.ofString "InvalidNumbers") = Str.ofString "numbers" := by decide +kernel
  have ht : hear (Str.ofString "InvalidText") = Str.ofString "text" := by decide +kernel
  have cs : ∀ c ∈ tl (Str.ofString "numbers"), c < 1114112 := by decide +kernel
  have ct : ∀ c ∈ tl (Str.ofString "text"), c < 1114112 := by decide +kernel
  refine f_def rfl ?_
  show X _ [_, _, _, _, _] _
  unfold B_l_refused_right
  repeat' walk_at "x"
  refine x_callF rfl ?_
  refine p_list h (by omega) (Nat.lt_of_sub_eq_succ rfl) (Nat.le_of_ble_eq_true rfl) fun odd a b c hd h => ?_
  obtain ⟨xo, io, ro, zo, co⟩ := odd_ok hd
  repeat' walk_at "x"
  refine xv_heard (.inr rfl) (f_showQ io zo) (mk1_ex rfl xo) ?_
  rw [hs]
  repeat' walk_at "x"
  refine xv_append rfl (xv_heard (.inr rfl) (f_showQ io zo) (mkN_ex rfl xo) ?_)
  rw [hs]
  refine ⟨_, _, _, rfl, Nat.le_of_ble_eq_true rfl, rfl, ?_⟩
  simp only [List.set, List.cons_append, List.nil_append]
  repeat' walk_at "x"
  refine x_callF rfl ?_
  refine p_list h (by omega) (Nat.lt_of_sub_eq_succ rfl) (Nat.le_of_ble_eq_true rfl) fun bad a b c hd h => ?_
  obtain ⟨xb, ib, rb, zb, cb⟩ := bad_ok hd
  repeat' walk_at "x"
  refine xv_append rfl (xv_heard (.inl rfl) (f_showQ ib zb) (rd_ex rfl xb) ?_)
  rw [ht]
  refine ⟨_, _, _, rfl, Nat.le_of_ble_eq_true rfl, rfl, ?_⟩
  simp only [List.set, List.cons_append, List.nil_append]
  repeat' walk_at "x"
  refine xv_append rfl (xv_heard (.inl rfl) (f_showQ ib zb) (rdN_ex rfl xb) ?_)
  rw [ht]
  refine ⟨_, _, _, rfl, Nat.le_of_ble_eq_true rfl, rfl, ?_⟩
  simp only [List.set, List.cons_append, List.nil_append]
  repeat' walk_at "x"
  refine ⟨_, zo, ?_⟩
  repeat' walk_at "x"
  refine e_mulD (mul_n (by decide) (by decide)) ?_
  repeat' walk_at "x"
  refine ⟨_, zb, ?_⟩
  repeat' walk_at "x"
  refine e_mulD (mul_n (by decide) (by decide)) ?_
  repeat' walk_at "x"
  refine r_eqSelf (x := .lst [.lst [.str "numbers", .str ro], .lst [.str "numbers", .str ro], .lst [.str "text", .str rb], .lst [.str "text", .str rb]]) ⟨⟨cs, co, trivial⟩, ⟨cs, co, trivial⟩, ⟨ct, cb, trivial⟩, ⟨ct, cb, trivial⟩, trivial⟩ (Nat.le_of_ble_eq_true rfl) ?_
  repeat' walk_at "x"
  exact k _ _ _ (h.up (by omega))
end Kq

set_option linter.all false
set_option maxRecDepth 100000
set_option maxHeartbeats 4000000
namespace Kq
open PySem PySem.Spec PyProof.Rows L2 DF TL NumText
variable [TbC]
/-! ### shown texts are of proper signs -/
theorem chr_ok (c : Char) : c.toNat < 1114112 := by
  have := c.valid
  unfold Char.toNat
  rcases this with h | h
  · have : c.val.toNat < 0xd800 := h
    omega
  · have : c.val.toNat < 0x110000 := h.2
    omega
theorem ofs_ok (s : String) : ∀ c ∈ tl (Str.ofString s), c < 1114112 := fun c hc => by
  rw [tl_ofString] at hc
  obtain ⟨x, _, e⟩ := List.mem_map.mp hc
  subst e
  exact chr_ok x
theorem rc_ok {q c : Nat} (hq : q < 1114112) (hc : c < 1114112) : ∀ x ∈ Builtin.Str.reprChar q c, x < 1114112 := by
  have hx : ∀ w, ∀ x ∈ (List.replicate (w - ((Nat.toDigits 16 c).map Char.toNat).length) 48 ++ (Nat.toDigits 16 c).map Char.toNat), x < 1114112 := fun w x h => by
    rcases List.mem_append.mp h with h | h
    · rw [(List.mem_replicate.mp h).2]; decide
    · obtain ⟨y, _, e⟩ := List.mem_map.mp h
      subst e
      exact chr_ok y
  unfold Builtin.Str.reprChar
  dsimp only
  repeat' split
  all_goals
    intro x h
    simp only [List.cons_append, List.nil_append, List.mem_cons, List.not_mem_nil, or_false] at h
    first
      | omega
      | (rcases h with h | h | h
         · omega
         · omega
         · exact hx _ x h)
theorem fold_ok {q : Nat} (hq : q < 1114112) : ∀ (l : List Nat) (acc : Array Nat), (∀ x ∈ acc.toList, x < 1114112) → (∀ c ∈ l, c < 1114112) → ∀ x ∈ (l.foldl (fun out c => out ++ (Builtin.Str.reprChar q c).toArray) acc).toList, x < 1114112
  | [], acc, h, _ => h
  | c :: l, acc, h, hl => by
    rw [List.foldl_cons]
    refine fold_ok hq l _ (fun x hx => ?_) fun d hd => hl d (List.mem_cons_of_mem _ hd)
    rw [Array.toList_append] at hx
    rcases List.mem_append.mp hx with hx | hx
    · exact h x hx
    · exact rc_ok hq (hl c List.mem_cons_self) x hx
theorem rt_ok {z : Str} (h : ∀ c ∈ tl z, c < 1114112) : ∀ c ∈ tl (reprText z), c < 1114112 := by
  have hq : reprQuote z < 1114112 := by unfold reprQuote; split <;> decide
  intro c hc
  unfold reprText at hc
  have hc : c ∈ ((z.cps.foldl (fun out c => out ++ (Builtin.Str.reprChar (reprQuote z) c).toArray) #[reprQuote z]).push (reprQuote z)).toList := hc
  rw [Array.toList_push, ← Array.foldl_toList] at hc
  rcases List.mem_append.mp hc with hc | hc
  · refine fold_ok hq _ _ (fun x hx => ?_) h c hc
    have : x = reprQuote z := by simpa using hx
    rw [this]; exact hq
  · rw [List.mem_singleton.mp hc]; exact hq
theorem rt_len {z : Str} (h : ∀ c ∈ tl z, c < 1114112) : (reprText z).length ≤ 10 * z.length + 2 := StrLaws.reprText_len z fun c hc => Nat.lt_trans (h c hc) (by decide)
theorem repr_str {z : Str} (h : ∀ c ∈ tl z, c < 1114112) (hl : z.length ≤ 1000) : reprD [.str z] = some (.str (reprText z)) := by
  show (if (reprText z).length ≤ 16777216 then some (D.str (reprText z)) else none) = _
  rw [if_pos (by have := rt_len h; omega)]
theorem xv_lenI {ns : List Int} {Φ : D → Prop} (p : Φ (.int ns.length)) (h : ns.length ≤ 100) : ∃ z, lenI "Point" F_Point_len [pt ns] = some z ∧ Φ z := by
  refine ⟨.int ns.length, ?_, p⟩
  unfold lenI
  dsimp only
  rw [if_pos rfl, f_len]
  dsimp only
  rw [if_pos ⟨by omega, by omega⟩]
theorem xv_boolL {ns : List Int} {Φ : D → Prop} (p : Φ (.bl true)) (h : 1 ≤ ns.length ∧ ns.length ≤ 100) : ∃ z, boolL "Point" F_Point_len [pt ns] = some z ∧ Φ z := by
  refine ⟨.bl true, ?_, p⟩
  have e : ((ns.length : Int) != 0) = true := by
    rw [bne_iff_ne]
    omega
  unfold boolL
  dsimp only
  rw [if_pos rfl, f_len]
  dsimp only
  rw [if_pos ⟨by omega, by omega⟩, e]
theorem f_read {ns : List Int} (h : Fz ns) : F_Point_read [.val (.cls "Point"), .val (.str (page ns))] = some (.ok (.val (pt ns)) none) := (f_readZ (okz_page h) (Zr_page h.sz)).1
theorem f_eq1 {ns : List Int} (h : Sz ns) : F_Point_eq [.val (pt ns), .val (pt ns)] = some (.ok (.val (.bl true)) none) := by rw [f_eq h h, decide_eq_true rfl]
theorem f_eqN {ns ms : List Int} (h : Sz ns) (h2 : Sz ms) (e : ns ≠ ms) : F_Point_eq [.val (pt ns), .val (pt ms)] = some (.ok (.val (.bl false)) none) := by rw [f_eq h h2, decide_eq_false e]
theorem bigL_ints : ∀ ns : List Int, bigL (ns.map D.int) = 1923 * ns.length
  | [] => rfl
  | i :: ns => by
    rw [List.map_cons]
    show 1921 + 2 + bigL (ns.map D.int) = _
    rw [bigL_ints ns, List.length_cons]
    omega
theorem ne_head {i : Int} {r : List Int} : (i :: r) ≠ (i + 1) :: r := fun e => by
  injection e with e _
  omega
theorem cut_one_t {i : Int} {r : List Int} : DF.cutD ((i :: r).map D.int) (some 1) none = r.map D.int := by
  unfold DF.cutD
  rw [List.length_map]
  have e : HT.sIx (i :: r).length 0 (some 1) = 1 := by
    unfold HT.sIx
    simp
  rw [e]
  show ((r.map D.int).take _) = _
  refine List.take_of_length_le ?_
  rw [List.length_map]
  show r.length ≤ (r.length + 1) - 1
  omega
theorem cut_two_t {ns : List Int} (h : ns.length < 3) : DF.cutD (ns.map D.int) none (some 2) = ns.map D.int := by
  unfold DF.cutD
  rw [List.length_map]
  have e : HT.sIx ns.length ns.length (some 2) = ns.length := by
    unfold HT.sIx
    simp
    omega
  rw [e]
  show ((ns.map D.int).drop 0).take (ns.length - 0) = _
  rw [List.drop_zero, Nat.sub_zero, List.take_of_length_le (by simp)]
theorem ixT0 {a : D} {r : List D} : ixD (.tup (a :: r)) (.int 0) = some a := by
  show atI (a :: r) ((0 : Nat) : Int) = some a
  rw [DF.atI_nat]
  rfl
/-- something that is not this point -/
def Oth (ns : List Int) (d : D) : Prop := (∃ ms, d = pt ms ∧ Sz ms ∧ ns ≠ ms) ∨ d = .non
theorem oth_eq {ns : List Int} {d : D} {Φ : D → Prop} (h : Sz ns) (o : Oth ns d) (p : Φ (.bl false)) : ∃ z, orD eqD (eqI cs_ tb_ "Point" F_Point_eq false) (pt ns) d = some z ∧ Φ z := by
  rcases o with ⟨ms, e, h2, n⟩ | e <;> subst e
  · exact r_orIns rfl rfl (f_eqN h h2 n) p
  · exact r_orIns rfl rfl (f_eq0 (by rfl)) p
theorem oth_ne {ns : List Int} {d : D} {Φ : D → Prop} (h : Sz ns) (o : Oth ns d) (p : Φ (.bl true)) : ∃ z, orD neD (eqI cs_ tb_ "Point" F_Point_eq true) (pt ns) d = some z ∧ Φ z := by
  rcases o with ⟨ms, e, h2, n⟩ | e <;> subst e
  · exact r_orInsN rfl rfl (f_eqN h h2 n) p
  · exact r_orInsN rfl rfl (f_eq0 (by rfl)) p
end Kq

set_option linter.all false
set_option maxRecDepth 100000
set_option maxHeartbeats 1000000
namespace Kq
open PySem PySem.Spec PyProof.Rows L2 DF TL NumText
variable [TbC]
/-! ### one step -/
local macro_rules | `(tactic| walk_at "set") => `(tactic| (refine' e_set ?qa ?_; (case qa => (simp only [wipeF, backF, List.set, List.getD_cons_succ, List.getD_cons_zero, Int.reduceToNat]; rfl))))
local macro_rules | `(tactic| walk_at "cnd") => `(tactic| first | assumption | decide | omega)
local macro_rules | `(tactic| walk_at "mul") => `(tactic| first | exact mulOk_r (by decide) (by decide) | exact mulOk_l (by decide) (by decide) | exact mulOk_l (by omega) (by omega) | exact mulOk_r (by omega) (by omega))
local macro_rules | `(tactic| walk_at "x") => `(tactic| first
  | with_reducible apply x_seq
  | with_reducible apply k_nx
  | with_reducible apply k_rt
  | with_reducible apply x_nx
  | with_reducible refine x_asgK (fa := fLstO _) ?_
  | with_reducible refine x_asgK (fa := fLcO _ _ _ _ _) ?_
  | with_reducible apply ak_own
  | with_reducible apply ak_val
  | with_reducible apply x_asg
  | with_reducible refine x_retK (fa := fLstO _) ?_
  | with_reducible apply rk_own
  | with_reducible apply x_ret
  | with_reducible apply x_ifS
  | with_reducible apply x_asgG
  | with_reducible apply x_drop
  | with_reducible apply x_par
  | with_reducible apply x_par3
  | with_reducible apply x_asg3
  | with_reducible apply x_for
  | with_reducible refine x_aug ⟨_, rfl, ?_⟩
  | with_reducible apply xv_c
  | (with_reducible refine xv_var rfl ?_)
  | (with_reducible refine x_varV rfl ?_)
  | (with_reducible refine x_varO rfl ?_)
  | with_reducible apply xv_op
  | with_reducible apply xv_un
  | with_reducible apply xv_cb
  | with_reducible apply xs_nil
  | with_reducible apply xs_cons
  | with_reducible apply xa_nil
  | with_reducible apply xa_cons
  | with_reducible apply xv_tup
  | with_reducible apply xv_lst
  | with_reducible apply x_lstO
  | with_reducible apply xv_if
  | with_reducible apply xv_andV
  | with_reducible apply xv_orV
  | with_reducible apply xv_notV
  | with_reducible apply xv_isN
  | with_reducible apply xv_notN
  | with_reducible apply xt_test
  | with_reducible apply xt_tru
  | with_reducible apply xt_not
  | with_reducible apply xt_and
  | with_reducible apply xt_or
  | with_reducible apply xt_yes
  | with_reducible apply xv_call
  | with_reducible apply xv_callN
  | with_reducible apply xv_cmeth
  | with_reducible apply xv_cmethN
  | with_reducible apply xv_fld
  | with_reducible apply xv_prop
  | with_reducible apply x_setF
  | with_reducible apply xv_make
  | with_reducible apply xv_makeN
  | (with_reducible refine xv_makeL rfl ?_)
  | with_reducible apply xg_name
  | with_reducible apply xg_nil
  | with_reducible apply xg_cons
  | (with_reducible refine xg_tup rfl ?_)
  | (with_reducible refine xg_unl rfl ?_)
  | (with_reducible refine xg_sub rfl ?_)
  | (with_reducible refine xv_ixO rfl ?_)
  | ((with_reducible refine' xv_pk ?qa ?_); (case qa => (simp only [List.map, seeO, odD]; rfl)))
  | ((with_reducible refine' xt_pk ?qa ?_); (case qa => (simp only [List.map, seeO, odD]; rfl)))
  | with_reducible apply xv_bm
  | with_reducible apply xv_bm0
  | with_reducible apply xv_sl
  | with_reducible apply xo_no
  | with_reducible apply xo_some
  | with_reducible apply xv_revS
  | with_reducible apply xv_revL
  | with_reducible apply xv_fmt
  | with_reducible apply xw_any
  | with_reducible apply xw_rng1
  | with_reducible apply xw_rng2
  | with_reducible apply xv_lc
  | with_reducible apply vk_val
  | with_reducible apply bk_none
  | with_reducible apply bk_tmp
  | (with_reducible refine bk_slot rfl ?_)
  | with_reducible apply rk_val
  | with_reducible apply fk_nx
  | with_reducible apply fk_rt
  | ((with_reducible refine' e_par ?qa ?_); (case qa => (simp only [List.set]; rfl)))
  | ((with_reducible refine' e_par3 ?qa ?_); (case qa => (simp only [List.set]; rfl)))
  | ((with_reducible refine' e_ixO ?qa ?qb ?_); (case qa => exact rfl); (case qb => exact rfl))
  | ((with_reducible refine' e_sub ?qa ?qb ?qc ?_); (case qa => exact rfl); (case qb => exact rfl); (case qc => (simp only [List.set, Int.reduceToNat]; rfl)))
  | ((with_reducible refine' e_setF ?qa ?qb ?qc ?_); (case qa => exact rfl); (case qb => (simp only [List.length_cons, List.length_nil]; decide)); (case qc => (simp only [List.set, Int.reduceToNat]; rfl)))
  | ((with_reducible refine' e_fields ?qa ?qb ?_); (case qa => exact rfl); (case qb => exact rfl))
  | ((with_reducible refine' e_has ?qa ?_); (case qa => exact rfl))
  | with_reducible apply r_addI
  | with_reducible apply r_sub
  | with_reducible apply r_lt
  | with_reducible apply r_gt
  | with_reducible apply r_le
  | with_reducible apply r_ge
  | with_reducible apply r_int
  | with_reducible apply r_intB
  | with_reducible apply r_abs
  | with_reducible refine r_dec2 (fun h => ?_) (fun h => ?_)
  | with_reducible refine r_decN2 (fun h => ?_) (fun h => ?_)
  | with_reducible refine r_decM2 (fun h => ?_) (fun h => ?_)
  | with_reducible apply r_bool
  | with_reducible apply r_truB
  | with_reducible apply r_len
  | with_reducible apply r_lenS
  | with_reducible apply r_orEqS
  | with_reducible apply r_orNeS
  | with_reducible apply r_orEqI
  | with_reducible apply r_orNeI
  | with_reducible apply xv_joined
  | with_reducible apply xj_cons
  | with_reducible apply xj_nil
  | with_reducible apply r_eqI
  | with_reducible apply r_neI
  | with_reducible apply r_eqS
  | with_reducible apply r_neS
  | ((with_reducible refine' e_addD ?qa ?_); (case qa => exact rfl))
  | ((with_reducible refine' e_subD ?qa ?_); (case qa => exact rfl))
  | ((with_reducible refine' r_mul ?qa ?_); (case qa => walk_at "mul"))
  | ((with_reducible refine' r_mod ?qa ?_); (case qa => walk_at "cnd"))
  | ((with_reducible refine' r_fdiv ?qa ?qb ?_); (case qa => walk_at "cnd"); (case qb => walk_at "cnd"))
  | ((with_reducible refine' r_divmod ?qa ?qb ?_); (case qa => walk_at "cnd"); (case qb => walk_at "cnd"))
  | ((with_reducible refine' e_ltD ?qa ?_); (case qa => exact rfl))
  | ((with_reducible refine' e_leD ?qa ?_); (case qa => exact rfl))
  | ((with_reducible refine' e_gtD ?qa ?_); (case qa => exact rfl))
  | ((with_reducible refine' e_geD ?qa ?_); (case qa => exact rfl))
  | ((with_reducible refine' e_negD ?qa ?_); (case qa => exact rfl))
  | ((with_reducible refine' e_ixD ?qa ?_); (case qa => exact rfl))
  | ((with_reducible refine' e_intD ?qa ?_); (case qa => exact rfl))
  | ((with_reducible refine' e_absD ?qa ?_); (case qa => exact rfl))
  | ((with_reducible refine' e_intOf ?qa ?_); (case qa => exact rfl))
  | ((with_reducible refine' e_tupOf ?qa ?_); (case qa => exact rfl))
  | ((with_reducible refine' e_lstOf ?qa ?_); (case qa => exact rfl))
  | ((with_reducible refine' e2_boolOf ?qa ?_ ?_); (case qa => exact rfl))
  | ((with_reducible refine' e_boolOf ?qa ?_); (case qa => exact rfl))
  | ((with_reducible refine' e_truD ?qa ?_); (case qa => exact rfl))
  | ((with_reducible refine' e_itemsOf ?qa ?_); (case qa => exact rfl))
  | ((with_reducible refine' e_slD ?qa ?_); (case qa => exact rfl))
  | ((with_reducible refine' e_isiD ?qa ?_); (case qa => exact rfl))
  | ((with_reducible refine' e_boolI ?qa ?_); (case qa => exact rfl))
  | ((with_reducible refine' e_rng ?qa ?_); (case qa => exact ⟨by omega, by omega⟩))
  | with_reducible apply e_some
  | with_reducible apply e_str
  | with_reducible apply e_rev
  | ((with_reducible refine' en_val ?qa ?_); (case qa => exact rfl))
  | ((with_reducible refine' en_own ?qa ?_); (case qa => exact rfl))
  | ((with_reducible refine' en_nx ?qa ?_); (case qa => exact rfl))
  | with_reducible apply x_call
  | with_reducible refine x_ofV (fa := fC _) ?_
  | with_reducible refine x_ofV (fa := fOp _ _ _) ?_
  | with_reducible refine x_ofV (fa := fUn _ _) ?_
  | with_reducible refine x_ofV (fa := fCB _ _) ?_
  | with_reducible refine x_ofV (fa := fTup _) ?_
  | with_reducible refine x_ofV (fa := fLst _) ?_
  | with_reducible refine x_ofV (fa := fBM _ _ _ _) ?_
  | with_reducible refine x_ofV (fa := fBM0 _ _ _) ?_
  | with_reducible refine x_ofV (fa := fLc _ _ _ _ _) ?_
  | with_reducible refine x_ofV (fa := fFld _ _ _) ?_
  | with_reducible refine x_ofV (fa := fProp _ _ _) ?_
  | with_reducible refine x_ofV (fa := fMake _ _ _) ?_
  | with_reducible refine x_ofV (fa := fMakeN _ _ _ _ _ _ _) ?_
  | with_reducible refine x_ofV (fa := fSl _ _ _) ?_
  | with_reducible refine x_ofV (fa := fJoined _) ?_
  | with_reducible refine x_ofV (fa := fAndV _ _) ?_
  | with_reducible refine x_ofV (fa := fOrV _ _) ?_
  | with_reducible refine x_ofV (fa := fNotV _) ?_
  | with_reducible refine x_ofV (fa := fIf _ _ _) ?_
  | with_reducible refine x_ofV (fa := fIxO _ _) ?_
  | with_reducible refine x_ofV (fa := fCMeth _ _ _) ?_
  | with_reducible refine x_ofV (fa := fCMethN _ _ _ _ _) ?_
  | with_reducible refine x_ofV (fa := fCallN _ _ _ _ _ _) ?_
  | with_reducible refine x_ofV (fa := fIsN _) ?_
  | with_reducible refine x_ofV (fa := fNotN _) ?_
  | with_reducible apply xl_nil
  | with_reducible refine xl_cons rfl ?_
  | (refine And.intro (show List.length _ ≤ 16777216 from by simp only [List.length_cons, List.length_nil]; decide) ?_)
  | (refine And.intro (show tyS _ = some _ from rfl) ?_)
  | (refine And.intro (show flat _ = true from rfl) ?_)
  | (refine And.intro (show List.length _ = _ from rfl) ?_)
  | (refine And.intro (show List.length _ < 16777216 from by simp only [List.length_cons, List.length_nil]; decide) ?_)
  | (refine And.intro (show List.map isOwn _ = List.map isOwn _ from rfl) ?_)
  | with_reducible apply tt_intro
  | with_reducible apply nt_intro
  | with_reducible apply nnf_intro
  | with_reducible apply nnt_intro
  | with_reducible apply nf_intro
  | with_reducible apply ff_intro
  | walk_at "set")
theorem p_right {a b c : Int} {Φ : Vr → Option OD → Prop} (h : RO 1 a b c) (k : ∀ a b c, Φ (.val (.bl true)) (some (rl a b c))) : Fp F_l_right [.own 1 (rl a b c)] Φ := by
  refine f_def rfl ?_
  show X _ [_, _, _, _, _, _, _, _, _, _, _, _, _, _] _
  unfold B_l_right
  generalize hcut : fIf (fTest (fOp ltD (fCB lenD (fCons (fVar 2) fNil)) (fC (.int (3))))) (fMake "Point" F_Point_init (fCons (fOp addD (fTup (fCons (fC (.int (0))) fNil)) (fSl (fVar 2) fNoPart (fPart (fC (.int (2)))))) fNil)) (fC .non) = cut
  repeat' walk_at "x"
  refine x_forL (fun ds Γ => ∃ (n a b c : Int) (s1 s2 s3 s4 s5 s6 s7 s8 s9 s10 s11 : Sl), RO n a b c ∧ n + 100 * ds.length ≤ 10 ^ 6 ∧ Γ = [.own 1 (rl a b c), s1, s2, s3, s4, s5, s6, s7, s8, s9, s10, s11, .no, .no]) ?_ ?_ ?_
  · exact ⟨1, _, _, _, _, _, _, _, _, _, _, _, _, _, _, h, by rw [len_rng]; decide, rfl⟩
  · rintro d ds Γ ⟨n, a, b, c, s1, s2, s3, s4, s5, s6, s7, s8, s9, s10, s11, h, hn, rfl⟩
    rw [List.length_cons] at hn
    repeat' walk_at "x"
    refine x_callF rfl ?_
    refine p_sip h (by omega) (by omega) (by omega) fun x a b c x0 x1 h => ?_
    repeat' walk_at "x"
    refine x_callF rfl ?_
    refine p_numbers h (by omega) (by omega) (by omega) fun one a b c l1 f1 h => ?_
    repeat' walk_at "x"
    refine x_callF rfl ?_
    refine p_sip h (by omega) (by omega) (by omega) fun y a b c y0 y1 h => ?_
    repeat' walk_at "x"
    refine x_callF rfl ?_
    refine p_numbers h (by omega) (by omega) (by omega) fun two a b c l2 f2 h => ?_
    have fo : Fz one := ⟨by omega, by omega, f1⟩
    have ft : Fz two := ⟨by omega, by omega, f2⟩
    have so := fo.sz
    have st := ft.sz
    repeat' walk_at "x"
    refine fp_of (f_init so) ⟨rfl, _, _, rfl, ?_⟩
    repeat' walk_at "x"
    refine x_callF rfl (fp_of (f_page so) ?_)
    repeat' walk_at "x"
    refine x_callF rfl (fp_of f_numbers ?_)
    repeat' walk_at "x"
    refine r_strI (f_str so) ?_
    repeat' walk_at "x"
    refine xv_lenI ?_ (by omega)
    repeat' walk_at "x"
    refine xv_boolL ?_ (by omega)
    repeat' walk_at "x"
    have pl := page_len fo
    have okp : okD (.lst [tn one, .str (page one), .int one.length, .bl true]) := ⟨ok_tn so.al, page_chars fo, Nat.lt_trans (sm_len so) (by decide), trivial, trivial⟩
    have bgp : big (.lst [tn one, .str (page one), .int one.length, .bl true]) ≤ 16777216 := by
      show bigL (one.map D.int) + 3 + 2 + (10 * (page one).length + 2 + 2 + (1921 + 2 + (5 + 2 + 0))) + 3 ≤ _
      rw [bigL_ints]
      omega
    have dpp : dep (.lst [tn one, .str (page one), .int one.length, .bl true]) ≤ 64 := by
      show max (depL (one.map D.int) + 1) (max 0 (max 0 (max 0 0))) + 1 ≤ 64
      rw [dep_ints]
      decide
    refine r_repr okp ⟨_, .inr rfl⟩ bgp dpp ?_
    repeat' walk_at "x"
    refine ⟨_, rfl, ?_⟩
    rw [List.length_map]
    repeat' walk_at "x"
    refine r_repr okp ⟨_, .inr rfl⟩ bgp dpp ?_
    repeat' walk_at "x"
    rotate_left
    · exact absurd rfl ‹¬ _›
    refine fp_of (f_init so) ⟨rfl, _, _, rfl, ?_⟩
    repeat' walk_at "x"
    refine x_callF rfl (fp_of (f_read fo) ?_)
    repeat' walk_at "x"
    refine x_callF rfl (fp_of (f_read fo) ?_)
    repeat' walk_at "x"
    iterate 3
      refine r_orIns rfl rfl (f_eq1 so) ?_
      repeat' walk_at "x"
    refine e_mulD (mul_n (by decide) (by decide)) ?_
    refine r_orL (r_neSelf (x := .lst [.bl true, .bl true, .bl true]) ⟨trivial, trivial, trivial, trivial⟩ (Nat.le_of_ble_eq_true rfl) ?_)
    repeat' walk_at "x"
    iterate 3
      refine r_orInsN rfl rfl (f_eq1 so) ?_
      repeat' walk_at "x"
    refine e_mulD (mul_n (by decide) (by decide)) ?_
    refine r_orL (r_neSelf (x := .lst [.bl false, .bl false, .bl false]) ⟨trivial, trivial, trivial, trivial⟩ (Nat.le_of_ble_eq_true rfl) ?_)
    repeat' walk_at "x"
    obtain ⟨i, r, er⟩ : ∃ i r, one = i :: r := by
      cases one with
      | nil => simp at l1; omega
      | cons i r => exact ⟨i, r, rfl⟩
    have hi : fit i := f1 i (by rw [er]; simp)
    have sa : Sz ((i + 1) :: r) := ⟨by simp, by have := fo.hi; rw [er] at this; simpa using this, fun j hj => by
      rcases List.mem_cons.mp hj with e | hj
      · subst e
        unfold sm
        unfold fit at hi
        exact Nat.lt_of_le_of_lt (show (i + 1).natAbs ≤ 10 ^ 27 + 1 by omega) (by decide)
      · exact so.al j (by rw [er]; simp [hj])⟩
    refine e_ixD (z := .int i) (by rw [er]; exact ixT0) ?_
    repeat' walk_at "x"
    rw [show DF.cutD (one.map D.int) (some 1) none = r.map D.int from by rw [er]; exact cut_one_t]
    refine r_addT (by simp; have := fo.hi; rw [er] at this; simp at this; omega) ?_
    rw [show [D.int (i + 1)] ++ List.map D.int r = List.map D.int ((i + 1) :: r) from rfl]
    repeat' walk_at "x"
    refine fp_of (f_init sa) ⟨rfl, _, _, rfl, ?_⟩
    repeat' walk_at "x"
    refine X.imp (Φ := fun d' Γ' => Oth one d' ∧ Γ' = [.own 1 (rl a b c), .val d, .val (tn one), .val (tn two), .val (pt one), .val (.str (page one)), .val (.lst [pt one, pt one, pt one]), s7, s8, s9, s10, s11, .no, .no]) ?_ ?_
    · subst hcut
      repeat' walk_at "x"
      refine ⟨_, rfl, ?_⟩
      rw [List.length_map]
      repeat' walk_at "x"
      · rename_i h3
        have h3' : one.length < 3 := by omega
        have s0 : Sz (0 :: one) := ⟨by simp, by simp; omega, fun j hj => by
          rcases List.mem_cons.mp hj with e | hj
          · subst e; unfold sm; decide
          · exact so.al j hj⟩
        rw [cut_two_t h3']
        refine r_addT (by simp; omega) ?_
        rw [show [D.int 0] ++ List.map D.int one = List.map D.int (0 :: one) from rfl]
        repeat' walk_at "x"
        refine fp_of (f_init s0) ⟨rfl, _, _, rfl, ?_⟩
        exact ⟨.inl ⟨_, rfl, s0, fun e => by
          have := congrArg List.length e
          simp at this⟩, rfl⟩
      · exact ⟨.inr rfl, rfl⟩
    rintro od _ ⟨ho, rfl⟩
    repeat' walk_at "x"
    have hne : one ≠ (i + 1) :: r := by rw [er]; exact ne_head
    refine r_orIns rfl rfl (f_eqN so sa hne) ?_
    repeat' walk_at "x"
    refine oth_eq so ho ?_
    repeat' walk_at "x"
    iterate 3
      refine r_orIns rfl rfl (f_eq0 (by rfl)) ?_
      repeat' walk_at "x"
    refine e_mulD (mul_n (by decide) (by decide)) ?_
    refine r_orL (r_neSelf (x := .lst [.bl false, .bl false, .bl false, .bl false, .bl false]) ⟨trivial, trivial, trivial, trivial, trivial, trivial⟩ (Nat.le_of_ble_eq_true rfl) ?_)
    repeat' walk_at "x"
    refine r_orInsN rfl rfl (f_eqN so sa hne) ?_
    repeat' walk_at "x"
    refine oth_ne so ho ?_
    repeat' walk_at "x"
    iterate 3
      refine r_orInsN rfl rfl (f_eq0 (by rfl)) ?_
      repeat' walk_at "x"
    refine e_mulD (mul_n (by decide) (by decide)) ?_
    refine r_orL (r_neSelf (x := .lst [.bl true, .bl true, .bl true, .bl true, .bl true]) ⟨trivial, trivial, trivial, trivial, trivial, trivial⟩ (Nat.le_of_ble_eq_true rfl) ?_)
    repeat' walk_at "x"
    refine fp_of (f_init st) ⟨rfl, _, _, rfl, ?_⟩
    repeat' walk_at "x"
    refine r_orIns rfl rfl (f_eq so st) ?_
    repeat' walk_at "x"
    refine r_orL (r_eq (eqT so.al) (eqT st.al) eqv_tn ?_)
    repeat' walk_at "x"
    refine r_orL (r_neSelf (x := .bl (decide (one = two))) trivial (Nat.le_of_ble_eq_true rfl) ?_)
    repeat' walk_at "x"
    refine x_forL (fun ds Γ => ∃ (n' a b c : Int) (s1 s2 s3 s4 s6 s7 s8 s9 s10 s11 : Sl), RO n' a b c ∧ n' + 6 * ds.length ≤ n + 50 ∧ Γ = [.own 1 (rl a b c), s1, s2, s3, s4, .val (.str (page one)), s6, s7, s8, s9, s10, s11, .no, .no]) ?_ ?_ ?_
    · exact ⟨_, _, _, _, _, _, _, _, _, _, _, _, _, _, h, by rw [len_rng]; show _ + 6 * ((4 : Nat) : Int) ≤ _; omega, rfl⟩
    · rintro e es Γ ⟨n', a, b, c, s1, s2, s3, s4, s6, s7, s8, s9, s10, s11, h, hn', rfl⟩
      rw [List.length_cons] at hn'
      repeat' walk_at "x"
      refine x_callF rfl ?_
      refine p_bent h (by omega) fo fun z a b c hz h => ?_
      repeat' walk_at "x"
      refine x_callF rfl (fp_of (f_lread hz) ?_)
      repeat' walk_at "x"
      have hr := repr_str hz.chr (Nat.le_trans hz.len (by decide))
      have ct : ∀ c ∈ tl (Str.ofString "text"), c < 1114112 := by decide +kernel
      have cg : ∀ c ∈ tl (Str.ofString "gave"), c < 1114112 := by decide +kernel
      cases eZ : Zr z with
      | none =>
        rw [told_no eZ]
        refine r_orL (r_eq (b := true) rfl rfl rfl ?_)
        repeat' walk_at "x"
        refine ⟨_, hr, ?_⟩
        repeat' walk_at "x"
        refine xv_heard (.inl rfl) (f_showQ (by rfl) (reprZ_of hr)) (rd_ex rfl (xE_read hz eZ)) ?_
        rw [show hear (Str.ofString "InvalidText") = Str.ofString "text" from by decide +kernel]
        repeat' walk_at "x"
        refine r_orL (r_neSelf (x := .lst [.str "text", .str (reprText z)]) ⟨ct, rt_ok hz.chr, trivial⟩ (Nat.le_of_ble_eq_true rfl) ?_)
        repeat' walk_at "x"
        exact ⟨_, _, _, _, _, _, _, _, _, _, _, _, _, _, h, by omega, rfl⟩
      | some ps =>
        rw [told_yes eZ]
        obtain ⟨fr, sp⟩ := f_readZ hz eZ
        obtain ⟨epz, _⟩ := page_of eZ
        have hlz := hz.len
        have hpl : (page ps).length ≤ 600 := by rw [epz]; exact hlz
        have hne0 : decide (ps = []) = false := decide_eq_false fun e => by have := sp.lo; rw [e] at this; simp at this
        refine r_orL (r_eq (b := false) (eqT sp.al) rfl ((eqv_tn (B := [])).trans hne0) ?_)
        repeat' walk_at "x"
        refine x_callF rfl (fp_of (f_page sp) ?_)
        repeat' walk_at "x"
        refine r_addS (by rw [show (Str.ofString "point ").length = 6 from by decide +kernel]; omega) ?_
        repeat' walk_at "x"
        refine xv_gave (f_shownP sp (by omega)) ?_ ?_
        · show X _ [_, _, _, _, _, _, _, _, _, _, _, _, _, _] _
          repeat' walk_at "x"
          refine x_callF rfl (fp_of (fE fr) ?_)
          repeat' walk_at "x"
          rfl
        repeat' walk_at "x"
        have cp : ∀ c ∈ tl (Str.ofString "point " ++ page ps), c < 1114112 := fun c hc => by
          rw [tl_append, epz] at hc
          rcases List.mem_append.mp hc with hc | hc
          · exact ofs_ok _ c hc
          · exact hz.chr c hc
        refine r_orL (r_neSelf (x := .lst [.str "gave", .str (Str.ofString "point " ++ page ps)]) ⟨cg, cp, trivial⟩ (Nat.le_of_ble_eq_true rfl) ?_)
        repeat' walk_at "x"
        exact ⟨_, _, _, _, _, _, _, _, _, _, _, _, _, _, h, by omega, rfl⟩
    · rintro Γ ⟨n', a, b, c, s1, s2, s3, s4, s6, s7, s8, s9, s10, s11, h, hn', rfl⟩
      have hn' : n' + 6 * 0 ≤ n + 50 := hn'
      repeat' walk_at "x"
      refine x_callF rfl ?_
      refine p_refused h (by omega) fun a b c h => ?_
      repeat' walk_at "x"
      exact ⟨_, _, _, _, _, _, _, _, _, _, _, _, _, _, _, h, by omega, rfl⟩
  · rintro Γ ⟨n, a, b, c, s1, s2, s3, s4, s5, s6, s7, s8, s9, s10, s11, h, hn, rfl⟩
    repeat' walk_at "x"
    exact k _ _ _
theorem hF0 : ∀ ns : List Int, ns.length ≤ 63 → F_law [.val (.scr ns)] = some (.ok (.val (.bl true)) none) := by
  intro ns hn
  refine Fp.eq (f_def rfl ?_)
  show X _ [_, _] _
  unfold B_law
  repeat' walk_at "x"
  show List.length [D.int 0, .int 1] < 16777216 ∧ X (lcL _ _ _ _ [D.int 0, .int 1] _) _ _
  repeat' walk_at "x"
  refine x_callF rfl ?_
  refine p_tun hn (by decide) (by decide) fun a b c h => ?_
  repeat' walk_at "x"
  refine x_callF rfl ?_
  refine p_right h fun a b c => ?_
  repeat' walk_at "x"
  refine x_callF rfl ?_
  refine p_tun hn (by decide) (by decide) fun a b c h => ?_
  repeat' walk_at "x"
  refine x_callF rfl ?_
  refine p_right h fun a b c => ?_
  repeat' walk_at "x"
  refine e_allD (allD_true ?_) ?_
  · intro b hb
    simp at hb
    exact hb
  repeat' walk_at "x"
  exact ⟨rfl, rfl⟩
end Kq

set_option linter.all false
set_option maxRecDepth 100000
set_option maxHeartbeats 4000000
namespace Kq
open PySem PySem.Spec PyProof.Rows L2 DF TX LamX
theorem all_mk {w : World} {K : PySem.W.Frag} {h : Heap} {mg : Str → Option Value} {fa f0 f1 f2 f3 f4 f5 f6 f7 f8 f9 f10 f11 f12 f13 f14 f15 f16 f17 f18 f19 f20 f21 f22 f23 f24 f25 f26 f27 : Addr} (X : K.In h) (G : h.Ns mainGlobals mg) (hfa : mg "law" = some (.ref fa))
    {od0 od1 od2 od3 od4 od5 od6 od7 od8 od9 od10 od11 od12 od13 od14 od15 od16 od17 od18 od19 od20 od21 od22 od23 od24 od25 od26 od27 an0 an1 an2 an3 an4 an5 an6 an7 an8 an9 an10 an11 an12 an13 an14 an15 an16 an17 an18 an19 an20 an21 an22 an23 an24 an25 an26 an27 : Option Addr} {sl0 sl1 sl2 sl3 sl4 sl5 sl6 sl7 sl8 sl9 sl10 sl11 sl12 sl13 sl14 sl15 sl16 sl17 sl18 sl19 sl20 sl21 sl22 sl23 sl24 sl25 sl26 sl27 : Array (Option Value)} {oc0 oc1 oc2 oc3 oc4 oc5 oc6 oc7 oc8 oc9 oc10 oc11 oc12 oc13 oc14 oc15 oc16 oc17 oc18 oc19 oc20 oc21 oc22 oc23 oc24 oc25 oc26 oc27 kV0 kV1 kV2 kV3 kV4 kV5 kV6 kV7 kV8 kV9 kV10 kV11 kV12 kV13 kV14 kV15 kV16 kV17 kV18 kV19 kV20 kV21 kV22 kV23 kV24 kV25 kV26 kV27 dc0 dc1 dc2 dc3 dc4 dc5 dc6 dc7 dc8 dc9 dc10 dc11 dc12 dc13 dc14 dc15 dc16 dc17 dc18 dc19 dc20 dc21 dc22 dc23 dc24 dc25 dc26 dc27 pm0 pm1 pm2 pm3 pm4 pm5 pm6 pm7 pm8 pm9 pm10 pm11 pm12 pm13 pm14 pm15 pm16 pm17 pm18 pm19 pm20 pm21 pm22 pm23 pm24 pm25 pm26 pm27 cd0 cd1 cd2 cd3 cd4 cd5 cd6 cd7 cd8 cd9 cd10 cd11 cd12 cd13 cd14 cd15 cd16 cd17 cd18 cd19 cd20 cd21 cd24 cd25 cd26 cd27 ct0 ct1 ct2 ct3 ct4 ct5 ct6 ct7 ct8 ct9 ct10 ct11 ct12 ct13 ct14 ct15 ct16 ct17 ct18 ct19 ct20 ct21 ct22 ct23 ct24 ct25 ct26 ct27 : Value}
    {ca22 cp22 : Addr} {co22 : Option Addr} {cv22 : Array Value} {cs22 : Array (Option Value)}
    {ca23 cp23 : Addr} {co23 : Option Addr} {cv23 : Array Value} {cs23 : Array (Option Value)}
    {C_Point : Addr}
    {nm_Point qq_Point : Str} {Ns_Point : Addr} {bs_Point : List Value} {hdd_Point : Bool} {sn_Point : List Str} {sb_Point : List Value} {ab_Point : Bool} {col_Point : Option Bool} {dd_Point : Option Addr} {k0_Point k1_Point k2_Point k3_Point k5_Point : Option Value} {nid_Point : String}
    {pp_Point_numbers : Addr} {rp_Point_numbers : List Value}
    {pm_Point_read : Addr} {rm_Point_read : List Value}
    {C_InvalidNumbers : Addr}
    {C_InvalidText : Addr}
    {C_WrongValue : Addr}
    {C_WrongName : Addr}
    {C_NotPossible : Addr}
    {C_InvalidNumber : Addr}
    {C_NotAChange : Addr}
    {C_OtherWorld : Addr}
    {t_MOST_WIDTH : Tok}
    {t_BLOCK : Tok}
    {t_BLOCK_DIGITS : Tok}
    {t_DIGITS : Tok}
    (a0 : PySem.W.nsIn K mainGlobals "_law_sip" = some (some (.ref f0)))
    (l0 : K.lookup f0 = some ⟨oc0, od0, .func (PySem.W.fnOf "_law_sip" "_law_sip" (defArgs s_l_sip) (defBody s_l_sip) (defScope s_l_sip) .none kV0 dc0 pm0 an0 cd0 ct0), sl0⟩)
    (c0 : PySem.W.codeIn K cd0 "_law_sip" = true)
    (k0 : PySem.W.keepIn K (.ref f0) = true)
    (a1 : PySem.W.nsIn K mainGlobals "_law_choose" = some (some (.ref f1)))
    (l1 : K.lookup f1 = some ⟨oc1, od1, .func (PySem.W.fnOf "_law_choose" "_law_choose" (defArgs s_l_choose) (defBody s_l_choose) (defScope s_l_choose) .none kV1 dc1 pm1 an1 cd1 ct1), sl1⟩)
    (c1 : PySem.W.codeIn K cd1 "_law_choose" = true)
    (k1 : PySem.W.keepIn K (.ref f1) = true)
    (a2 : PySem.W.nsIn K mainGlobals "_law_integer" = some (some (.ref f2)))
    (l2 : K.lookup f2 = some ⟨oc2, od2, .func (PySem.W.fnOf "_law_integer" "_law_integer" (defArgs s_l_integer) (defBody s_l_integer) (defScope s_l_integer) .none kV2 dc2 pm2 an2 cd2 ct2), sl2⟩)
    (c2 : PySem.W.codeIn K cd2 "_law_integer" = true)
    (k2 : PySem.W.keepIn K (.ref f2) = true)
    (a3 : PySem.W.nsIn K mainGlobals "_law_numbers" = some (some (.ref f3)))
    (l3 : K.lookup f3 = some ⟨oc3, od3, .func (PySem.W.fnOf "_law_numbers" "_law_numbers" (defArgs s_l_numbers) (defBody s_l_numbers) (defScope s_l_numbers) .none kV3 dc3 pm3 an3 cd3 ct3), sl3⟩)
    (c3 : PySem.W.codeIn K cd3 "_law_numbers" = true)
    (k3 : PySem.W.keepIn K (.ref f3) = true)
    (a4 : PySem.W.nsIn K mainGlobals "is_integer" = some (some (.ref f4)))
    (l4 : K.lookup f4 = some ⟨oc4, od4, .func (PySem.W.fnOf "is_integer" "is_integer" (defArgs s_is_integer) (defBody s_is_integer) (defScope s_is_integer) .none kV4 dc4 pm4 an4 cd4 ct4), sl4⟩)
    (c4 : PySem.W.codeIn K cd4 "is_integer" = true)
    (k4 : PySem.W.keepIn K (.ref f4) = true)
    (a5 : PySem.W.nsIn K mainGlobals "is_numbers" = some (some (.ref f5)))
    (l5 : K.lookup f5 = some ⟨oc5, od5, .func (PySem.W.fnOf "is_numbers" "is_numbers" (defArgs s_is_numbers) (defBody s_is_numbers) (defScope s_is_numbers) .none kV5 dc5 pm5 an5 cd5 ct5), sl5⟩)
    (c5 : PySem.W.codeIn K cd5 "is_numbers" = true)
    (k5 : PySem.W.keepIn K (.ref f5) = true)
    (l6 : K.lookup f6 = some ⟨oc6, od6, .func (PySem.W.fnOf "__init__" "Point.__init__" (defArgs s_Point_init) (defBody s_Point_init) (defScope s_Point_init) .none kV6 dc6 pm6 an6 cd6 ct6), sl6⟩)
    (c6 : PySem.W.codeIn K cd6 "Point.__init__" = true)
    (k6 : PySem.W.keepIn K (.ref f6) = true)
    (a7 : PySem.W.nsIn K mainGlobals "_law_page" = some (some (.ref f7)))
    (l7 : K.lookup f7 = some ⟨oc7, od7, .func (PySem.W.fnOf "_law_page" "_law_page" (defArgs s_l_page) (defBody s_l_page) (defScope s_l_page) .none kV7 dc7 pm7 an7 cd7 ct7), sl7⟩)
    (c7 : PySem.W.codeIn K cd7 "_law_page" = true)
    (k7 : PySem.W.keepIn K (.ref f7) = true)
    (l8 : K.lookup f8 = some ⟨oc8, od8, .func (PySem.W.fnOf "__eq__" "Point.__eq__" (defArgs s_Point_eq) (defBody s_Point_eq) (defScope s_Point_eq) .none kV8 dc8 pm8 an8 cd8 ct8), sl8⟩)
    (c8 : PySem.W.codeIn K cd8 "Point.__eq__" = true)
    (k8 : PySem.W.keepIn K (.ref f8) = true)
    (l9 : K.lookup f9 = some ⟨oc9, od9, .func (PySem.W.fnOf "numbers" "Point.numbers" (defArgs s_Point_numbers) (defBody s_Point_numbers) (defScope s_Point_numbers) .none kV9 dc9 pm9 an9 cd9 ct9), sl9⟩)
    (c9 : PySem.W.codeIn K cd9 "Point.numbers" = true)
    (k9 : PySem.W.keepIn K (.ref f9) = true)
    (a10 : PySem.W.nsIn K mainGlobals "number_text" = some (some (.ref f10)))
    (l10 : K.lookup f10 = some ⟨oc10, od10, .func (PySem.W.fnOf "number_text" "number_text" (defArgs s_number_text) (defBody s_number_text) (defScope s_number_text) .none kV10 dc10 pm10 an10 cd10 ct10), sl10⟩)
    (c10 : PySem.W.codeIn K cd10 "number_text" = true)
    (k10 : PySem.W.keepIn K (.ref f10) = true)
    (a11 : PySem.W.nsIn K mainGlobals "numbers_text" = some (some (.ref f11)))
    (l11 : K.lookup f11 = some ⟨oc11, od11, .func (PySem.W.fnOf "numbers_text" "numbers_text" (defArgs s_numbers_text) (defBody s_numbers_text) (defScope s_numbers_text) .none kV11 dc11 pm11 an11 cd11 ct11), sl11⟩)
    (c11 : PySem.W.codeIn K cd11 "numbers_text" = true)
    (k11 : PySem.W.keepIn K (.ref f11) = true)
    (l12 : K.lookup f12 = some ⟨oc12, od12, .func (PySem.W.fnOf "__str__" "Point.__str__" (defArgs s_Point_str) (defBody s_Point_str) (defScope s_Point_str) .none kV12 dc12 pm12 an12 cd12 ct12), sl12⟩)
    (c12 : PySem.W.codeIn K cd12 "Point.__str__" = true)
    (k12 : PySem.W.keepIn K (.ref f12) = true)
    (l13 : K.lookup f13 = some ⟨oc13, od13, .func (PySem.W.fnOf "__len__" "Point.__len__" (defArgs s_Point_len) (defBody s_Point_len) (defScope s_Point_len) .none kV13 dc13 pm13 an13 cd13 ct13), sl13⟩)
    (c13 : PySem.W.codeIn K cd13 "Point.__len__" = true)
    (k13 : PySem.W.keepIn K (.ref f13) = true)
    (a14 : PySem.W.nsIn K mainGlobals "number_in" = some (some (.ref f14)))
    (l14 : K.lookup f14 = some ⟨oc14, od14, .func (PySem.W.fnOf "number_in" "number_in" (defArgs s_number_in) (defBody s_number_in) (defScope s_number_in) .none kV14 dc14 pm14 an14 cd14 ct14), sl14⟩)
    (c14 : PySem.W.codeIn K cd14 "number_in" = true)
    (k14 : PySem.W.keepIn K (.ref f14) = true)
    (l15 : K.lookup f15 = some ⟨oc15, od15, .func (PySem.W.fnOf "read" "Point.read" (defArgs s_Point_read) (defBody s_Point_read) (defScope s_Point_read) .none kV15 dc15 pm15 an15 cd15 ct15), sl15⟩)
    (c15 : PySem.W.codeIn K cd15 "Point.read" = true)
    (k15 : PySem.W.keepIn K (.ref f15) = true)
    (a16 : PySem.W.nsIn K mainGlobals "_law_bent" = some (some (.ref f16)))
    (l16 : K.lookup f16 = some ⟨oc16, od16, .func (PySem.W.fnOf "_law_bent" "_law_bent" (defArgs s_l_bent) (defBody s_l_bent) (defScope s_l_bent) .none kV16 dc16 pm16 an16 cd16 ct16), sl16⟩)
    (c16 : PySem.W.codeIn K cd16 "_law_bent" = true)
    (k16 : PySem.W.keepIn K (.ref f16) = true)
    (a17 : PySem.W.nsIn K mainGlobals "_law_is_integer" = some (some (.ref f17)))
    (l17 : K.lookup f17 = some ⟨oc17, od17, .func (PySem.W.fnOf "_law_is_integer" "_law_is_integer" (defArgs s_l_is_integer) (defBody s_l_is_integer) (defScope s_l_is_integer) .none kV17 dc17 pm17 an17 cd17 ct17), sl17⟩)
    (c17 : PySem.W.codeIn K cd17 "_law_is_integer" = true)
    (k17 : PySem.W.keepIn K (.ref f17) = true)
    (a18 : PySem.W.nsIn K mainGlobals "_law_read" = some (some (.ref f18)))
    (l18 : K.lookup f18 = some ⟨oc18, od18, .func (PySem.W.fnOf "_law_read" "_law_read" (defArgs s_l_read) (defBody s_l_read) (defScope s_l_read) .none kV18 dc18 pm18 an18 cd18 ct18), sl18⟩)
    (c18 : PySem.W.codeIn K cd18 "_law_read" = true)
    (k18 : PySem.W.keepIn K (.ref f18) = true)
    (a19 : PySem.W.nsIn K mainGlobals "_law_shown" = some (some (.ref f19)))
    (l19 : K.lookup f19 = some ⟨oc19, od19, .func (PySem.W.fnOf "_law_shown" "_law_shown" (defArgs s_l_shown) (defBody s_l_shown) (defScope s_l_shown) .none kV19 dc19 pm19 an19 cd19 ct19), sl19⟩)
    (c19 : PySem.W.codeIn K cd19 "_law_shown" = true)
    (k19 : PySem.W.keepIn K (.ref f19) = true)
    (a20 : PySem.W.nsIn K mainGlobals "_law_class" = some (some (.ref f20)))
    (l20 : K.lookup f20 = some ⟨oc20, od20, .func (PySem.W.fnOf "_law_class" "_law_class" (defArgs s_l_class) (defBody s_l_class) (defScope s_l_class) .none kV20 dc20 pm20 an20 cd20 ct20), sl20⟩)
    (c20 : PySem.W.codeIn K cd20 "_law_class" = true)
    (k20 : PySem.W.keepIn K (.ref f20) = true)
    (a21 : PySem.W.nsIn K mainGlobals "_law_heard" = some (some (.ref f21)))
    (l21 : K.lookup f21 = some ⟨oc21, od21, .func (PySem.W.fnOf "_law_heard" "_law_heard" (defArgs s_l_heard) (defBody s_l_heard) (defScope s_l_heard) .none kV21 dc21 pm21 an21 cd21 ct21), sl21⟩)
    (c21 : PySem.W.codeIn K cd21 "_law_heard" = true)
    (k21 : PySem.W.keepIn K (.ref f21) = true)
    (a22 : PySem.W.nsIn K mainGlobals "_law_refused_right" = some (some (.ref f22)))
    (l22 : K.lookup f22 = some ⟨oc22, od22, .func (PySem.W.fnOf "_law_refused_right" "_law_refused_right" (defArgs s_l_refused_right) (defBody s_l_refused_right) (defScope s_l_refused_right) .none kV22 dc22 pm22 an22 (.ref ca22) ct22), sl22⟩)
    (x1_22 : K.lookup ca22 = some ⟨.type "code", co22, .fields cv22, cs22⟩)
    (x2_22 : (cv22[11]? : Option Value) = some (.ref cp22))
    (c22 : PySem.W.codeIn K (.ref ca22) "_law_refused_right" = true)
    (k22 : PySem.W.keepIn K (.ref f22) = true)
    (a23 : PySem.W.nsIn K mainGlobals "_law_right" = some (some (.ref f23)))
    (l23 : K.lookup f23 = some ⟨oc23, od23, .func (PySem.W.fnOf "_law_right" "_law_right" (defArgs s_l_right) (defBody s_l_right) (defScope s_l_right) .none kV23 dc23 pm23 an23 (.ref ca23) ct23), sl23⟩)
    (x1_23 : K.lookup ca23 = some ⟨.type "code", co23, .fields cv23, cs23⟩)
    (x2_23 : (cv23[11]? : Option Value) = some (.ref cp23))
    (c23 : PySem.W.codeIn K (.ref ca23) "_law_right" = true)
    (k23 : PySem.W.keepIn K (.ref f23) = true)
    (a24 : PySem.W.nsIn K mainGlobals "_law_tun" = some (some (.ref f24)))
    (l24 : K.lookup f24 = some ⟨oc24, od24, .func (PySem.W.fnOf "_law_tun" "_law_tun" (defArgs s_l_tun) (defBody s_l_tun) (defScope s_l_tun) .none kV24 dc24 pm24 an24 cd24 ct24), sl24⟩)
    (c24 : PySem.W.codeIn K cd24 "_law_tun" = true)
    (k24 : PySem.W.keepIn K (.ref f24) = true)
    (a25 : PySem.W.nsIn K mainGlobals "law" = some (some (.ref f25)))
    (l25 : K.lookup f25 = some ⟨oc25, od25, .func (PySem.W.fnOf "law" "law" (defArgs s_law) (defBody s_law) (defScope s_law) .none kV25 dc25 pm25 an25 cd25 ct25), sl25⟩)
    (c25 : PySem.W.codeIn K cd25 "law" = true)
    (k25 : PySem.W.keepIn K (.ref f25) = true)
    (l26 : K.lookup f26 = some ⟨oc26, od26, .func (PySem.W.fnOf "__init__" "InvalidNumbers.__init__" (defArgs s_InvalidNumbers_init) (defBody s_InvalidNumbers_init) (defScope s_InvalidNumbers_init) .none kV26 dc26 pm26 an26 cd26 ct26), sl26⟩)
    (c26 : PySem.W.codeIn K cd26 "InvalidNumbers.__init__" = true)
    (k26 : PySem.W.keepIn K (.ref f26) = true)
    (l27 : K.lookup f27 = some ⟨oc27, od27, .func (PySem.W.fnOf "__init__" "InvalidText.__init__" (defArgs s_InvalidText_init) (defBody s_InvalidText_init) (defScope s_InvalidText_init) .none kV27 dc27 pm27 an27 cd27 ct27), sl27⟩)
    (c27 : PySem.W.codeIn K cd27 "InvalidText.__init__" = true)
    (k27 : PySem.W.keepIn K (.ref f27) = true)
    (aC_Point : PySem.W.nsIn K mainGlobals "Point" = some (some (.ref C_Point)))
    (pg_Point : PySem.W.plainGet K C_Point Str.empty = true)
    (hd_Point : PySem.W.hasDictIn K C_Point = true)
    (po_Point : PySem.W.plainOver K C_Point = true)
    (sa_Point : PySem.W.findIn K (.ref C_Point) "__setattr__" = some (some (.builtin "object.__setattr__")))
    (mk_Point : PySem.W.makesIn K C_Point = true)
    (kc_Point : PySem.W.keepIn K (.ref C_Point) = true)
    (ii_Point : PySem.W.findIn K (.ref C_Point) "__init__" = some (some (.ref f6)))
    (ij_Point : PySem.W.isFn K (.ref f6) = true)
    (ea_Point : PySem.W.findIn K (.ref C_Point) "__eq__" = some (some (.ref f8)))
    (eb_Point : PySem.W.isFn K (.ref f8) = true)
    (ec_Point : K.lookup C_Point = some (excClassObj nm_Point qq_Point C_Point Ns_Point bs_Point [.type "object"] hdd_Point sn_Point sb_Point ab_Point col_Point dd_Point k0_Point k1_Point k2_Point k3_Point k5_Point nid_Point))
    (ed_Point : PySem.W.nsOkIn K Ns_Point = true)
    (ee_Point : PySem.W.nsIn K Ns_Point "__eq__" = some (some (.ref f8)))
    (ef_Point : PySem.W.nsIn K Ns_Point "__ne__" = some none)
    (pa_Point_numbers : PySem.W.findIn K (.ref C_Point) "numbers" = some (some (.ref pp_Point_numbers)))
    (pb_Point_numbers : PySem.W.specialIn K (.ref pp_Point_numbers) "__get__" = some (some (.builtin "property.__get__")))
    (pc_Point_numbers : PySem.W.takesIn K (.ref pp_Point_numbers) = some true)
    (pd_Point_numbers : PySem.W.recIn K pp_Point_numbers "property" = some (.ref f9 :: rp_Point_numbers))
    (sta_Point : PySem.W.findIn K (.ref C_Point) "__str__" = some (some (.ref f12)))
    (stb_Point : PySem.W.isFn K (.ref f12) = true)
    (lnCa_Point : PySem.W.findIn K (.ref C_Point) "__len__" = some (some (.ref f13)))
    (lnCb_Point : PySem.W.isFn K (.ref f13) = true)
    (ma_Point_read : PySem.W.findCls K (.ref C_Point) (.type "type") "read" = some (.get (.builtin "classmethod.__get__") (.ref pm_Point_read) .none (.ref C_Point)))
    (mb_Point_read : PySem.W.recIn K pm_Point_read "classmethod" = some (.ref f15 :: rm_Point_read))
    (mc_Point_read : PySem.W.fnIn K f15 = true)
    (ra_Point : PySem.W.readsIn K C_Point (.type "type") = true)
    (rb_Point : PySem.W.specialIn K (.ref C_Point) "__getattribute__" = some (some (.builtin "type.__getattribute__")))
    (nb_Point : PySem.W.findIn K (.ref C_Point) "__bool__" = some none)
    (na_Point__numbers : PySem.W.findIn K (.ref C_Point) "_numbers" = some none)
    (ia_Point : PySem.W.findIn K (.ref C_Point) "__class__" = some (some (.builtin "object.__class__")))
    (ib_Point : PySem.W.specialIn K (.builtin "object.__class__") "__get__" = some (some (.builtin "getset_descriptor.__get__")))
    (ic_Point : PySem.W.takesIn K (.builtin "object.__class__") = some true)
    (id_Point : PySem.W.mroIn K C_Point (.type "object") = some true)
    (aC_InvalidNumbers : PySem.W.nsIn K mainGlobals "InvalidNumbers" = some (some (.ref C_InvalidNumbers)))
    (ii_InvalidNumbers : PySem.W.findIn K (.ref C_InvalidNumbers) "__init__" = some (some (.ref f26)))
    (xi_InvalidNumbers : PySem.W.excInitIn K C_InvalidNumbers [.type "ValueError", .type "Exception", .type "BaseException", .type "object"] "ValueError.__new__" = true)
    (xo_InvalidNumbers : PySem.W.excOver K C_InvalidNumbers [.type "ValueError", .type "Exception", .type "BaseException", .type "object"] = true)
    (xd_InvalidNumbers : PySem.W.hasDictIn K C_InvalidNumbers = true)
    (xs_InvalidNumbers : PySem.W.findIn K (.ref C_InvalidNumbers) "__setattr__" = some (some (.builtin "object.__setattr__")))
    (xb_InvalidNumbers : PySem.W.subIn K (.ref C_InvalidNumbers) (.type "BaseException") = some true)
    (xy_InvalidNumbers : PySem.W.typeIn K (.ref C_InvalidNumbers) = some (.type "type"))
    (xk_InvalidNumbers : PySem.W.keepIn K (.ref C_InvalidNumbers) = true)
    (xt_InvalidNumbers : PySem.W.takerIn K C_InvalidNumbers "given" = some none)
    (xz_InvalidNumbers : PySem.W.typeIn K (.ref f26) = some (.type "function"))
    (xg_InvalidNumbers : PySem.W.findIn K (.ref C_InvalidNumbers) "__getattribute__" = some (some (.builtin "BaseException.__getattribute__")))
    (xh_InvalidNumbers : PySem.W.findIn K (.ref C_InvalidNumbers) "__getattr__" = some none)
    (xc_InvalidNumbers : PySem.W.findIn K (.ref C_InvalidNumbers) "__class__" = some (some (.builtin "object.__class__")))
    (xp_InvalidNumbers : PySem.W.specialIn K (.builtin "object.__class__") "__get__" = some (some (.builtin "getset_descriptor.__get__")))
    (xq_InvalidNumbers : PySem.W.takesIn K (.builtin "object.__class__") = some true)
    (xm_InvalidNumbers : PySem.W.mroIn K C_InvalidNumbers (.type "object") = some true)
    (xw_InvalidNumbers : (PySem.W.clsIn K C_InvalidNumbers).isSome = true)
    (xn_InvalidNumbers : PySem.W.findIn K (.ref C_InvalidNumbers) "given" = some none)
    (aC_InvalidText : PySem.W.nsIn K mainGlobals "InvalidText" = some (some (.ref C_InvalidText)))
    (ii_InvalidText : PySem.W.findIn K (.ref C_InvalidText) "__init__" = some (some (.ref f27)))
    (xi_InvalidText : PySem.W.excInitIn K C_InvalidText [.type "ValueError", .type "Exception", .type "BaseException", .type "object"] "ValueError.__new__" = true)
    (xo_InvalidText : PySem.W.excOver K C_InvalidText [.type "ValueError", .type "Exception", .type "BaseException", .type "object"] = true)
    (xd_InvalidText : PySem.W.hasDictIn K C_InvalidText = true)
    (xs_InvalidText : PySem.W.findIn K (.ref C_InvalidText) "__setattr__" = some (some (.builtin "object.__setattr__")))
    (xb_InvalidText : PySem.W.subIn K (.ref C_InvalidText) (.type "BaseException") = some true)
    (xy_InvalidText : PySem.W.typeIn K (.ref C_InvalidText) = some (.type "type"))
    (xk_InvalidText : PySem.W.keepIn K (.ref C_InvalidText) = true)
    (xt_InvalidText : PySem.W.takerIn K C_InvalidText "given" = some none)
    (xz_InvalidText : PySem.W.typeIn K (.ref f27) = some (.type "function"))
    (xg_InvalidText : PySem.W.findIn K (.ref C_InvalidText) "__getattribute__" = some (some (.builtin "BaseException.__getattribute__")))
    (xh_InvalidText : PySem.W.findIn K (.ref C_InvalidText) "__getattr__" = some none)
    (xc_InvalidText : PySem.W.findIn K (.ref C_InvalidText) "__class__" = some (some (.builtin "object.__class__")))
    (xp_InvalidText : PySem.W.specialIn K (.builtin "object.__class__") "__get__" = some (some (.builtin "getset_descriptor.__get__")))
    (xq_InvalidText : PySem.W.takesIn K (.builtin "object.__class__") = some true)
    (xm_InvalidText : PySem.W.mroIn K C_InvalidText (.type "object") = some true)
    (xw_InvalidText : (PySem.W.clsIn K C_InvalidText).isSome = true)
    (xn_InvalidText : PySem.W.findIn K (.ref C_InvalidText) "given" = some none)
    (aC_WrongValue : PySem.W.nsIn K mainGlobals "WrongValue" = some (some (.ref C_WrongValue)))
    (aC_WrongName : PySem.W.nsIn K mainGlobals "WrongName" = some (some (.ref C_WrongName)))
    (aC_NotPossible : PySem.W.nsIn K mainGlobals "NotPossible" = some (some (.ref C_NotPossible)))
    (aC_InvalidNumber : PySem.W.nsIn K mainGlobals "InvalidNumber" = some (some (.ref C_InvalidNumber)))
    (aC_NotAChange : PySem.W.nsIn K mainGlobals "NotAChange" = some (some (.ref C_NotAChange)))
    (aC_OtherWorld : PySem.W.nsIn K mainGlobals "OtherWorld" = some (some (.ref C_OtherWorld)))
    (xe_0 : PySem.W.exmOne K (.ref C_InvalidNumbers) (.ref C_WrongValue) = some true)
    (xe_1 : PySem.W.exmOne K (.ref C_InvalidNumbers) (.ref C_WrongName) = some false)
    (xe_2 : PySem.W.exmOne K (.ref C_InvalidNumbers) (.ref C_NotPossible) = some false)
    (xe_3 : PySem.W.exmOne K (.ref C_InvalidText) (.ref C_WrongValue) = some true)
    (xe_4 : PySem.W.exmOne K (.ref C_InvalidText) (.ref C_WrongName) = some false)
    (xe_5 : PySem.W.exmOne K (.ref C_InvalidText) (.ref C_NotPossible) = some false)
    (ke_0 : PySem.W.kitOne K (.ref C_InvalidNumbers) (.ref C_InvalidNumbers) = some true)
    (ke_1 : PySem.W.kitOne K (.ref C_InvalidNumbers) (.ref C_InvalidText) = some false)
    (ke_2 : PySem.W.kitOne K (.ref C_InvalidNumbers) (.ref C_InvalidNumber) = some false)
    (ke_3 : PySem.W.kitOne K (.ref C_InvalidNumbers) (.ref C_WrongValue) = some true)
    (ke_4 : PySem.W.kitOne K (.ref C_InvalidNumbers) (.ref C_WrongName) = some false)
    (ke_5 : PySem.W.kitOne K (.ref C_InvalidNumbers) (.ref C_NotPossible) = some false)
    (ke_6 : PySem.W.kitOne K (.ref C_InvalidNumbers) (.ref C_NotAChange) = some false)
    (ke_7 : PySem.W.kitOne K (.ref C_InvalidNumbers) (.ref C_OtherWorld) = some false)
    (ke_8 : PySem.W.kitOne K (.ref C_InvalidText) (.ref C_InvalidNumbers) = some false)
    (ke_9 : PySem.W.kitOne K (.ref C_InvalidText) (.ref C_InvalidText) = some true)
    (ke_10 : PySem.W.kitOne K (.ref C_InvalidText) (.ref C_InvalidNumber) = some false)
    (ke_11 : PySem.W.kitOne K (.ref C_InvalidText) (.ref C_WrongValue) = some true)
    (ke_12 : PySem.W.kitOne K (.ref C_InvalidText) (.ref C_WrongName) = some false)
    (ke_13 : PySem.W.kitOne K (.ref C_InvalidText) (.ref C_NotPossible) = some false)
    (ke_14 : PySem.W.kitOne K (.ref C_InvalidText) (.ref C_NotAChange) = some false)
    (ke_15 : PySem.W.kitOne K (.ref C_InvalidText) (.ref C_OtherWorld) = some false)
    (ky_0 : PySem.W.kitOne K (.ref C_InvalidNumbers) (.type "ValueError") = some true)
    (ky_1 : PySem.W.kitOne K (.ref C_InvalidNumbers) (.type "LookupError") = some false)
    (ky_2 : PySem.W.kitOne K (.ref C_InvalidNumbers) (.type "ArithmeticError") = some false)
    (ky_3 : PySem.W.kitOne K (.ref C_InvalidText) (.type "ValueError") = some true)
    (ky_4 : PySem.W.kitOne K (.ref C_InvalidText) (.type "LookupError") = some false)
    (ky_5 : PySem.W.kitOne K (.ref C_InvalidText) (.type "ArithmeticError") = some false)
    (it_0 : PySem.W.kitOne K (.type "NoneType") (.type "int") = some false)
    (it_1 : PySem.W.kitOne K (.type "NoneType") (.type "bool") = some false)
    (it_2 : PySem.W.kitOne K (.type "NoneType") (.type "tuple") = some false)
    (it_3 : PySem.W.kitOne K (.type "NoneType") (.type "str") = some false)
    (it_4 : PySem.W.kitOne K (.type "NoneType") (.ref C_Point) = some false)
    (it_5 : PySem.W.kitOne K (.type "bool") (.type "int") = some true)
    (it_6 : PySem.W.kitOne K (.type "bool") (.type "bool") = some true)
    (it_7 : PySem.W.kitOne K (.type "bool") (.type "tuple") = some false)
    (it_8 : PySem.W.kitOne K (.type "bool") (.type "str") = some false)
    (it_9 : PySem.W.kitOne K (.type "bool") (.ref C_Point) = some false)
    (it_10 : PySem.W.kitOne K (.type "int") (.type "int") = some true)
    (it_11 : PySem.W.kitOne K (.type "int") (.type "bool") = some false)
    (it_12 : PySem.W.kitOne K (.type "int") (.type "tuple") = some false)
    (it_13 : PySem.W.kitOne K (.type "int") (.type "str") = some false)
    (it_14 : PySem.W.kitOne K (.type "int") (.ref C_Point) = some false)
    (it_15 : PySem.W.kitOne K (.type "str") (.type "int") = some false)
    (it_16 : PySem.W.kitOne K (.type "str") (.type "bool") = some false)
    (it_17 : PySem.W.kitOne K (.type "str") (.type "tuple") = some false)
    (it_18 : PySem.W.kitOne K (.type "str") (.type "str") = some true)
    (it_19 : PySem.W.kitOne K (.type "str") (.ref C_Point) = some false)
    (it_20 : PySem.W.kitOne K (.type "tuple") (.type "int") = some false)
    (it_21 : PySem.W.kitOne K (.type "tuple") (.type "bool") = some false)
    (it_22 : PySem.W.kitOne K (.type "tuple") (.type "tuple") = some true)
    (it_23 : PySem.W.kitOne K (.type "tuple") (.type "str") = some false)
    (it_24 : PySem.W.kitOne K (.type "tuple") (.ref C_Point) = some false)
    (it_25 : PySem.W.kitOne K (.type "list") (.type "int") = some false)
    (it_26 : PySem.W.kitOne K (.type "list") (.type "bool") = some false)
    (it_27 : PySem.W.kitOne K (.type "list") (.type "tuple") = some false)
    (it_28 : PySem.W.kitOne K (.type "list") (.type "str") = some false)
    (it_29 : PySem.W.kitOne K (.type "list") (.ref C_Point) = some false)
    (it_30 : PySem.W.kitOne K (.type "dict") (.type "int") = some false)
    (it_31 : PySem.W.kitOne K (.type "dict") (.type "bool") = some false)
    (it_32 : PySem.W.kitOne K (.type "dict") (.type "tuple") = some false)
    (it_33 : PySem.W.kitOne K (.type "dict") (.type "str") = some false)
    (it_34 : PySem.W.kitOne K (.type "dict") (.ref C_Point) = some false)
    (it_35 : PySem.W.kitOne K (.ref C_Point) (.type "int") = some false)
    (it_36 : PySem.W.kitOne K (.ref C_Point) (.type "bool") = some false)
    (it_37 : PySem.W.kitOne K (.ref C_Point) (.type "tuple") = some false)
    (it_38 : PySem.W.kitOne K (.ref C_Point) (.type "str") = some false)
    (it_39 : PySem.W.kitOne K (.ref C_Point) (.ref C_Point) = some true)
    (ci_MOST_WIDTH : PySem.W.nsIn K mainGlobals "MOST_WIDTH" = some (some (.int (3) t_MOST_WIDTH)))
    (ci_BLOCK : PySem.W.nsIn K mainGlobals "BLOCK" = some (some (.int (10000000000000000000000000000000000000000000000000000000000000000) t_BLOCK)))
    (ci_BLOCK_DIGITS : PySem.W.nsIn K mainGlobals "BLOCK_DIGITS" = some (some (.int (64) t_BLOCK_DIGITS)))
    (ci_DIGITS : PySem.W.nsIn K mainGlobals "DIGITS" = some (some (.str "0123456789" t_DIGITS)))
    (n_int : PySem.W.nsIn K mainGlobals "int" = some none)
    (n_bool : PySem.W.nsIn K mainGlobals "bool" = some none)
    (n_str : PySem.W.nsIn K mainGlobals "str" = some none)
    (n_tuple : PySem.W.nsIn K mainGlobals "tuple" = some none)
    (n_isinstance : PySem.W.nsIn K mainGlobals "isinstance" = some none)
    (n_len : PySem.W.nsIn K mainGlobals "len" = some none)
    (n_abs : PySem.W.nsIn K mainGlobals "abs" = some none)
    (n_repr : PySem.W.nsIn K mainGlobals "repr" = some none)
    (n_all : PySem.W.nsIn K mainGlobals "all" = some none)
    (n_range : PySem.W.nsIn K mainGlobals "range" = some none)
    (n_divmod : PySem.W.nsIn K mainGlobals "divmod" = some none)
    (n_ValueError : PySem.W.nsIn K mainGlobals "ValueError" = some none)
    (n_LookupError : PySem.W.nsIn K mainGlobals "LookupError" = some none)
    (n_ArithmeticError : PySem.W.nsIn K mainGlobals "ArithmeticError" = some none) : ∃ T : Tx w K mg, T.f_law = fa ∧ T.c_l_refused_right = ca22 ∧ T.P_l_refused_right = cp22 ∧ T.c_l_right = ca23 ∧ T.P_l_right = cp23 := by
  have e := hfa.symm.trans (PySem.W.mg_of X G a25)
  cases e
  have F0 := fun_mk (st := s_l_sip) l0 c0 k0
  have F1 := fun_mk (st := s_l_choose) l1 c1 k1
  have F2 := fun_mk (st := s_l_integer) l2 c2 k2
  have F3 := fun_mk (st := s_l_numbers) l3 c3 k3
  have F4 := fun_mk (st := s_is_integer) l4 c4 k4
  have F5 := fun_mk (st := s_is_numbers) l5 c5 k5
  have F6 := fun_mk (st := s_Point_init) l6 c6 k6
  have F7 := fun_mk (st := s_l_page) l7 c7 k7
  have F8 := fun_mk (st := s_Point_eq) l8 c8 k8
  have F9 := fun_mk (st := s_Point_numbers) l9 c9 k9
  have F10 := fun_mk (st := s_number_text) l10 c10 k10
  have F11 := fun_mk (st := s_numbers_text) l11 c11 k11
  have F12 := fun_mk (st := s_Point_str) l12 c12 k12
  have F13 := fun_mk (st := s_Point_len) l13 c13 k13
  have F14 := fun_mk (st := s_number_in) l14 c14 k14
  have F15 := fun_mk (st := s_Point_read) l15 c15 k15
  have F16 := fun_mk (st := s_l_bent) l16 c16 k16
  have F17 := fun_mk (st := s_l_is_integer) l17 c17 k17
  have F18 := fun_mk (st := s_l_read) l18 c18 k18
  have F19 := fun_mk (st := s_l_shown) l19 c19 k19
  have F20 := fun_mk (st := s_l_class) l20 c20 k20
  have F21 := fun_mk (st := s_l_heard) l21 c21 k21
  have F22 := fun_mkC (st := s_l_refused_right) l22 c22 k22
  have F23 := fun_mkC (st := s_l_right) l23 c23 k23
  have F24 := fun_mk (st := s_l_tun) l24 c24 k24
  have F25 := fun_mk (st := s_law) l25 c25 k25
  have F26 := fun_mk (st := s_InvalidNumbers_init) l26 c26 k26
  have F27 := fun_mk (st := s_InvalidText_init) l27 c27 k27
  exact ⟨{
    f_l_sip := f0
    d_l_sip := _
    F_l_sip := F0
    b_l_sip := F0.binds (ps := ["_law_tun_here", "_law_most"]) (fun _ _ _ _ _ _ us hl => match us, hl with | [_, _], _ => rfl)
    mg_l_sip := PySem.W.mg_of X G a0
    f_l_choose := f1
    d_l_choose := _
    F_l_choose := F1
    b_l_choose := F1.binds (ps := ["_law_tun_here", "_law_menu"]) (fun _ _ _ _ _ _ us hl => match us, hl with | [_, _], _ => rfl)
    mg_l_choose := PySem.W.mg_of X G a1
    f_l_integer := f2
    d_l_integer := _
    F_l_integer := F2
    b_l_integer := F2.binds (ps := ["_law_tun_here"]) (fun _ _ _ _ _ _ us hl => match us, hl with | [_], _ => rfl)
    mg_l_integer := PySem.W.mg_of X G a2
    f_l_numbers := f3
    d_l_numbers := _
    F_l_numbers := F3
    b_l_numbers := F3.binds (ps := ["_law_tun_here", "_law_wide"]) (fun _ _ _ _ _ _ us hl => match us, hl with | [_, _], _ => rfl)
    mg_l_numbers := PySem.W.mg_of X G a3
    f_is_integer := f4
    d_is_integer := _
    F_is_integer := F4
    b_is_integer := F4.binds (ps := ["value"]) (fun _ _ _ _ _ _ us hl => match us, hl with | [_], _ => rfl)
    mg_is_integer := PySem.W.mg_of X G a4
    f_is_numbers := f5
    d_is_numbers := _
    F_is_numbers := F5
    b_is_numbers := F5.binds (ps := ["value"]) (fun _ _ _ _ _ _ us hl => match us, hl with | [_], _ => rfl)
    mg_is_numbers := PySem.W.mg_of X G a5
    f_Point_init := f6
    d_Point_init := _
    F_Point_init := F6
    b_Point_init := F6.binds (ps := ["self", "numbers"]) (fun _ _ _ _ _ _ us hl => match us, hl with | [_, _], _ => rfl)
    f_l_page := f7
    d_l_page := _
    F_l_page := F7
    b_l_page := F7.binds (ps := ["_law_numbers_here"]) (fun _ _ _ _ _ _ us hl => match us, hl with | [_], _ => rfl)
    mg_l_page := PySem.W.mg_of X G a7
    f_Point_eq := f8
    d_Point_eq := _
    F_Point_eq := F8
    b_Point_eq := F8.binds (ps := ["self", "other"]) (fun _ _ _ _ _ _ us hl => match us, hl with | [_, _], _ => rfl)
    f_Point_numbers := f9
    d_Point_numbers := _
    F_Point_numbers := F9
    b_Point_numbers := F9.binds (ps := ["self"]) (fun _ _ _ _ _ _ us hl => match us, hl with | [_], _ => rfl)
    f_number_text := f10
    d_number_text := _
    F_number_text := F10
    b_number_text := F10.binds (ps := ["number"]) (fun _ _ _ _ _ _ us hl => match us, hl with | [_], _ => rfl)
    mg_number_text := PySem.W.mg_of X G a10
    f_numbers_text := f11
    d_numbers_text := _
    F_numbers_text := F11
    b_numbers_text := F11.binds (ps := ["numbers"]) (fun _ _ _ _ _ _ us hl => match us, hl with | [_], _ => rfl)
    mg_numbers_text := PySem.W.mg_of X G a11
    f_Point_str := f12
    d_Point_str := _
    F_Point_str := F12
    b_Point_str := F12.binds (ps := ["self"]) (fun _ _ _ _ _ _ us hl => match us, hl with | [_], _ => rfl)
    f_Point_len := f13
    d_Point_len := _
    F_Point_len := F13
    b_Point_len := F13.binds (ps := ["self"]) (fun _ _ _ _ _ _ us hl => match us, hl with | [_], _ => rfl)
    f_number_in := f14
    d_number_in := _
    F_number_in := F14
    b_number_in := F14.binds (ps := ["text"]) (fun _ _ _ _ _ _ us hl => match us, hl with | [_], _ => rfl)
    mg_number_in := PySem.W.mg_of X G a14
    f_Point_read := f15
    d_Point_read := _
    F_Point_read := F15
    b_Point_read := F15.binds (ps := ["cls", "text"]) (fun _ _ _ _ _ _ us hl => match us, hl with | [_, _], _ => rfl)
    f_l_bent := f16
    d_l_bent := _
    F_l_bent := F16
    b_l_bent := F16.binds (ps := ["_law_tun_here", "_law_text_here"]) (fun _ _ _ _ _ _ us hl => match us, hl with | [_, _], _ => rfl)
    mg_l_bent := PySem.W.mg_of X G a16
    f_l_is_integer := f17
    d_l_is_integer := _
    F_l_is_integer := F17
    b_l_is_integer := F17.binds (ps := ["_law_word_here"]) (fun _ _ _ _ _ _ us hl => match us, hl with | [_], _ => rfl)
    mg_l_is_integer := PySem.W.mg_of X G a17
    f_l_read := f18
    d_l_read := _
    F_l_read := F18
    b_l_read := F18.binds (ps := ["_law_text_here"]) (fun _ _ _ _ _ _ us hl => match us, hl with | [_], _ => rfl)
    mg_l_read := PySem.W.mg_of X G a18
    f_l_shown := f19
    d_l_shown := _
    F_l_shown := F19
    b_l_shown := F19.binds (ps := ["_law_thing"]) (fun _ _ _ _ _ _ us hl => match us, hl with | [_], _ => rfl)
    mg_l_shown := PySem.W.mg_of X G a19
    f_l_class := f20
    d_l_class := _
    F_l_class := F20
    b_l_class := F20.binds (ps := ["_law_e"]) (fun _ _ _ _ _ _ us hl => match us, hl with | [_], _ => rfl)
    mg_l_class := PySem.W.mg_of X G a20
    f_l_heard := f21
    d_l_heard := _
    F_l_heard := F21
    b_l_heard := F21.binds (ps := ["_law_act"]) (fun _ _ _ _ _ _ us hl => match us, hl with | [_], _ => rfl)
    mg_l_heard := PySem.W.mg_of X G a21
    c_l_refused_right := ca22
    P_l_refused_right := cp22
    f_l_refused_right := f22
    d_l_refused_right := _
    F_l_refused_right := F22
    b_l_refused_right := F22.fun.binds (ps := ["_law_tun_here"]) (fun _ _ _ _ _ _ us hl => match us, hl with | [_], _ => rfl)
    mg_l_refused_right := PySem.W.mg_of X G a22
    c_l_right := ca23
    P_l_right := cp23
    f_l_right := f23
    d_l_right := _
    F_l_right := F23
    b_l_right := F23.fun.binds (ps := ["_law_tun_here"]) (fun _ _ _ _ _ _ us hl => match us, hl with | [_], _ => rfl)
    mg_l_right := PySem.W.mg_of X G a23
    f_l_tun := f24
    d_l_tun := _
    F_l_tun := F24
    b_l_tun := F24.binds (ps := ["_law_script", "_law_turn"]) (fun _ _ _ _ _ _ us hl => match us, hl with | [_, _], _ => rfl)
    mg_l_tun := PySem.W.mg_of X G a24
    f_law := fa
    d_law := _
    F_law := F25
    b_law := F25.binds (ps := ["_law_script"]) (fun _ _ _ _ _ _ us hl => match us, hl with | [_], _ => rfl)
    mg_law := PySem.W.mg_of X G a25
    f_InvalidNumbers_init := f26
    d_InvalidNumbers_init := _
    F_InvalidNumbers_init := F26
    b_InvalidNumbers_init := F26.binds (ps := ["self", "given"]) (fun _ _ _ _ _ _ us hl => match us, hl with | [_, _], _ => rfl)
    f_InvalidText_init := f27
    d_InvalidText_init := _
    F_InvalidText_init := F27
    b_InvalidText_init := F27.binds (ps := ["self", "given"]) (fun _ _ _ _ _ _ us hl => match us, hl with | [_, _], _ => rfl)
    C_Point := C_Point
    mg_Point := PySem.W.mg_of X G aC_Point
    ct_Point := aC_Point
    cl_Point := ⟨pg_Point, hd_Point, po_Point, sa_Point⟩
    mk_Point := ⟨mk_Point, ii_Point, ij_Point, kc_Point⟩
    eqC_Point := ⟨ea_Point, eb_Point, nm_Point, qq_Point, Ns_Point, bs_Point, hdd_Point, sn_Point, sb_Point, ab_Point, col_Point, dd_Point, k0_Point, k1_Point, k2_Point, k3_Point, k5_Point, nid_Point, ec_Point, ed_Point, ee_Point, ef_Point⟩
    pp_Point_numbers := pp_Point_numbers
    pr_Point_numbers := ⟨pa_Point_numbers, pb_Point_numbers, pc_Point_numbers, rp_Point_numbers, pd_Point_numbers⟩
    stC_Point := ⟨sta_Point, stb_Point⟩
    lnC_Point := ⟨lnCa_Point, lnCb_Point⟩
    pm_Point_read := pm_Point_read
    cm_Point_read := ⟨ma_Point_read, ⟨rm_Point_read, mb_Point_read⟩, mc_Point_read⟩
    cr_Point := ⟨ra_Point, rb_Point⟩
    nb_Point := nb_Point
    na_Point__numbers := na_Point__numbers
    isi_Point := ⟨⟨pg_Point, hd_Point, po_Point, sa_Point⟩, ia_Point, ib_Point, ic_Point, id_Point⟩
    C_InvalidNumbers := C_InvalidNumbers
    mg_InvalidNumbers := PySem.W.mg_of X G aC_InvalidNumbers
    ct_InvalidNumbers := aC_InvalidNumbers
    ox_InvalidNumbers := ⟨⟨_, _, _, _, .ve, xi_InvalidNumbers, xo_InvalidNumbers⟩, xd_InvalidNumbers, xs_InvalidNumbers, xb_InvalidNumbers, xy_InvalidNumbers, xk_InvalidNumbers⟩
    tk_InvalidNumbers := xt_InvalidNumbers
    ii_InvalidNumbers := ii_InvalidNumbers
    ty_InvalidNumbers := xz_InvalidNumbers
    xf_InvalidNumbers := ⟨⟨xg_InvalidNumbers, xh_InvalidNumbers, xb_InvalidNumbers, xd_InvalidNumbers, xc_InvalidNumbers, xp_InvalidNumbers, xq_InvalidNumbers, xm_InvalidNumbers⟩, xw_InvalidNumbers, ⟨xg_InvalidNumbers, xh_InvalidNumbers, xb_InvalidNumbers, xd_InvalidNumbers⟩, xn_InvalidNumbers⟩
    C_InvalidText := C_InvalidText
    mg_InvalidText := PySem.W.mg_of X G aC_InvalidText
    ct_InvalidText := aC_InvalidText
    ox_InvalidText := ⟨⟨_, _, _, _, .ve, xi_InvalidText, xo_InvalidText⟩, xd_InvalidText, xs_InvalidText, xb_InvalidText, xy_InvalidText, xk_InvalidText⟩
    tk_InvalidText := xt_InvalidText
    ii_InvalidText := ii_InvalidText
    ty_InvalidText := xz_InvalidText
    xf_InvalidText := ⟨⟨xg_InvalidText, xh_InvalidText, xb_InvalidText, xd_InvalidText, xc_InvalidText, xp_InvalidText, xq_InvalidText, xm_InvalidText⟩, xw_InvalidText, ⟨xg_InvalidText, xh_InvalidText, xb_InvalidText, xd_InvalidText⟩, xn_InvalidText⟩
    C_WrongValue := C_WrongValue
    mg_WrongValue := PySem.W.mg_of X G aC_WrongValue
    ct_WrongValue := aC_WrongValue
    C_WrongName := C_WrongName
    mg_WrongName := PySem.W.mg_of X G aC_WrongName
    ct_WrongName := aC_WrongName
    C_NotPossible := C_NotPossible
    mg_NotPossible := PySem.W.mg_of X G aC_NotPossible
    ct_NotPossible := aC_NotPossible
    C_InvalidNumber := C_InvalidNumber
    mg_InvalidNumber := PySem.W.mg_of X G aC_InvalidNumber
    ct_InvalidNumber := aC_InvalidNumber
    C_NotAChange := C_NotAChange
    mg_NotAChange := PySem.W.mg_of X G aC_NotAChange
    ct_NotAChange := aC_NotAChange
    C_OtherWorld := C_OtherWorld
    mg_OtherWorld := PySem.W.mg_of X G aC_OtherWorld
    ct_OtherWorld := aC_OtherWorld
    xe_0 := xe_0
    xe_1 := xe_1
    xe_2 := xe_2
    xe_3 := xe_3
    xe_4 := xe_4
    xe_5 := xe_5
    ke_0 := ke_0
    ke_1 := ke_1
    ke_2 := ke_2
    ke_3 := ke_3
    ke_4 := ke_4
    ke_5 := ke_5
    ke_6 := ke_6
    ke_7 := ke_7
    ke_8 := ke_8
    ke_9 := ke_9
    ke_10 := ke_10
    ke_11 := ke_11
    ke_12 := ke_12
    ke_13 := ke_13
    ke_14 := ke_14
    ke_15 := ke_15
    ky_0 := ky_0
    ky_1 := ky_1
    ky_2 := ky_2
    ky_3 := ky_3
    ky_4 := ky_4
    ky_5 := ky_5
    it_0 := it_0
    it_1 := it_1
    it_2 := it_2
    it_3 := it_3
    it_4 := it_4
    it_5 := it_5
    it_6 := it_6
    it_7 := it_7
    it_8 := it_8
    it_9 := it_9
    it_10 := it_10
    it_11 := it_11
    it_12 := it_12
    it_13 := it_13
    it_14 := it_14
    it_15 := it_15
    it_16 := it_16
    it_17 := it_17
    it_18 := it_18
    it_19 := it_19
    it_20 := it_20
    it_21 := it_21
    it_22 := it_22
    it_23 := it_23
    it_24 := it_24
    it_25 := it_25
    it_26 := it_26
    it_27 := it_27
    it_28 := it_28
    it_29 := it_29
    it_30 := it_30
    it_31 := it_31
    it_32 := it_32
    it_33 := it_33
    it_34 := it_34
    it_35 := it_35
    it_36 := it_36
    it_37 := it_37
    it_38 := it_38
    it_39 := it_39
    t_MOST_WIDTH := t_MOST_WIDTH
    c_MOST_WIDTH := PySem.W.mg_of X G ci_MOST_WIDTH
    t_BLOCK := t_BLOCK
    c_BLOCK := PySem.W.mg_of X G ci_BLOCK
    t_BLOCK_DIGITS := t_BLOCK_DIGITS
    c_BLOCK_DIGITS := PySem.W.mg_of X G ci_BLOCK_DIGITS
    t_DIGITS := t_DIGITS
    c_DIGITS := PySem.W.mg_of X G ci_DIGITS
    n_int := PySem.W.mg_none_of X G n_int
    n_bool := PySem.W.mg_none_of X G n_bool
    n_str := PySem.W.mg_none_of X G n_str
    n_tuple := PySem.W.mg_none_of X G n_tuple
    n_isinstance := PySem.W.mg_none_of X G n_isinstance
    n_len := PySem.W.mg_none_of X G n_len
    n_abs := PySem.W.mg_none_of X G n_abs
    n_repr := PySem.W.mg_none_of X G n_repr
    n_all := PySem.W.mg_none_of X G n_all
    n_range := PySem.W.mg_none_of X G n_range
    n_divmod := PySem.W.mg_none_of X G n_divmod
    n_ValueError := PySem.W.mg_none_of X G n_ValueError
    n_LookupError := PySem.W.mg_none_of X G n_LookupError
    n_ArithmeticError := PySem.W.mg_none_of X G n_ArithmeticError }, rfl, rfl, rfl, rfl, rfl⟩
theorem fin {P : Program} {w : World} {K : PySem.W.Frag} {mg : Str → Option Value} {fa : Addr} {h : Heap} {ca22 cp22 ca23 cp23 : Addr} (KX : K.In h) (mt22 : h.get? cp22 = some (PySem.W.tabObj #[])) (nt22 : K.lookup cp22 = none) (ch22 : PySem.W.codeHdIn K ca22 cp22 = true) (mt23 : h.get? cp23 = some (PySem.W.tabObj #[])) (nt23 : K.lookup cp23 = none) (ch23 : PySem.W.codeHdIn K ca23 cp23 = true) (ds22_23 : cp22 ≠ cp23) (hh : ∃ T : Tx w K mg, T.f_law = fa ∧ T.c_l_refused_right = ca22 ∧ T.P_l_refused_right = cp22 ∧ T.c_l_right = ca23 ∧ T.P_l_right = cp23) :
    ∃ (fd : FuncData) (cs : List (Addr × Addr)) (T : List (Addr × Str)), (∀ p ∈ T, p.1 ∈ cs.map (·.2)) ∧ (∀ p ∈ cs, h.get? p.2 = some (PySem.W.tabObj #[])) ∧ (∀ p ∈ cs, K.lookup p.2 = none) ∧ (∀ p ∈ cs, PySem.W.CodeHd h p.1 p.2) ∧
      (∀ (s : Shared) (u : Value), BindsTo s fd ⟨[u], []⟩ [("_law_script", u)]) ∧ ∀ base : Heap, K.In base → base.Ns mainGlobals mg → (∀ p ∈ cs, TabB base mg p.1 p.2) → FnG P w K mg base CX0 13 fa fd ["_law_script"] (@spF (TbC.tabs T) K F_law) := by
  obtain ⟨T, rfl, rfl, rfl, rfl, rfl⟩ := hh
  refine ⟨T.d_law, [(T.c_l_refused_right, T.P_l_refused_right), (T.c_l_right, T.P_l_right)], [(T.P_l_refused_right, (("_law_refused_right" : Str) ++ ".<locals>.") ++ "<lambda>"), (T.P_l_right, (("_law_right" : Str) ++ ".<locals>.") ++ "<lambda>")], ?_, ?_, ?_, ?_, fun s u => ?_, fun base _ _ tb => ?_⟩
  · intro p hp
    simp only [List.mem_cons, List.not_mem_nil, or_false] at hp
    rcases hp with rfl | rfl <;> simp
  · intro p hp
    simp only [List.mem_cons, List.not_mem_nil, or_false] at hp
    rcases hp with rfl | rfl <;> assumption
  · intro p hp
    simp only [List.mem_cons, List.not_mem_nil, or_false] at hp
    rcases hp with rfl | rfl <;> assumption
  · intro p hp
    simp only [List.mem_cons, List.not_mem_nil, or_false] at hp
    rcases hp with rfl | rfl <;> exact PySem.W.codeHd_of_K KX (by assumption)
  · obtain ⟨oc, od, kV, doc, pm, an, cdv, ct, osl, e, _⟩ := T.F_law.ex
    rw [e]
    exact .of_eq rfl
  · letI : TbC := TbC.tabs [(T.P_l_refused_right, (("_law_refused_right" : Str) ++ ".<locals>.") ++ "<lambda>"), (T.P_l_right, (("_law_right" : Str) ++ ".<locals>.") ++ "<lambda>")]
    have B : Tb T base := {
      ne := by simp
      tb_l_refused_right := tb (T.c_l_refused_right, T.P_l_refused_right) (by simp)
      m_l_refused_right := (show _ ∈ [(T.P_l_refused_right, (("_law_refused_right" : Str) ++ ".<locals>.") ++ "<lambda>"), (T.P_l_right, (("_law_right" : Str) ++ ".<locals>.") ++ "<lambda>")] from by simp)
      u_l_refused_right := by
        intro p hp e
        have hp : p ∈ [(T.P_l_refused_right, (("_law_refused_right" : Str) ++ ".<locals>.") ++ "<lambda>"), (T.P_l_right, (("_law_right" : Str) ++ ".<locals>.") ++ "<lambda>")] := hp
        simp only [List.mem_cons, List.not_mem_nil, or_false] at hp
        rcases hp with rfl | rfl <;> first | (exact absurd e (by assumption)) | (exact absurd e.symm (by assumption)) | rfl
      tb_l_right := tb (T.c_l_right, T.P_l_right) (by simp)
      m_l_right := (show _ ∈ [(T.P_l_refused_right, (("_law_refused_right" : Str) ++ ".<locals>.") ++ "<lambda>"), (T.P_l_right, (("_law_right" : Str) ++ ".<locals>.") ++ "<lambda>")] from by simp)
      u_l_right := by
        intro p hp e
        have hp : p ∈ [(T.P_l_refused_right, (("_law_refused_right" : Str) ++ ".<locals>.") ++ "<lambda>"), (T.P_l_right, (("_law_right" : Str) ++ ".<locals>.") ++ "<lambda>")] := hp
        simp only [List.mem_cons, List.not_mem_nil, or_false] at hp
        rcases hp with rfl | rfl <;> first | (exact absurd e (by assumption)) | (exact absurd e.symm (by assumption)) | rfl
    }
    exact ok_law T B
end Kq
open PySem PySem.W PyProof.Rows
set_option maxRecDepth 100000 in
set_option maxHeartbeats 0 in
theorem PySem.Challenge.cw_pressworlds_k22_whole_points_made_and_re_holds : PySem.Challenge.rw_pressworlds_k22_whole_points_made_and_re.Holds := by
  w_on; o_law; k_head; (case hw => w_witness2)
  k_fill
  refine DF.walkT (FF0 := Kq.F_law) (fun t => @Kq.hF0 t) (l := PySem.Challenge.rw_pressworlds_k22_whole_points_made_and_re) (k := 13) (x := "_law_script") rfl rfl ⟨rfl, by decide, by decide⟩ (fun w h Y => PySem.W.km_in_of Y) ?F
  case F =>
    intro w mg fa h Y KX G hmg
    refine' Kq.fin KX ?mt22 ?nt22 ?ch22 ?mt23 ?nt23 ?ch23 ?ds22_23 (Kq.all_mk KX G hmg ?a0 ?l0 ?c0 ?k0 ?a1 ?l1 ?c1 ?k1 ?a2 ?l2 ?c2 ?k2 ?a3 ?l3 ?c3 ?k3 ?a4 ?l4 ?c4 ?k4 ?a5 ?l5 ?c5 ?k5 ?l6 ?c6 ?k6 ?a7 ?l7 ?c7 ?k7 ?l8 ?c8 ?k8 ?l9 ?c9 ?k9 ?a10 ?l10 ?c10 ?k10 ?a11 ?l11 ?c11 ?k11 ?l12 ?c12 ?k12 ?l13 ?c13 ?k13 ?a14 ?l14 ?c14 ?k14 ?l15 ?c15 ?k15 ?a16 ?l16 ?c16 ?k16 ?a17 ?l17 ?c17 ?k17 ?a18 ?l18 ?c18 ?k18 ?a19 ?l19 ?c19 ?k19 ?a20 ?l20 ?c20 ?k20 ?a21 ?l21 ?c21 ?k21 ?a22 ?l22 ?x1_22 ?x2_22 ?c22 ?k22 ?a23 ?l23 ?x1_23 ?x2_23 ?c23 ?k23 ?a24 ?l24 ?c24 ?k24 ?a25 ?l25 ?c25 ?k25 ?l26 ?c26 ?k26 ?l27 ?c27 ?k27 ?aC_Point ?pg_Point ?hd_Point ?po_Point ?sa_Point ?mk_Point ?kc_Point ?ii_Point ?ij_Point ?ea_Point ?eb_Point ?ec_Point ?ed_Point ?ee_Point ?ef_Point ?pa_Point_numbers ?pb_Point_numbers ?pc_Point_numbers ?pd_Point_numbers ?sta_Point ?stb_Point ?lnCa_Point ?lnCb_Point ?ma_Point_read ?mb_Point_read ?mc_Point_read ?ra_Point ?rb_Point ?nb_Point ?na_Point__numbers ?ia_Point ?ib_Point ?ic_Point ?id_Point ?aC_InvalidNumbers ?ii_InvalidNumbers ?xi_InvalidNumbers ?xo_InvalidNumbers ?xd_InvalidNumbers ?xs_InvalidNumbers ?xb_InvalidNumbers ?xy_InvalidNumbers ?xk_InvalidNumbers ?xt_InvalidNumbers ?xz_InvalidNumbers ?xg_InvalidNumbers ?xh_InvalidNumbers ?xc_InvalidNumbers ?xp_InvalidNumbers ?xq_InvalidNumbers ?xm_InvalidNumbers ?xw_InvalidNumbers ?xn_InvalidNumbers ?aC_InvalidText ?ii_InvalidText ?xi_InvalidText ?xo_InvalidText ?xd_InvalidText ?xs_InvalidText ?xb_InvalidText ?xy_InvalidText ?xk_InvalidText ?xt_InvalidText ?xz_InvalidText ?xg_InvalidText ?xh_InvalidText ?xc_InvalidText ?xp_InvalidText ?xq_InvalidText ?xm_InvalidText ?xw_InvalidText ?xn_InvalidText ?aC_WrongValue ?aC_WrongName ?aC_NotPossible ?aC_InvalidNumber ?aC_NotAChange ?aC_OtherWorld ?xe_0 ?xe_1 ?xe_2 ?xe_3 ?xe_4 ?xe_5 ?ke_0 ?ke_1 ?ke_2 ?ke_3 ?ke_4 ?ke_5 ?ke_6 ?ke_7 ?ke_8 ?ke_9 ?ke_10 ?ke_11 ?ke_12 ?ke_13 ?ke_14 ?ke_15 ?ky_0 ?ky_1 ?ky_2 ?ky_3 ?ky_4 ?ky_5 ?it_0 ?it_1 ?it_2 ?it_3 ?it_4 ?it_5 ?it_6 ?it_7 ?it_8 ?it_9 ?it_10 ?it_11 ?it_12 ?it_13 ?it_14 ?it_15 ?it_16 ?it_17 ?it_18 ?it_19 ?it_20 ?it_21 ?it_22 ?it_23 ?it_24 ?it_25 ?it_26 ?it_27 ?it_28 ?it_29 ?it_30 ?it_31 ?it_32 ?it_33 ?it_34 ?it_35 ?it_36 ?it_37 ?it_38 ?it_39 ?ci_MOST_WIDTH ?ci_BLOCK ?ci_BLOCK_DIGITS ?ci_DIGITS ?n_int ?n_bool ?n_str ?n_tuple ?n_isinstance ?n_len ?n_abs ?n_repr ?n_all ?n_range ?n_divmod ?n_ValueError ?n_LookupError ?n_ArithmeticError)
    (case aC_Point => k_is); (case ii_Point => k_is); (case ea_Point => k_is); (case pa_Point_numbers => k_is); (case pd_Point_numbers => k_is); (case sta_Point => k_is); (case lnCa_Point => k_is); (case ma_Point_read => k_is); (case mb_Point_read => k_is); (case aC_InvalidNumbers => k_is); (case ii_InvalidNumbers => k_is); (case aC_InvalidText => k_is); (case ii_InvalidText => k_is); (case aC_WrongValue => k_is); (case aC_WrongName => k_is); (case aC_NotPossible => k_is); (case aC_InvalidNumber => k_is); (case aC_NotAChange => k_is); (case aC_OtherWorld => k_is); (case a0 => k_is); (case a1 => k_is); (case a2 => k_is); (case a3 => k_is); (case a4 => k_is); (case a5 => k_is); (case a7 => k_is); (case a10 => k_is); (case a11 => k_is); (case a14 => k_is); (case a16 => k_is); (case a17 => k_is); (case a18 => k_is); (case a19 => k_is); (case a20 => k_is); (case a21 => k_is); (case a22 => k_is); (case a23 => k_is); (case a24 => k_is); (case a25 => k_is); (case l0 => k_is); (case c0 => k_is); (case k0 => k_is); (case l1 => k_is); (case c1 => k_is); (case k1 => k_is); (case l2 => k_is); (case c2 => k_is); (case k2 => k_is); (case l3 => k_is); (case c3 => k_is); (case k3 => k_is); (case l4 => k_is); (case c4 => k_is); (case k4 => k_is); (case l5 => k_is); (case c5 => k_is); (case k5 => k_is); (case l6 => k_is); (case c6 => k_is); (case k6 => k_is); (case l7 => k_is); (case c7 => k_is); (case k7 => k_is); (case l8 => k_is); (case c8 => k_is); (case k8 => k_is); (case l9 => k_is); (case c9 => k_is); (case k9 => k_is); (case l10 => k_is); (case c10 => k_is); (case k10 => k_is); (case l11 => k_is); (case c11 => k_is); (case k11 => k_is); (case l12 => k_is); (case c12 => k_is); (case k12 => k_is); (case l13 => k_is); (case c13 => k_is); (case k13 => k_is); (case l14 => k_is); (case c14 => k_is); (case k14 => k_is); (case l15 => k_is); (case c15 => k_is); (case k15 => k_is); (case l16 => k_is); (case c16 => k_is); (case k16 => k_is); (case l17 => k_is); (case c17 => k_is); (case k17 => k_is); (case l18 => k_is); (case c18 => k_is); (case k18 => k_is); (case l19 => k_is); (case c19 => k_is); (case k19 => k_is); (case l20 => k_is); (case c20 => k_is); (case k20 => k_is); (case l21 => k_is); (case c21 => k_is); (case k21 => k_is); (case l22 => k_is); (case x1_22 => k_is); (case x2_22 => rfl); (case c22 => k_is); (case k22 => k_is); (case l23 => k_is); (case x1_23 => k_is); (case x2_23 => rfl); (case c23 => k_is); (case k23 => k_is); (case l24 => k_is); (case c24 => k_is); (case k24 => k_is); (case l25 => k_is); (case c25 => k_is); (case k25 => k_is); (case l26 => k_is); (case c26 => k_is); (case k26 => k_is); (case l27 => k_is); (case c27 => k_is); (case k27 => k_is); (case pg_Point => k_is); (case hd_Point => k_is); (case po_Point => k_is); (case sa_Point => k_is); (case mk_Point => k_is); (case kc_Point => k_is); (case ij_Point => k_is); (case eb_Point => k_is); (case ec_Point => k_is); (case ed_Point => first | exact (by rfl) | kernel_rfl); (case ee_Point => k_is); (case ef_Point => k_is); (case pb_Point_numbers => k_is); (case pc_Point_numbers => k_is); (case stb_Point => k_is); (case lnCb_Point => k_is); (case mc_Point_read => k_is); (case ra_Point => k_is); (case rb_Point => k_is); (case nb_Point => k_is); (case na_Point__numbers => k_is); (case ia_Point => k_is); (case ib_Point => k_is); (case ic_Point => k_is); (case id_Point => k_is); (case xi_InvalidNumbers => first | k_is | rfl | kernel_rfl); (case xo_InvalidNumbers => first | k_is | rfl | kernel_rfl); (case xd_InvalidNumbers => k_is); (case xs_InvalidNumbers => k_is); (case xb_InvalidNumbers => k_is); (case xy_InvalidNumbers => k_is); (case xk_InvalidNumbers => k_is); (case xt_InvalidNumbers => k_is); (case xz_InvalidNumbers => k_is); (case xg_InvalidNumbers => k_is); (case xh_InvalidNumbers => k_is); (case xc_InvalidNumbers => k_is); (case xp_InvalidNumbers => k_is); (case xq_InvalidNumbers => k_is); (case xm_InvalidNumbers => k_is); (case xw_InvalidNumbers => first | k_is | rfl | kernel_rfl); (case xn_InvalidNumbers => k_is); (case xi_InvalidText => first | k_is | rfl | kernel_rfl); (case xo_InvalidText => first | k_is | rfl | kernel_rfl); (case xd_InvalidText => k_is); (case xs_InvalidText => k_is); (case xb_InvalidText => k_is); (case xy_InvalidText => k_is); (case xk_InvalidText => k_is); (case xt_InvalidText => k_is); (case xz_InvalidText => k_is); (case xg_InvalidText => k_is); (case xh_InvalidText => k_is); (case xc_InvalidText => k_is); (case xp_InvalidText => k_is); (case xq_InvalidText => k_is); (case xm_InvalidText => k_is); (case xw_InvalidText => first | k_is | rfl | kernel_rfl); (case xn_InvalidText => k_is); (case xe_0 => first | k_is | rfl | kernel_rfl); (case xe_1 => first | k_is | rfl | kernel_rfl); (case xe_2 => first | k_is | rfl | kernel_rfl); (case xe_3 => first | k_is | rfl | kernel_rfl); (case xe_4 => first | k_is | rfl | kernel_rfl); (case xe_5 => first | k_is | rfl | kernel_rfl); (case ke_0 => first | k_is | rfl | kernel_rfl); (case ke_1 => first | k_is | rfl | kernel_rfl); (case ke_2 => first | k_is | rfl | kernel_rfl); (case ke_3 => first | k_is | rfl | kernel_rfl); (case ke_4 => first | k_is | rfl | kernel_rfl); (case ke_5 => first | k_is | rfl | kernel_rfl); (case ke_6 => first | k_is | rfl | kernel_rfl); (case ke_7 => first | k_is | rfl | kernel_rfl); (case ke_8 => first | k_is | rfl | kernel_rfl); (case ke_9 => first | k_is | rfl | kernel_rfl); (case ke_10 => first | k_is | rfl | kernel_rfl); (case ke_11 => first | k_is | rfl | kernel_rfl); (case ke_12 => first | k_is | rfl | kernel_rfl); (case ke_13 => first | k_is | rfl | kernel_rfl); (case ke_14 => first | k_is | rfl | kernel_rfl); (case ke_15 => first | k_is | rfl | kernel_rfl); (case ky_0 => first | k_is | rfl | kernel_rfl); (case ky_1 => first | k_is | rfl | kernel_rfl); (case ky_2 => first | k_is | rfl | kernel_rfl); (case ky_3 => first | k_is | rfl | kernel_rfl); (case ky_4 => first | k_is | rfl | kernel_rfl); (case ky_5 => first | k_is | rfl | kernel_rfl); (case it_0 => first | k_is | rfl | kernel_rfl); (case it_1 => first | k_is | rfl | kernel_rfl); (case it_2 => first | k_is | rfl | kernel_rfl); (case it_3 => first | k_is | rfl | kernel_rfl); (case it_4 => first | k_is | rfl | kernel_rfl); (case it_5 => first | k_is | rfl | kernel_rfl); (case it_6 => first | k_is | rfl | kernel_rfl); (case it_7 => first | k_is | rfl | kernel_rfl); (case it_8 => first | k_is | rfl | kernel_rfl); (case it_9 => first | k_is | rfl | kernel_rfl); (case it_10 => first | k_is | rfl | kernel_rfl); (case it_11 => first | k_is | rfl | kernel_rfl); (case it_12 => first | k_is | rfl | kernel_rfl); (case it_13 => first | k_is | rfl | kernel_rfl); (case it_14 => first | k_is | rfl | kernel_rfl); (case it_15 => first | k_is | rfl | kernel_rfl); (case it_16 => first | k_is | rfl | kernel_rfl); (case it_17 => first | k_is | rfl | kernel_rfl); (case it_18 => first | k_is | rfl | kernel_rfl); (case it_19 => first | k_is | rfl | kernel_rfl); (case it_20 => first | k_is | rfl | kernel_rfl); (case it_21 => first | k_is | rfl | kernel_rfl); (case it_22 => first | k_is | rfl | kernel_rfl); (case it_23 => first | k_is | rfl | kernel_rfl); (case it_24 => first | k_is | rfl | kernel_rfl); (case it_25 => first | k_is | rfl | kernel_rfl); (case it_26 => first | k_is | rfl | kernel_rfl); (case it_27 => first | k_is | rfl | kernel_rfl); (case it_28 => first | k_is | rfl | kernel_rfl); (case it_29 => first | k_is | rfl | kernel_rfl); (case it_30 => first | k_is | rfl | kernel_rfl); (case it_31 => first | k_is | rfl | kernel_rfl); (case it_32 => first | k_is | rfl | kernel_rfl); (case it_33 => first | k_is | rfl | kernel_rfl); (case it_34 => first | k_is | rfl | kernel_rfl); (case it_35 => first | k_is | rfl | kernel_rfl); (case it_36 => first | k_is | rfl | kernel_rfl); (case it_37 => first | k_is | rfl | kernel_rfl); (case it_38 => first | k_is | rfl | kernel_rfl); (case it_39 => first | k_is | rfl | kernel_rfl); (case ci_MOST_WIDTH => k_is); (case ci_BLOCK => k_is); (case ci_BLOCK_DIGITS => k_is); (case ci_DIGITS => k_is); (case n_int => k_is); (case n_bool => k_is); (case n_str => k_is); (case n_tuple => k_is); (case n_isinstance => k_is); (case n_len => k_is); (case n_abs => k_is); (case n_repr => k_is); (case n_all => k_is); (case n_range => k_is); (case n_divmod => k_is); (case n_ValueError => k_is); (case n_LookupError => k_is); (case n_ArithmeticError => k_is)
    (case mt22 => exact PySem.W.km_tabs_of Y _ (by decide)); (case nt22 => first | kernel_rfl | k_is | rfl); (case ch22 => first | kernel_rfl | k_is | rfl); (case mt23 => exact PySem.W.km_tabs_of Y _ (by decide)); (case nt23 => first | kernel_rfl | k_is | rfl); (case ch23 => first | kernel_rfl | k_is | rfl); (case ds22_23 => first | decide | k_is)

