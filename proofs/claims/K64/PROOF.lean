import PyProof.Rows.All
import Wide.All
import OpenK.AllK
import Wide.FinOn
import HandS.ForMost
import HandS.ForExc
import HandS.OwnEq
import HandS.IsInst
import HandS.Property
import HandS.Defaults
import HandS.MakeKw
import HandS.Wide
import HandS.WideBits
import HandS.NoneIn
import HandS.Style
import HandS.Deep
import HandS.Gcd
import HandS.Walk
import HandS.StrMore
import HandS.FStr
import HandS.ClsMeth
import HandS.Lambda
import HandS.TupAny
import HandS.TupMul
import HandS.MakeKwOnly
import HandS.RaiseMore
import HandS.Rev
import HandS.CallLocal
import HandS.Small
import HandS.Flow
import KE.KRevSl
import HandS.Text
import PyProof.Rows.RegReprOcc
import KE.DataCmp
import KE.KCallOwn
import HandS.List
import HandS.TryMany
import HandS.ExcInit
import HandS.ExcIs
import HandS.ExcField
import KE.KExcIs
import HandS.ExcOwn
import HandS.WordsExc
import KE.KExcInit
import HandS.EndTab
import HandS.SetFor
import HandS.HotCalls
import KE.SortKeyHeap
import PySem.Challenge.RW_pressworlds_k64_whole_moves_alike_commut
set_option Elab.async false
set_option linter.all false
set_option maxRecDepth 100000
set_option maxHeartbeats 4000000
/-! DF: Python data as plain data; defs as plain functions; one's own things by value in their slots. -/
namespace DF
open PySem L2

def CT (K : PySem.W.Frag) (c : Str) (C : Addr) : Prop := PySem.W.nsIn K mainGlobals c = some (some (.ref C))
theorem CT.one {K : PySem.W.Frag} {c : Str} {C C' : Addr} (h : CT K c C) (h' : CT K c C') : C = C' := by
  unfold CT at h h'
  rw [h] at h'
  injection h' with h'
  injection h' with h'
  injection h'

inductive D where
  | non | bl (b : Bool) | int (i : Int) | str (s : Str) | ty (n : String) | cls (c : Str) | scr (ns : List Int)
  | tup (ds : List D) | lst (ds : List D) | ins (c : Str) (fs : List (Str × D)) | dct (kvs : List (Key × D))

/-- the script: locked, or one of the module's own lists -/
def Sc (K : PySem.W.Frag) (H : Hp) (b : Addr) (ns : List Int) : Prop := (∃ o, H b = some (.frz o (.lst (ns.map V.int)))) ∨ ∀ H' : Hp, SqL K H' b (ns.map V.int)
theorem Sc.ext {K : PySem.W.Frag} {G H : Hp} {b : Addr} {ns : List Int} (h : Sc K G b ns) (e : Ext G H) : Sc K H b ns := h.elim (fun ⟨o, z⟩ => .inl ⟨o, e _ _ z⟩) .inr
theorem Sc.seq {K : PySem.W.Frag} {H : Hp} {b : Addr} {ns : List Int} (h : Sc K H b ns) : SqL K H b (ns.map V.int) := h.elim (fun ⟨o, z⟩ => .inl (.inr ⟨o, z⟩)) fun z => z H
theorem sqT_ext {K : PySem.W.Frag} {G H : Hp} {b : Addr} {xs : List V} (h : SqT K G b xs) (e : Ext G H) : SqT K H b xs := by
  rcases h with h | h
  · rcases h with h | ⟨o, h⟩
    · exact .inl (.inl (e _ _ h))
    · exact .inl (.inr ⟨o, e _ _ h⟩)
  · exact .inr h
theorem ext_upd {G : Hp} {p : Addr} {o : HO} (h : G p = none) : Ext G (upd G p o) := fun b u e => by rw [upd_ne (by intro z; subst z; rw [h] at e; cases e)]; exact e
theorem ext_upd' {G H : Hp} {p : Addr} {o : HO} (i : Ext G H) (h : H p = none) : Ext G (upd H p o) := i.trans (ext_upd h)
mutual
inductive At (K : PySem.W.Frag) (G : Hp) : V → D → Prop
  | non : At K G .non .non
  | bl (b : Bool) : At K G (.bl b) (.bl b)
  | int (i : Int) : At K G (.int i) (.int i)
  | str (s : Str) : At K G (.str s) (.str s)
  | ty (n : String) : At K G (.ty n) (.ty n)
  | cls {a : Addr} {c : Str} : CT K c a → At K G (.ref a) (.cls c)
  | scr {p : Addr} {ns : List Int} : Sc K G p ns → At K G (.ref p) (.scr ns)
  | tup {p : Addr} {vs : List V} {ds : List D} : SqT K G p vs → AtL K G vs ds → At K G (.ref p) (.tup ds)
  | lst {p : Addr} {vs : List V} {ds : List D} : G p = some (.lst vs) → AtL K G vs ds → At K G (.ref p) (.lst ds)
  | ins {p C dx : Addr} {c : Str} {fs : List (Str × V)} {gs : List (Str × D)} : CT K c C → G p = some (.ins C dx fs) → AtF K G fs gs → At K G (.ref p) (.ins c gs)
  | dct {p : Addr} {vs : List (Key × V)} {ds : List (Key × D)} : G p = some (.dK vs) → AtK K G vs ds → At K G (.ref p) (.dct ds)
inductive AtL (K : PySem.W.Frag) (G : Hp) : List V → List D → Prop
  | nil : AtL K G [] []
  | cons {v : V} {d : D} {vs : List V} {ds : List D} : At K G v d → AtL K G vs ds → AtL K G (v :: vs) (d :: ds)
inductive AtF (K : PySem.W.Frag) (G : Hp) : List (Str × V) → List (Str × D) → Prop
  | nil : AtF K G [] []
  | cons {f : Str} {v : V} {d : D} {vs : List (Str × V)} {ds : List (Str × D)} : At K G v d → AtF K G vs ds → AtF K G ((f, v) :: vs) ((f, d) :: ds)
inductive AtK (K : PySem.W.Frag) (G : Hp) : List (Key × V) → List (Key × D) → Prop
  | nil : AtK K G [] []
  | cons {f : Key} {v : V} {d : D} {vs : List (Key × V)} {ds : List (Key × D)} : At K G v d → AtK K G vs ds → AtK K G ((f, v) :: vs) ((f, d) :: ds)
end

section
variable {K : PySem.W.Frag} {G G' H H' : Hp}
mutual
theorem At.mono (e : Ext G G') : ∀ {v : V} {d : D}, At K G v d → At K G' v d
  | _, _, .non => .non
  | _, _, .bl b => .bl b
  | _, _, .int i => .int i
  | _, _, .str s => .str s
  | _, _, .ty n => .ty n
  | _, _, .cls h => .cls h
  | _, _, .scr h => .scr (h.ext e)
  | _, _, .tup h l => .tup (sqT_ext h e) (AtL.mono e l)
  | _, _, .lst h l => .lst (e _ _ h) (AtL.mono e l)
  | _, _, .ins c h l => .ins c (e _ _ h) (AtF.mono e l)
  | _, _, .dct h l => .dct (e _ _ h) (AtK.mono e l)
theorem AtL.mono (e : Ext G G') : ∀ {vs : List V} {ds : List D}, AtL K G vs ds → AtL K G' vs ds
  | _, _, .nil => .nil
  | _, _, .cons h l => .cons (At.mono e h) (AtL.mono e l)
theorem AtF.mono (e : Ext G G') : ∀ {vs : List (Str × V)} {ds : List (Str × D)}, AtF K G vs ds → AtF K G' vs ds
  | _, _, .nil => .nil
  | _, _, .cons h l => .cons (At.mono e h) (AtF.mono e l)
theorem AtK.mono (e : Ext G G') : ∀ {vs : List (Key × V)} {ds : List (Key × D)}, AtK K G vs ds → AtK K G' vs ds
  | _, _, .nil => .nil
  | _, _, .cons h l => .cons (At.mono e h) (AtK.mono e l)
end
theorem AtL.length {vs : List V} : ∀ {ds : List D}, AtL K G vs ds → vs.length = ds.length := by
  induction vs with
  | nil => intro ds h; cases h; rfl
  | cons v vs ih => intro ds h; cases h with | cons _ l => rw [List.length_cons, List.length_cons, ih l]
theorem AtL.get {vs : List V} : ∀ {ds : List D}, AtL K G vs ds → ∀ {j : Nat} {d : D}, ds[j]? = some d → ∃ v, vs[j]? = some v ∧ At K G v d := by
  induction vs with
  | nil => intro ds h j d e; cases h; simp at e
  | cons v vs ih =>
    intro ds h j d e
    cases h with
    | cons a l =>
      cases j with
      | zero => simp at e; subst e; exact ⟨v, by simp, a⟩
      | succ j => simp at e; obtain ⟨u, h1, h2⟩ := ih l e; exact ⟨u, by simpa using h1, h2⟩
theorem AtL.get' {vs : List V} : ∀ {ds : List D}, AtL K G vs ds → ∀ {j : Nat} {v : V}, vs[j]? = some v → ∃ d, ds[j]? = some d ∧ At K G v d := by
  induction vs with
  | nil => intro ds h j d e; simp at e
  | cons v vs ih =>
    intro ds h j d e
    cases h with
    | cons a l =>
      cases j with
      | zero => simp at e; subst e; exact ⟨_, by simp, a⟩
      | succ j => simp at e; obtain ⟨u, h1, h2⟩ := ih l e; exact ⟨u, by simpa using h1, h2⟩
theorem AtL.append {vs : List V} : ∀ {ds : List D} {us : List V} {es : List D}, AtL K G vs ds → AtL K G us es → AtL K G (vs ++ us) (ds ++ es) := by
  induction vs with
  | nil => intro ds us es h k; cases h; exact k
  | cons v vs ih => intro ds us es h k; cases h with | cons a l => exact .cons a (ih l k)
theorem AtL.take {vs : List V} : ∀ {ds : List D} (n : Nat), AtL K G vs ds → AtL K G (vs.take n) (ds.take n) := by
  induction vs with
  | nil => intro ds n h; cases h; simp; exact .nil
  | cons v vs ih => intro ds n h; cases h with | cons a l => cases n with | zero => exact .nil | succ n => exact .cons a (ih n l)
theorem AtL.drop {vs : List V} : ∀ {ds : List D} (n : Nat), AtL K G vs ds → AtL K G (vs.drop n) (ds.drop n) := by
  induction vs with
  | nil => intro ds n h; cases h; simp; exact .nil
  | cons v vs ih => intro ds n h; cases h with | cons a l => cases n with | zero => exact .cons a l | succ n => exact ih n l
theorem AtL.set {vs : List V} : ∀ {ds : List D} (n : Nat) {v : V} {d : D}, AtL K G vs ds → At K G v d → AtL K G (vs.set n v) (ds.set n d) := by
  induction vs with
  | nil => intro ds n v d h _; cases h; exact .nil
  | cons v vs ih => intro ds n u d h t; cases h with | cons a l => cases n with | zero => exact .cons t l | succ n => exact .cons a (ih n l t)
theorem AtL.reverse {vs : List V} : ∀ {ds : List D}, AtL K G vs ds → AtL K G vs.reverse ds.reverse := by
  induction vs with
  | nil => intro ds h; cases h; exact .nil
  | cons v vs ih => intro ds h; cases h with | cons a l => rw [List.reverse_cons, List.reverse_cons]; exact (ih l).append (.cons a .nil)
theorem AtL.dropLast {vs : List V} {ds : List D} (h : AtL K G vs ds) : AtL K G vs.dropLast ds.dropLast := by
  rw [List.dropLast_eq_take, List.dropLast_eq_take, h.length]; exact h.take _
theorem AtF.look {fs : List (Str × V)} : ∀ {gs : List (Str × D)}, AtF K G fs gs → ∀ {f : Str} {d : D}, gs.lookup f = some d → ∃ v, fs.lookup f = some v ∧ At K G v d := by
  induction fs with
  | nil => intro gs h f d e; cases h; simp [List.lookup] at e
  | cons p fs ih =>
    intro gs h f d e
    cases h with
    | cons a l =>
      rename_i f0 v0 d0 ds0
      by_cases hf : (f == f0) = true
      · simp [List.lookup, hf] at e ⊢
        subst e
        exact a
      · have hf' : (f == f0) = false := by simpa using hf
        simp [List.lookup, hf'] at e ⊢
        exact ih l e
theorem AtF.no {fs : List (Str × V)} : ∀ {gs : List (Str × D)}, AtF K G fs gs → ∀ {f : Str}, gs.lookup f = none → fs.lookup f = none := by
  induction fs with
  | nil => intro gs h f e; rfl
  | cons p fs ih =>
    intro gs h f e
    cases h with
    | cons a l =>
      rename_i f0 v0 d0 ds0
      by_cases hf : (f == f0) = true
      · rw [List.lookup, hf] at e; cases e
      · have hf' : (f == f0) = false := by simpa using hf
        rw [List.lookup, hf'] at e ⊢
        exact ih l e
theorem AtF.length {fs : List (Str × V)} : ∀ {gs : List (Str × D)}, AtF K G fs gs → fs.length = gs.length := by
  induction fs with
  | nil => intro gs h; cases h; rfl
  | cons p fs ih => intro gs h; cases h with | cons a l => rw [List.length_cons, List.length_cons, ih l]
end

/-! ### what is one's own -/
inductive OD where
  | lst (ds : List D) | dct (kvs : List (Key × D)) | ins (c : Str) (gs : List (Str × D))
abbrev Ow := Addr → Option OD
def Ow.put (c : Ow) (p : Addr) (o : OD) : Ow := fun b => if b = p then some o else c b
def Ow.del (c : Ow) (p : Addr) : Ow := fun b => if b = p then none else c b
theorem Ow.put_same {c : Ow} {p : Addr} {o : OD} : c.put p o p = some o := if_pos rfl
theorem Ow.put_ne {c : Ow} {p b : Addr} {o : OD} (h : b ≠ p) : c.put p o b = c b := if_neg h
theorem Ow.del_same {c : Ow} {p : Addr} : c.del p p = none := if_pos rfl
theorem Ow.del_ne {c : Ow} {p b : Addr} (h : b ≠ p) : c.del p b = c b := if_neg h
def HasO (K : PySem.W.Frag) (G H : Hp) (p : Addr) : OD → Prop
  | .lst ds => ∃ vs, H p = some (.lst vs) ∧ AtL K G vs ds
  | .dct ds => ∃ vs, H p = some (.dK vs) ∧ AtK K G vs ds
  | .ins c gs => ∃ C dx fs, CT K c C ∧ H p = some (.ins C dx fs) ∧ AtF K G fs gs
section
variable {K : PySem.W.Frag} {G G' H H' H1 G1 G2 H2 : Hp} {c c' c1 c2 : Ow}
theorem HasO.mono {p : Addr} (e : Ext G G') (h : H p ≠ none → H' p = H p) : ∀ {o : OD}, HasO K G H p o → HasO K G' H' p o
  | .lst _, ⟨vs, k, l⟩ => ⟨vs, by rw [h (by rw [k]; simp)]; exact k, l.mono e⟩
  | .dct _, ⟨vs, k, l⟩ => ⟨vs, by rw [h (by rw [k]; simp)]; exact k, l.mono e⟩
  | .ins _ _, ⟨C, dx, vs, ct, k, l⟩ => ⟨C, dx, vs, ct, by rw [h (by rw [k]; simp)]; exact k, l.mono e⟩
theorem HasO.some {p : Addr} : ∀ {o : OD}, HasO K G H p o → H p ≠ none
  | .lst _, ⟨vs, k, l⟩ => by rw [k]; simp
  | .dct _, ⟨vs, k, l⟩ => by rw [k]; simp
  | .ins _ _, ⟨_, _, vs, _, k, l⟩ => by rw [k]; simp
/-- what never changes -/
def Stay : HO → Prop
  | .xd _ => True
  | .ext _ => True
  | _ => False
theorem Stay.nt {o : HO} (h : Stay o) : ∀ ps, o ≠ HO.tbl ps := fun ps z => by subst z; exact h
/-- the tables of code objects that lambdas need -/
class TbC where
  T : List (Addr × Str)
  xa : Addr
  Z : Hp → Hp → Prop
  zm : ∀ {G H G' H' : Hp}, Z G H → Ext G G' → (∀ b o, Stay o → H b = some o → H' b = some o) → Z G' H'
def NoT (G : Hp) : Prop := ∀ b ps, G b ≠ some (HO.tbl ps)
theorem NoT.ne {G : Hp} {b : Addr} {o : HO} (h : NoT G) (e : G b = some o) : ∀ ps, o ≠ HO.tbl ps := fun ps z => h b ps (by rw [e, z])
theorem HasO.ne {K : PySem.W.Frag} {G H : Hp} {p : Addr} {o : OD} {ho : HO} (h : HasO K G H p o) (e : H p = Option.some ho) : (∀ ps, ho ≠ HO.tbl ps) ∧ ∀ q, ho ≠ HO.ext q := by
  cases o with
  | lst ds => obtain ⟨vs, k, _⟩ := h; rw [k] at e; cases e; exact ⟨fun _ z => (by cases z), fun _ z => (by cases z)⟩
  | dct ds => obtain ⟨vs, k, _⟩ := h; rw [k] at e; cases e; exact ⟨fun _ z => (by cases z), fun _ z => (by cases z)⟩
  | ins c gs => obtain ⟨_, _, vs, _, k, _⟩ := h; rw [k] at e; cases e; exact ⟨fun _ z => (by cases z), fun _ z => (by cases z)⟩
/-- tables live on where nothing of theirs is touched -/
theorem tabs_keep {T : List (Addr × Str)} {H H' : Hp} (t : LamX.Tabs T H) (e : ∀ b o, H b = Option.some o → ((∃ ps, o = HO.tbl ps) ∨ ∃ q, o = HO.ext q) → H' b = Option.some o) : LamX.Tabs T H' := fun x hx => by
  obtain ⟨ps, h1, h2, h3⟩ := t x hx
  exact ⟨ps, e _ _ h1 (.inl ⟨_, rfl⟩), h2, fun pos cv hc => by
    obtain ⟨c, e1, e2⟩ := h3 pos cv hc
    exact ⟨c, e1, e _ _ e2 (.inr ⟨_, rfl⟩)⟩⟩
variable [TbC]
abbrev ExtT (H H' : Hp) : Prop := ∀ b o, ((∀ ps, o ≠ HO.tbl ps) ∨ TbC.T = []) → H b = some o → H' b = some o
structure Iv (K : PySem.W.Frag) (c : Ow) (G H : Hp) : Prop where
  i : Ext G H
  ow : ∀ p o, c p = some o → G p = none ∧ HasO K G H p o
  nt : NoT G
  tb : LamX.Tabs TbC.T H
  z : TbC.Z G H
/-- told things stand in the heap; none is a table -/
structure Bs (G H : Hp) : Prop where
  i : Ext G H
  nt : NoT G
  tb : LamX.Tabs TbC.T H
  z : TbC.Z G H
theorem Iv.bs (v : Iv K c G H) : Bs G H := ⟨v.i, v.nt, v.tb, v.z⟩
theorem Bs.iv (b : Bs G H) : Iv K (fun _ => none) G H := ⟨b.i, fun _ _ z => (by cases z), b.nt, b.tb, b.z⟩
/-- what may happen: T may be touched -/
structure Grow (T : Addr → Prop) (c : Ow) (G H : Hp) (c' : Ow) (G' H' : Hp) : Prop where
  g : Ext G G'
  h : ∀ b o, c b = none → ((∀ ps, o ≠ HO.tbl ps) ∨ TbC.T = []) → H b = some o → H' b = some o
  w : ∀ b, G' b ≠ none → G b ≠ none ∨ H b = none ∨ T b
  o : ∀ b, c' b ≠ none → c b ≠ none ∨ H b = none
  f : ∀ b, ¬ T b → c b ≠ none → c' b = c b ∧ H' b = H b
  n : ∀ b, H b ≠ none → H' b ≠ none
variable {T T1 T2 : Addr → Prop}
theorem Iv.free (v : Iv K c G H) {b : Addr} (h : H b = none) : c b = none := by
  cases e : c b with
  | none => rfl
  | some o => exact absurd h (v.ow b o e).2.some
theorem Iv.gnone (v : Iv K c G H) {b : Addr} (h : H b = none) : G b = none := by
  cases e : G b with
  | none => rfl
  | some o => rw [v.i b o e] at h; cases h
theorem Grow.refl : Grow T c G H c G H := ⟨Ext.rfl', fun _ _ _ _ h => h, fun _ h => .inl h, fun _ h => .inl h, fun _ _ _ => ⟨rfl, rfl⟩, fun _ h => h⟩
theorem Grow.trans' (v0 : Iv K c G H) (x : Grow T1 c G H c1 G1 H1) (y : Grow T2 c1 G1 H1 c2 G2 H2) (h1 : ∀ b, T1 b → T b) (h2 : ∀ b, T2 b → T b ∨ H b = none) : Grow T c G H c2 G2 H2 := by
  have un : ∀ b, c b = .none → H b ≠ .none → c1 b = .none := fun b hc hb => by
    cases e : c1 b with
    | none => rfl
    | some o => exact ((x.o b (by rw [e]; simp)).elim (fun z => absurd hc z) fun z => absurd z hb)
  have back : ∀ b, H1 b = .none → H b = .none := fun b z => by
    cases e : H b with
    | none => rfl
    | some o => exact absurd z (x.n b (by rw [e]; simp))
  refine ⟨x.g.trans y.g, fun b o hc ho hb => y.h b o (un b hc (by rw [hb]; simp)) ho (x.h b o hc ho hb), fun b hb => ?_, fun b hb => ?_, fun b ht hb => ?_, fun b h => y.n b (x.n b h)⟩
  · rcases y.w b hb with z | z | z
    · rcases x.w b z with z | z | z
      · exact .inl z
      · exact .inr (.inl z)
      · exact .inr (.inr (h1 b z))
    · exact .inr (.inl (back b z))
    · exact (h2 b z).elim (fun z => .inr (.inr z)) fun z => .inr (.inl z)
  · exact (y.o b hb).elim (x.o b) fun z => .inr (back b z)
  · obtain ⟨e1, e2⟩ := x.f b (fun z => ht (h1 b z)) hb
    by_cases z : T2 b
    · rcases h2 b z with z | z
      · exact absurd z ht
      · exact absurd (v0.free z) hb
    · obtain ⟨e3, e4⟩ := y.f b z (by rw [e1]; exact hb)
      exact ⟨e3.trans e1, e4.trans e2⟩
theorem Grow.trans (v0 : Iv K c G H) (x : Grow T c G H c1 G1 H1) (y : Grow T c1 G1 H1 c2 G2 H2) : Grow T c G H c2 G2 H2 := x.trans' v0 y (fun _ h => h) fun _ h => .inl h
theorem Grow.mono (x : Grow T1 c G H c1 G1 H1) (h : ∀ b, T1 b → T b) : Grow T c G H c1 G1 H1 :=
  ⟨x.g, x.h, fun b hb => (x.w b hb).elim .inl fun z => z.elim (fun z => .inr (.inl z)) fun z => .inr (.inr (h b z)), x.o, fun b ht => x.f b fun z => ht (h b z), x.n⟩
/-- pure growth -/
structure PG (G H G' H' : Hp) : Prop where
  g : Ext G G'
  h : ExtT H H'
  i : Ext G' H'
  n : ∀ b, G' b ≠ none → G b ≠ none ∨ H b = none
  m : ∀ b, H b ≠ none → H' b ≠ none
  nt : NoT G → NoT G'
  tb : LamX.Tabs TbC.T H → LamX.Tabs TbC.T H'
/-- no tables at all -/
@[reducible] def TbC.off : TbC := ⟨[], 0, fun _ _ => True, fun _ _ _ => trivial⟩
theorem xd_ext {H H' : Hp} (e : Ext H H') : ∀ b o, Stay o → H b = some o → H' b = some o := fun b o _ h => e b _ h
theorem xd_t {H H' : Hp} (e : ExtT H H') : ∀ b o, Stay o → H b = some o → H' b = some o := fun b o st h => e b _ (.inl st.nt) h
theorem HasO.nxd {K : PySem.W.Frag} {G H : Hp} {p b : Addr} {o : OD} {ho : HO} (h : HasO K G H p o) (st : Stay ho) (e : H b = Option.some ho) : b ≠ p := fun z => by
  subst z
  cases o with
  | lst ds => obtain ⟨vs, k, _⟩ := h; rw [k] at e; cases e; exact st
  | dct ds => obtain ⟨vs, k, _⟩ := h; rw [k] at e; cases e; exact st
  | ins c gs => obtain ⟨_, _, vs, _, k, _⟩ := h; rw [k] at e; cases e; exact st
theorem tabs_ext {T : List (Addr × Str)} (e : Ext H H') (t : LamX.Tabs T H) : LamX.Tabs T H' := fun x hx => (t x hx).ext e
theorem ext_m (e : Ext H H') : ∀ b, H b ≠ none → H' b ≠ none := fun b h => by
  cases k : H b with
  | none => exact absurd k h
  | some o => rw [e b o k]; simp
theorem PG.of (g : Ext G G') (h : Ext H H') (i : Ext G' H') (n : ∀ b, G' b ≠ none → G b ≠ none ∨ H b = none) (nt : NoT G → NoT G') : PG G H G' H' := ⟨g, fun b o _ => h b o, i, n, ext_m h, nt, tabs_ext h⟩
theorem PG.refl (i : Ext G H) : PG G H G H := .of Ext.rfl' Ext.rfl' i (fun _ h => .inl h) id
theorem PG.trans (x : PG G H G1 H1) (y : PG G1 H1 G2 H2) : PG G H G2 H2 := ⟨x.g.trans y.g, fun b o ho e => y.h b o ho (x.h b o ho e), y.i, fun b hb => (y.n b hb).elim (x.n b) fun z => .inr (by
  cases e : H b with
  | none => rfl
  | some o => exact absurd z (x.m b (by rw [e]; simp))), fun b h => y.m b (x.m b h), fun h => y.nt (x.nt h), fun h => y.tb (x.tb h)⟩
theorem PG.grow (v : Iv K c G H) (x : PG G H G' H') : Grow T c G H c G' H' := ⟨x.g, fun b o _ ho e => x.h b o ho e, fun b h => (x.n b h).elim .inl fun z => .inr (.inl z), fun b h => .inl h, fun b _ hb => ⟨rfl, by
  cases q : c b with
  | none => exact absurd q hb
  | some o =>
    cases e : H b with
    | none => exact absurd e (v.ow b o q).2.some
    | some u => exact x.h b u (.inl ((v.ow b o q).2.ne e).1) e⟩, x.m⟩
theorem PG.iv (v : Iv K c G H) (x : PG G H G' H') : Iv K c G' H' := by
  refine ⟨x.i, fun p o e => ?_, x.nt v.nt, x.tb v.tb, TbC.zm v.z x.g (xd_t x.h)⟩
  obtain ⟨h1, h2⟩ := v.ow p o e
  refine ⟨Classical.byContradiction fun z => (x.n p z).elim (fun w => w h1) h2.some, h2.mono x.g fun hs => ?_⟩
  cases k : H p with
  | none => exact absurd k hs
  | some o => exact x.h _ _ (.inl (h2.ne k).1) k
theorem PG.new {p : Addr} {o : HO} (i : Ext G H) (hp : H p = none) (ho : ∀ ps, o ≠ HO.tbl ps := by intro _ z; cases z) : PG G H (upd G p o) (upd H p o) := by
  have gp : G p = none := by
    cases k : G p with
    | none => rfl
    | some u => rw [i p u k] at hp; cases hp
  refine .of (ext_upd gp) (ext_upd hp) (fun b u e => ?_) (fun b h => ?_) fun h b ps e => ?_
  · by_cases hb : b = p
    · subst hb; rw [upd_same] at e ⊢; exact e
    · rw [upd_ne hb] at e ⊢; exact i b u e
  · by_cases hb : b = p
    · subst hb; exact .inr hp
    · rw [upd_ne hb] at h; exact .inl h
  · by_cases hb : b = p
    · subst hb; rw [upd_same] at e; injection e with e; exact ho ps e
    · rw [upd_ne hb] at e; exact h b ps e
/-- a new thing in the heap that is not told -/
theorem PG.hid {p : Addr} {o : HO} (i : Ext G H) (hp : H p = none) : PG G H G (upd H p o) :=
  .of Ext.rfl' (ext_upd hp) (ext_upd' i hp) (fun b h => .inl h) id
/-- a thing of one's own changes -/
theorem own_set (v : Iv K c G H) {p : Addr} {o o' : OD} {ho : HO} (hT : T p) (hi : c p = some o) (hh : HasO K G (upd H p ho) p o') : Grow T c G H (c.put p o') G (upd H p ho) ∧ Iv K (c.put p o') G (upd H p ho) := by
  have gp := (v.ow p o hi).1
  refine ⟨⟨Ext.rfl', fun b u hc _ hb => ?_, fun b h => .inl h, fun b hb => .inl ?_, fun b ht _ => have ne : b ≠ p := fun z => ht (z ▸ hT); ⟨Ow.put_ne ne, upd_ne ne⟩, fun b hb => ?_⟩, fun b u e => ?_, fun b u e => ?_, v.nt, tabs_keep v.tb fun b u e k => ?_, TbC.zm v.z Ext.rfl' fun b u st e => by rw [upd_ne ((v.ow p o hi).2.nxd st e)]; exact e⟩
  · rw [upd_ne (by intro z; subst z; rw [hi] at hc; cases hc)]; exact hb
  · by_cases e : b = p
    · subst e; rw [hi]; simp
    · rwa [Ow.put_ne e] at hb
  · by_cases e : b = p
    · subst e; rw [upd_same]; simp
    · rw [upd_ne e]; exact hb
  · rw [upd_ne (by intro z; subst z; rw [gp] at e; cases e)]; exact v.i b u e
  · by_cases z : b = p
    · subst z; rw [Ow.put_same] at e; cases e; exact ⟨gp, hh⟩
    · rw [Ow.put_ne z] at e
      obtain ⟨q1, q2⟩ := v.ow b u e
      exact ⟨q1, q2.mono Ext.rfl' fun _ => upd_ne z⟩
  · by_cases z : b = p
    · subst z
      obtain ⟨n1, n2⟩ := (v.ow b o hi).2.ne e
      rcases k with ⟨ps, k⟩ | ⟨q, k⟩
      · exact absurd k (n1 ps)
      · exact absurd k (n2 q)
    · rw [upd_ne z]; exact e
/-- a new thing of one's own -/
theorem own_new (v : Iv K c G H) {p : Addr} {o : OD} {ho : HO} (hp : H p = none) (hh : HasO K G (upd H p ho) p o) : Grow T c G H (c.put p o) G (upd H p ho) ∧ Iv K (c.put p o) G (upd H p ho) := by
  have gp := v.gnone hp
  refine ⟨⟨Ext.rfl', fun b u _ _ hb => by rw [upd_ne (ne_of_none hb hp)]; exact hb, fun b h => .inl h, fun b hb => ?_, fun b _ hb => have ne : b ≠ p := fun z => hb (by rw [z]; exact v.free hp); ⟨Ow.put_ne ne, upd_ne ne⟩, fun b hb => ?_⟩, ext_upd' v.i hp, fun b u e => ?_, v.nt, tabs_ext (ext_upd hp) v.tb, TbC.zm v.z Ext.rfl' (xd_ext (ext_upd hp))⟩
  · by_cases e : b = p
    · subst e; exact .inr hp
    · rw [Ow.put_ne e] at hb; exact .inl hb
  · by_cases e : b = p
    · subst e; rw [upd_same]; simp
    · rw [upd_ne e]; exact hb
  · by_cases z : b = p
    · subst z; rw [Ow.put_same] at e; cases e; exact ⟨gp, hh⟩
    · rw [Ow.put_ne z] at e
      obtain ⟨q1, q2⟩ := v.ow b u e
      exact ⟨q1, q2.mono Ext.rfl' fun _ => upd_ne z⟩
/-- .. and is told from now on -/
theorem own_told (v : Iv K c G H) {p : Addr} {o : OD} {ho : HO} (hT : T p) (hi : c p = some o) (hp : H p = some ho) : Grow T c G H (c.del p) (upd G p ho) H ∧ Iv K (c.del p) (upd G p ho) H := by
  have gp := (v.ow p o hi).1
  refine ⟨⟨ext_upd gp, fun b u _ _ hb => hb, fun b h => ?_, fun b hb => .inl ?_, fun b ht _ => ⟨Ow.del_ne fun z => ht (z ▸ hT), rfl⟩, fun b hb => hb⟩, fun b u e => ?_, fun b u e => ?_, fun b ps e => ?_, v.tb, TbC.zm v.z (ext_upd gp) fun _ _ _ e => e⟩
  · by_cases e : b = p
    · subst e; exact .inr (.inr hT)
    · rw [upd_ne e] at h; exact .inl h
  · by_cases e : b = p
    · subst e; rw [hi]; simp
    · rwa [Ow.del_ne e] at hb
  · by_cases e' : b = p
    · subst e'; rw [upd_same] at e; cases e; exact hp
    · rw [upd_ne e'] at e; exact v.i b u e
  · by_cases z : b = p
    · subst z; rw [Ow.del_same] at e; cases e
    · rw [Ow.del_ne z] at e
      obtain ⟨q1, q2⟩ := v.ow b u e
      exact ⟨by rw [upd_ne z]; exact q1, q2.mono (ext_upd gp) fun _ => rfl⟩
  · by_cases z : b = p
    · subst z
      rw [upd_same] at e
      injection e with e
      exact ((v.ow b o hi).2.ne hp).1 ps e
    · rw [upd_ne z] at e; exact v.nt b ps e
end
end DF

set_option linter.all false
set_option maxRecDepth 100000
set_option maxHeartbeats 4000000
namespace DF
open PySem L2
variable [TbC]

/-! ### defs as functions -/
inductive Sl where
  | no | val (d : D) | own (k : Nat) (o : OD) | exc
abbrev EnvF := List Sl
inductive Vr where
  | val (d : D) | slot (i : Nat) | own (o : OD)
inductive Rt (α : Type) where
  | ok (v : α) (Γ : EnvF) | ex (c f : Str) (d : D) (Γ : EnvF)
abbrev FM (α : Type) := EnvF → Option (Rt α)
def FM.pure {α : Type} (v : α) : FM α := fun Γ => some (.ok v Γ)
def FM.bind {α β : Type} (x : FM α) (k : α → FM β) : FM β := fun Γ => match x Γ with
  | some (.ok v Γ') => k v Γ'
  | some (.ex c f d Γ') => some (.ex c f d Γ')
  | none => none
inductive Fl where
  | nx | rt (v : Vr) | bk | ct
abbrev FE := FM Vr
abbrev FA := FM (List Vr)
abbrev FT := FM Bool
abbrev FO := FM (Option Int)
abbrev FS := FM Fl

/-! ### the state -/
inductive EnvR (K : PySem.W.Frag) (G : Hp) (P : List Addr) : L2.St → EnvF → List (Addr × OD) → Prop
  | nil : EnvR K G P [] [] []
  | no {o : Option V} {σ : L2.St} {Γ : EnvF} {L : List (Addr × OD)} : EnvR K G P σ Γ L → EnvR K G P (o :: σ) (.no :: Γ) L
  | exc {σ : L2.St} {Γ : EnvF} {L : List (Addr × OD)} : EnvR K G P σ Γ L → EnvR K G P (some (.ref TbC.xa) :: σ) (.exc :: Γ) L
  | val {v : V} {d : D} {σ : L2.St} {Γ : EnvF} {L : List (Addr × OD)} : At K G v d → EnvR K G P σ Γ L → EnvR K G P (some v :: σ) (.val d :: Γ) L
  | own {p : Addr} {k : Nat} {o : OD} {σ : L2.St} {Γ : EnvF} {L : List (Addr × OD)} : (k = 0 ∧ p ∉ P ∨ ∃ j, k = j + 1 ∧ P[j]? = some p) → EnvR K G P σ Γ L → EnvR K G P (some (.ref p) :: σ) (.own k o :: Γ) ((p, o) :: L)
abbrev TL (L : List (Addr × OD)) : Addr → Prop := fun b => b ∈ L.map (·.1)
structure Sta (K : PySem.W.Frag) (P : List Addr) (c : Ow) (G H : Hp) (σ : L2.St) (Γ : EnvF) (L : List (Addr × OD)) : Prop where
  r : EnvR K G P σ Γ L
  nd : (L.map (·.1)).Nodup
  ow : ∀ e ∈ L, c e.1 = some e.2
  iv : Iv K c G H
  pa : ∀ p ∈ P, H p ≠ none
section
variable {K : PySem.W.Frag} {G G' H H' H0 H1 : Hp} {P : List Addr} {σ σ' : L2.St} {Γ Γ' : EnvF} {L L' : List (Addr × OD)} {c c' : Ow} {W : WX}
theorem EnvR.mono (e : Ext G G') : ∀ {σ : L2.St} {Γ : EnvF} {L : List (Addr × OD)}, EnvR K G P σ Γ L → EnvR K G' P σ Γ L
  | _, _, _, .nil => .nil
  | _, _, _, .no l => .no (EnvR.mono e l)
  | _, _, _, .exc l => .exc (EnvR.mono e l)
  | _, _, _, .val a l => .val (a.mono e) (EnvR.mono e l)
  | _, _, _, .own a l => .own a (EnvR.mono e l)
theorem EnvR.get : ∀ {σ : L2.St} {Γ : EnvF} {L : List (Addr × OD)}, EnvR K G P σ Γ L → ∀ {i : Nat} {d : D}, Γ[i]? = some (.val d) → ∃ v, σ[i]? = some (some v) ∧ At K G v d
  | _, _, _, .nil, i, d, e => by simp at e
  | _, _, _, .no l, 0, d, e => by simp at e
  | _, _, _, .exc l, 0, d, e => by simp at e
  | _, _, _, .no l, i + 1, d, e => by simpa using EnvR.get l (i := i) (d := d) (by simpa using e)
  | _, _, _, .exc l, i + 1, d, e => by simpa using EnvR.get l (i := i) (d := d) (by simpa using e)
  | _, _, _, .val a l, 0, d, e => by simp at e; subst e; exact ⟨_, by simp, a⟩
  | _, _, _, .val a l, i + 1, d, e => by simpa using EnvR.get l (i := i) (d := d) (by simpa using e)
  | _, _, _, .own a l, 0, d, e => by simp at e
  | _, _, _, .own a l, i + 1, d, e => by simpa using EnvR.get l (i := i) (d := d) (by simpa using e)
theorem EnvR.getO : ∀ {σ : L2.St} {Γ : EnvF} {L : List (Addr × OD)}, EnvR K G P σ Γ L → ∀ {i k : Nat} {o : OD}, Γ[i]? = some (.own k o) → ∃ p, σ[i]? = some (some (.ref p)) ∧ (p, o) ∈ L ∧ (k = 0 ∧ p ∉ P ∨ ∃ j, k = j + 1 ∧ P[j]? = some p)
  | _, _, _, .nil, i, k, d, e => by simp at e
  | _, _, _, .no l, 0, k, d, e => by simp at e
  | _, _, _, .exc l, 0, k, d, e => by simp at e
  | _, _, _, .no l, i + 1, k, d, e => by simpa using EnvR.getO l (i := i) (k := k) (o := d) (by simpa using e)
  | _, _, _, .exc l, i + 1, k, d, e => by simpa using EnvR.getO l (i := i) (k := k) (o := d) (by simpa using e)
  | _, _, _, .val a l, 0, k, d, e => by simp at e
  | _, _, _, .val a l, i + 1, k, d, e => by simpa using EnvR.getO l (i := i) (k := k) (o := d) (by simpa using e)
  | _, _, _, .own a l, 0, k, d, e => by simp at e; obtain ⟨e1, e2⟩ := e; subst e1 e2; exact ⟨_, by simp, by simp, a⟩
  | _, _, _, .own a l, i + 1, k, d, e => by
    obtain ⟨p, h1, h2, h3⟩ := EnvR.getO l (i := i) (k := k) (o := d) (by simpa using e)
    exact ⟨p, by simpa using h1, List.mem_cons_of_mem _ h2, h3⟩
theorem EnvR.getX : ∀ {σ : L2.St} {Γ : EnvF} {L : List (Addr × OD)}, EnvR K G P σ Γ L → ∀ {i : Nat}, Γ[i]? = some .exc → σ[i]? = some (some (.ref TbC.xa))
  | _, _, _, .nil, i, e => by simp at e
  | _, _, _, .no l, 0, e => by simp at e
  | _, _, _, .no l, i + 1, e => by simpa using EnvR.getX l (i := i) (by simpa using e)
  | _, _, _, .exc l, 0, e => by simp
  | _, _, _, .exc l, i + 1, e => by simpa using EnvR.getX l (i := i) (by simpa using e)
  | _, _, _, .val a l, 0, e => by simp at e
  | _, _, _, .val a l, i + 1, e => by simpa using EnvR.getX l (i := i) (by simpa using e)
  | _, _, _, .own a l, 0, e => by simp at e
  | _, _, _, .own a l, i + 1, e => by simpa using EnvR.getX l (i := i) (by simpa using e)
theorem EnvR.length : ∀ {σ : L2.St} {Γ : EnvF} {L : List (Addr × OD)}, EnvR K G P σ Γ L → σ.length = Γ.length
  | _, _, _, .nil => rfl
  | _, _, _, .no l => congrArg (· + 1) (EnvR.length l)
  | _, _, _, .exc l => congrArg (· + 1) (EnvR.length l)
  | _, _, _, .val a l => congrArg (· + 1) (EnvR.length l)
  | _, _, _, .own a l => congrArg (· + 1) (EnvR.length l)
/-- a slot is put anew: a value -/
theorem EnvR.setVal : ∀ {σ : L2.St} {Γ : EnvF} {L : List (Addr × OD)}, EnvR K G P σ Γ L → ∀ (i : Nat) {v : V} {d : D}, At K G v d → ∃ L', EnvR K G P (σ.set i (some v)) (Γ.set i (.val d)) L' ∧ L'.Sublist L
  | _, _, _, .nil, i, v, d, a => ⟨_, .nil, List.Sublist.refl _⟩
  | _, _, _, .no l, 0, v, d, a => ⟨_, .val a l, List.Sublist.refl _⟩
  | _, _, _, .exc l, 0, v, d, a => ⟨_, .val a l, List.Sublist.refl _⟩
  | _, _, _, .val b l, 0, v, d, a => ⟨_, .val a l, List.Sublist.refl _⟩
  | _, _, _, .own b l, 0, v, d, a => ⟨_, .val a l, List.sublist_cons_self _ _⟩
  | _, _, _, .no l, i + 1, v, d, a => by obtain ⟨L', h1, h2⟩ := EnvR.setVal l i a; exact ⟨L', .no h1, h2⟩
  | _, _, _, .exc l, i + 1, v, d, a => by obtain ⟨L', h1, h2⟩ := EnvR.setVal l i a; exact ⟨L', .exc h1, h2⟩
  | _, _, _, .val b l, i + 1, v, d, a => by obtain ⟨L', h1, h2⟩ := EnvR.setVal l i a; exact ⟨L', .val b h1, h2⟩
  | _, _, _, .own b l, i + 1, v, d, a => by obtain ⟨L', h1, h2⟩ := EnvR.setVal l i a; exact ⟨_, .own b h1, h2.cons₂ _⟩
theorem EnvR.setNo : ∀ {σ : L2.St} {Γ : EnvF} {L : List (Addr × OD)}, EnvR K G P σ Γ L → ∀ (i : Nat) (o : Option V), ∃ L', EnvR K G P (σ.set i o) (Γ.set i .no) L' ∧ L'.Sublist L
  | _, _, _, .nil, i, o => ⟨_, .nil, List.Sublist.refl _⟩
  | _, _, _, .no l, 0, o => ⟨_, .no l, List.Sublist.refl _⟩
  | _, _, _, .exc l, 0, o => ⟨_, .no l, List.Sublist.refl _⟩
  | _, _, _, .val b l, 0, o => ⟨_, .no l, List.Sublist.refl _⟩
  | _, _, _, .own b l, 0, o => ⟨_, .no l, List.sublist_cons_self _ _⟩
  | _, _, _, .no l, i + 1, o => by obtain ⟨L', h1, h2⟩ := EnvR.setNo l i o; exact ⟨L', .no h1, h2⟩
  | _, _, _, .exc l, i + 1, o => by obtain ⟨L', h1, h2⟩ := EnvR.setNo l i o; exact ⟨L', .exc h1, h2⟩
  | _, _, _, .val b l, i + 1, o => by obtain ⟨L', h1, h2⟩ := EnvR.setNo l i o; exact ⟨L', .val b h1, h2⟩
  | _, _, _, .own b l, i + 1, o => by obtain ⟨L', h1, h2⟩ := EnvR.setNo l i o; exact ⟨_, .own b h1, h2.cons₂ _⟩
theorem EnvR.setX : ∀ {σ : L2.St} {Γ : EnvF} {L : List (Addr × OD)}, EnvR K G P σ Γ L → ∀ (i : Nat), ∃ L', EnvR K G P (σ.set i (some (.ref TbC.xa))) (Γ.set i .exc) L' ∧ L'.Sublist L
  | _, _, _, .nil, i => ⟨_, .nil, List.Sublist.refl _⟩
  | _, _, _, .no l, 0 => ⟨_, .exc l, List.Sublist.refl _⟩
  | _, _, _, .exc l, 0 => ⟨_, .exc l, List.Sublist.refl _⟩
  | _, _, _, .val b l, 0 => ⟨_, .exc l, List.Sublist.refl _⟩
  | _, _, _, .own b l, 0 => ⟨_, .exc l, List.sublist_cons_self _ _⟩
  | _, _, _, .no l, i + 1 => by obtain ⟨L', h1, h2⟩ := EnvR.setX l i; exact ⟨L', .no h1, h2⟩
  | _, _, _, .exc l, i + 1 => by obtain ⟨L', h1, h2⟩ := EnvR.setX l i; exact ⟨L', .exc h1, h2⟩
  | _, _, _, .val b l, i + 1 => by obtain ⟨L', h1, h2⟩ := EnvR.setX l i; exact ⟨L', .val b h1, h2⟩
  | _, _, _, .own b l, i + 1 => by obtain ⟨L', h1, h2⟩ := EnvR.setX l i; exact ⟨_, .own b h1, h2.cons₂ _⟩
/-- .. a thing of one's own -/
theorem EnvR.setOwn {p : Addr} {o : OD} (np : p ∉ P) : ∀ {σ : L2.St} {Γ : EnvF} {L : List (Addr × OD)}, EnvR K G P σ Γ L → (L.map (·.1)).Nodup → p ∉ L.map (·.1) → ∀ (i : Nat), ∃ L', EnvR K G P (σ.set i (some (.ref p))) (Γ.set i (.own 0 o)) L' ∧ (L'.map (·.1)).Nodup ∧ ∀ e ∈ L', e = (p, o) ∨ e ∈ L
  | _, _, _, .nil, nd, h, i => ⟨_, .nil, nd, fun e he => .inr he⟩
  | _, _, _, .no l, nd, h, 0 => ⟨_, .own (.inl ⟨rfl, np⟩) l, by rw [List.map_cons, List.nodup_cons]; exact ⟨h, nd⟩, fun e he => (List.mem_cons.mp he)⟩
  | _, _, _, .exc l, nd, h, 0 => ⟨_, .own (.inl ⟨rfl, np⟩) l, by rw [List.map_cons, List.nodup_cons]; exact ⟨h, nd⟩, fun e he => (List.mem_cons.mp he)⟩
  | _, _, _, .val b l, nd, h, 0 => ⟨_, .own (.inl ⟨rfl, np⟩) l, by rw [List.map_cons, List.nodup_cons]; exact ⟨h, nd⟩, fun e he => (List.mem_cons.mp he)⟩
  | _, _, _, .own b l, nd, h, 0 => by
    rw [List.map_cons, List.nodup_cons] at nd
    refine ⟨_, .own (.inl ⟨rfl, np⟩) l, by rw [List.map_cons, List.nodup_cons]; exact ⟨fun z => h (List.mem_cons_of_mem _ z), nd.2⟩, fun e he => (List.mem_cons.mp he).imp id fun z => List.mem_cons_of_mem _ z⟩
  | _, _, _, .no l, nd, h, i + 1 => by obtain ⟨L', h1, h2⟩ := EnvR.setOwn np l nd h i; exact ⟨L', .no h1, h2⟩
  | _, _, _, .exc l, nd, h, i + 1 => by obtain ⟨L', h1, h2⟩ := EnvR.setOwn np l nd h i; exact ⟨L', .exc h1, h2⟩
  | _, _, _, .val b l, nd, h, i + 1 => by obtain ⟨L', h1, h2⟩ := EnvR.setOwn np l nd h i; exact ⟨L', .val b h1, h2⟩
  | _, _, _, @EnvR.own _ _ _ _ p0 k0 o0 _ _ L0 b l, nd, h, i + 1 => by
    rw [List.map_cons, List.nodup_cons] at nd
    obtain ⟨L', h1, h2, h3⟩ := EnvR.setOwn np l nd.2 (fun z => h (List.mem_cons_of_mem _ z)) i
    refine ⟨_, .own b h1, ?_, fun e he => ?_⟩
    · rw [List.map_cons, List.nodup_cons]
      refine ⟨fun z => ?_, h2⟩
      obtain ⟨e, he, e1⟩ := List.mem_map.mp z
      rcases h3 e he with q | q
      · rw [q] at e1; exact h (by rw [List.map_cons, ← e1]; exact List.mem_cons_self)
      · exact nd.1 (e1 ▸ List.mem_map.mpr ⟨e, q, rfl⟩)
    · rcases List.mem_cons.mp he with q | q
      · exact .inr (q ▸ List.mem_cons_self)
      · exact (h3 e q).imp id fun z => List.mem_cons_of_mem _ z
/-- .. its content changes -/
theorem EnvR.updOwn {o o' : OD} {k : Nat} : ∀ {σ : L2.St} {Γ : EnvF} {L : List (Addr × OD)}, EnvR K G P σ Γ L → (L.map (·.1)).Nodup → ∀ {i : Nat}, Γ[i]? = some (.own k o) → ∃ p L', σ[i]? = some (some (.ref p)) ∧ (p, o) ∈ L ∧ EnvR K G P σ (Γ.set i (.own k o')) L' ∧ L'.map (·.1) = L.map (·.1) ∧ ∀ e ∈ L', e = (p, o') ∨ e ∈ L ∧ e.1 ≠ p
  | _, _, _, .nil, nd, i, e => by simp at e
  | _, _, _, .no l, nd, 0, e => by simp at e
  | _, _, _, .exc l, nd, 0, e => by simp at e
  | _, _, _, .val b l, nd, 0, e => by simp at e
  | _, _, _, .own b l, nd, 0, e => by
    simp at e; obtain ⟨e1, e2⟩ := e; subst e1 e2
    rw [List.map_cons, List.nodup_cons] at nd
    refine ⟨_, _, by simp, by simp, .own b l, rfl, fun e he => (List.mem_cons.mp he).imp id fun z => ⟨List.mem_cons_of_mem _ z, fun q => nd.1 ?_⟩⟩
    rw [← q]; exact List.mem_map.mpr ⟨e, z, rfl⟩
  | _, _, _, .no l, nd, i + 1, e => by
    obtain ⟨p, L', h1, h2, h3, h4, h5⟩ := EnvR.updOwn l nd (i := i) (by simpa using e)
    exact ⟨p, L', by simpa using h1, h2, .no h3, h4, h5⟩
  | _, _, _, .exc l, nd, i + 1, e => by
    obtain ⟨p, L', h1, h2, h3, h4, h5⟩ := EnvR.updOwn l nd (i := i) (by simpa using e)
    exact ⟨p, L', by simpa using h1, h2, .exc h3, h4, h5⟩
  | _, _, _, .val b l, nd, i + 1, e => by
    obtain ⟨p, L', h1, h2, h3, h4, h5⟩ := EnvR.updOwn l nd (i := i) (by simpa using e)
    exact ⟨p, L', by simpa using h1, h2, .val b h3, h4, h5⟩
  | _, _, _, @EnvR.own _ _ _ _ p0 k0 o0 _ _ L0 b l, nd, i + 1, e => by
    rw [List.map_cons, List.nodup_cons] at nd
    obtain ⟨p, L', h1, h2, h3, h4, h5⟩ := EnvR.updOwn l nd.2 (i := i) (by simpa using e)
    refine ⟨p, _, by simpa using h1, List.mem_cons_of_mem _ h2, .own b h3, by rw [List.map_cons, List.map_cons, h4], fun e he => ?_⟩
    rcases List.mem_cons.mp he with q | q
    · refine .inr ⟨q ▸ List.mem_cons_self, fun z => nd.1 ?_⟩
      rw [q] at z
      have z : p0 = p := z
      exact z ▸ List.mem_map.mpr ⟨_, h2, rfl⟩
    · exact (h5 e q).imp id fun z => ⟨List.mem_cons_of_mem _ z.1, z.2⟩
/-- .. or is seen as a value -/
theorem EnvR.see {o : OD} {k : Nat} {d : D} : ∀ {σ : L2.St} {Γ : EnvF} {L : List (Addr × OD)}, EnvR K G P σ Γ L → (L.map (·.1)).Nodup → ∀ {i : Nat} {p : Addr}, Γ[i]? = some (.own k o) → σ[i]? = some (some (.ref p)) → At K G (.ref p) d → ∃ L', EnvR K G P σ (Γ.set i (.val d)) L' ∧ L'.Sublist L ∧ p ∉ L'.map (·.1)
  | _, _, _, .nil, nd, i, p, e, _, _ => by simp at e
  | _, _, _, .no l, nd, 0, p, e, _, _ => by simp at e
  | _, _, _, .exc l, nd, 0, p, e, _, _ => by simp at e
  | _, _, _, .val b l, nd, 0, p, e, _, _ => by simp at e
  | _, _, _, .own b l, nd, 0, p, e, e', t => by
    simp at e e'; subst e'
    rw [List.map_cons, List.nodup_cons] at nd
    exact ⟨_, .val t l, List.sublist_cons_self _ _, nd.1⟩
  | _, _, _, .no l, nd, i + 1, p, e, e', t => by
    obtain ⟨L', h1, h2, h3⟩ := EnvR.see l nd (i := i) (p := p) (by simpa using e) (by simpa using e') t
    exact ⟨L', .no h1, h2, h3⟩
  | _, _, _, .exc l, nd, i + 1, p, e, e', t => by
    obtain ⟨L', h1, h2, h3⟩ := EnvR.see l nd (i := i) (p := p) (by simpa using e) (by simpa using e') t
    exact ⟨L', .exc h1, h2, h3⟩
  | _, _, _, .val b l, nd, i + 1, p, e, e', t => by
    obtain ⟨L', h1, h2, h3⟩ := EnvR.see l nd (i := i) (p := p) (by simpa using e) (by simpa using e') t
    exact ⟨L', .val b h1, h2, h3⟩
  | _, _, _, @EnvR.own _ _ _ _ p0 k0 o0 _ _ L0 b l, nd, i + 1, p, e, e', t => by
    rw [List.map_cons, List.nodup_cons] at nd
    obtain ⟨L', h1, h2, h3⟩ := EnvR.see l nd.2 (i := i) (p := p) (by simpa using e) (by simpa using e') t
    refine ⟨_, .own b h1, h2.cons₂ _, ?_⟩
    rw [List.map_cons]
    intro z
    rcases List.mem_cons.mp z with z | z
    · obtain ⟨p', h4, h5, _⟩ := EnvR.getO l (i := i) (by simpa using e)
      have : p' = p := by
        rw [List.getElem?_cons_succ, h4] at e'
        injection e' with e'; injection e' with e'; injection e'
      subst this
      exact nd.1 (z ▸ List.mem_map.mpr ⟨_, h5, rfl⟩)
    · exact h3 z

/-! ### what is told of results -/
structure Rel (α β : Type) where
  r : PySem.W.Frag → L2.St → List (Addr × OD) → Ow → Hp → Hp → β → α → Prop
  mono : ∀ {K : PySem.W.Frag} {σ : L2.St} {L L' : List (Addr × OD)} {c c' : Ow} {G G' H0 H1 H2 : Hp} {b : β} {v : α}, Grow (TL L) c G H1 c' G' H2 → L'.map (·.1) = L.map (·.1) → r K σ L c G H0 b v → r K σ L' c' G' H0 b v
  back : ∀ {K : PySem.W.Frag} {σ : L2.St} {L : List (Addr × OD)} {c : Ow} {G H0 H1 : Hp} {b : β} {v : α}, (∀ a, H0 a ≠ none → H1 a ≠ none) → r K σ L c G H1 b v → r K σ L c G H0 b v
def VrAt (K : PySem.W.Frag) (σ : L2.St) (L : List (Addr × OD)) (c : Ow) (G H0 : Hp) (u : V) : Vr → Prop
  | .val d => At K G u d
  | .slot i => σ[i]? = some (some u)
  | .own o => ∃ p, u = .ref p ∧ c p = some o ∧ p ∉ L.map (·.1) ∧ H0 p = none
theorem VrAt.mono {H2 : Hp} {u : V} {v : Vr} (g : Grow (TL L) c G H1 c' G' H2) (e : L'.map (·.1) = L.map (·.1)) (h : VrAt K σ L c G H0 u v) : VrAt K σ L' c' G' H0 u v := by
  cases v with
  | val d => exact At.mono g.g h
  | slot i => exact h
  | own o =>
    obtain ⟨p, h1, h2, h3, h4⟩ := h
    exact ⟨p, h1, by rw [(g.f p h3 (by rw [h2]; simp)).1, h2], by rw [e]; exact h3, h4⟩
theorem VrAt.back {u : V} {v : Vr} (n : ∀ a, H0 a ≠ none → H1 a ≠ none) (h : VrAt K σ L c G H1 u v) : VrAt K σ L c G H0 u v := by
  cases v with
  | val d => exact h
  | slot i => exact h
  | own o =>
    obtain ⟨p, h1, h2, h3, h4⟩ := h
    exact ⟨p, h1, h2, h3, Classical.byContradiction fun z => n p z h4⟩
def vrR : Rel Vr V := ⟨VrAt, fun g e h => h.mono g e, fun n h => h.back n⟩
inductive VrAll (K : PySem.W.Frag) (σ : L2.St) (L : List (Addr × OD)) (c : Ow) (G H0 : Hp) : List V → List Vr → Prop
  | nil : VrAll K σ L c G H0 [] []
  | cons {u : V} {v : Vr} {us : List V} {vs : List Vr} : VrAt K σ L c G H0 u v → VrAll K σ L c G H0 us vs → VrAll K σ L c G H0 (u :: us) (v :: vs)
theorem VrAll.mono {H2 : Hp} (g : Grow (TL L) c G H1 c' G' H2) (e : L'.map (·.1) = L.map (·.1)) : ∀ {us : List V} {vs : List Vr}, VrAll K σ L c G H0 us vs → VrAll K σ L' c' G' H0 us vs
  | _, _, .nil => .nil
  | _, _, .cons a l => .cons (a.mono g e) (VrAll.mono g e l)
theorem VrAll.back (n : ∀ a, H0 a ≠ none → H1 a ≠ none) : ∀ {us : List V} {vs : List Vr}, VrAll K σ L c G H1 us vs → VrAll K σ L c G H0 us vs
  | _, _, .nil => .nil
  | _, _, .cons a l => .cons (a.back n) (VrAll.back n l)
def arR : Rel (List Vr) (List V) := ⟨VrAll, fun g e h => h.mono g e, fun n h => h.back n⟩
def eqR (α : Type) : Rel α α := ⟨fun _ _ _ _ _ _ b v => b = v, fun _ _ h => h, fun _ h => h⟩

/-! ### a reading and its function -/
/-- what is to be shown for an exception -/
def PostX (K : PySem.W.Frag) (P : List Addr) (W : WX) (c : Ow) (G H : Hp) (L : List (Addr × OD)) (cn f : Str) (d : D) (Γ' : EnvF) : Prop := ∀ C dd fv σ' c' G' H' L', Grow (TL L) c G H c' G' H' → Sta K P c' G' H' σ' Γ' L' → (∀ e ∈ L', TL L e.1 ∨ H e.1 = none) → CT K cn C → H' dd = some (.xd [(f, fv)]) → At K G' fv d → W (.ref C) (some dd) σ' H'
def PostE {α β : Type} (R : Rel α β) (K : PySem.W.Frag) (P : List Addr) (W : WX) (σ : L2.St) (c : Ow) (G H : Hp) (L : List (Addr × OD)) (Q : β → Hp → Prop) : Rt α → Prop
   | .ok v Γ' => ∀ b c' G' H' L', Grow (TL L) c G H c' G' H' → Sta K P c' G' H' σ Γ' L' → L'.map (·.1) = L.map (·.1) → R.r K σ L' c' G' H b v → Q b H'
   | .ex cn f d Γ' => PostX K P W c G H L cn f d Γ'
def Run {α β : Type} (R : Rel α β) (K : PySem.W.Frag) (P : List Addr) (W : WX) (σ : L2.St) (c : Ow) (G H : Hp) (L : List (Addr × OD)) (t : (β → Hp → Prop) → Prop) (o : Option (Rt α)) : Prop := ∀ r, o = some r → ∀ Q : β → Hp → Prop, PostE R K P W σ c G H L Q r → t Q
theorem FM.bind_some {α β : Type} {x : FM α} {k : α → FM β} {Γ : EnvF} {r : Rt β} (e : FM.bind x k Γ = some r) : (∃ v Γ1, x Γ = some (.ok v Γ1) ∧ k v Γ1 = some r) ∨ ∃ c f d Γ1, x Γ = some (.ex c f d Γ1) ∧ r = .ex c f d Γ1 := by
  unfold FM.bind at e
  cases ex : x Γ with
  | none => rw [ex] at e; cases e
  | some r0 =>
    rw [ex] at e
    cases r0 with
    | ok v Γ1 => exact .inl ⟨v, Γ1, rfl, e⟩
    | ex c f d Γ1 => cases e; exact .inr ⟨c, f, d, Γ1, rfl, rfl⟩
theorem Sta.tl {e : L'.map (·.1) = L.map (·.1)} : ∀ b, TL L' b → TL L b := fun b h => by unfold TL at h ⊢; rwa [e] at h
theorem PostX.trans {c1 : Ow} {G1 : Hp} {L1 : List (Addr × OD)} {cn f : Str} {d : D} (v : Iv K c G H) (g : Grow (TL L) c G H c1 G1 H1) (e : ∀ x ∈ L1, TL L x.1 ∨ H x.1 = none) (h : PostX K P W c G H L cn f d Γ') : PostX K P W c1 G1 H1 L1 cn f d Γ' := by
  have e' : ∀ b, TL L1 b → TL L b ∨ H b = none := fun b hb => by
    obtain ⟨x, hx, ex⟩ := List.mem_map.mp hb
    exact ex ▸ e x hx
  intro C dd fv σ' c' G' H' L' g' s' n' ct hd t
  refine h C dd fv σ' c' G' H' L' (g.trans' v g' (fun _ z => z) e') s' (fun x hx => ?_) ct hd t
  rcases n' x hx with z | z
  · exact e' _ z
  · refine .inr ?_
    cases q : H x.1 with
    | none => rfl
    | some o => exact absurd z (g.n _ (by rw [q]; simp))
theorem tl_of (e : L'.map (·.1) = L.map (·.1)) : ∀ x ∈ L', TL L x.1 ∨ H x.1 = none := fun x hx => .inl (by unfold TL; rw [← e]; exact List.mem_map.mpr ⟨x, hx, rfl⟩)
end
end DF
namespace DF
open PySem L2
variable [TbC]
section
variable {K : PySem.W.Frag} {G G' H H' H0 H1 : Hp} {P : List Addr} {σ σ' : L2.St} {Γ Γ' : EnvF} {L L' : List (Addr × OD)} {c c' : Ow} {W : WX}
theorem Run.bind {α β α' β' : Type} {R : Rel α β} {R' : Rel α' β'} {t : (β → Hp → Prop) → Prop} {t2 : β → Hp → (β' → Hp → Prop) → Prop} {x : FM α} {k : α → FM α'} (iv : Iv K c G H)
    (h : Run R K P W σ c G H L t (x Γ))
    (hk : ∀ v Γ1 b c1 G1 H1 L1, Grow (TL L) c G H c1 G1 H1 → Sta K P c1 G1 H1 σ Γ1 L1 → L1.map (·.1) = L.map (·.1) → R.r K σ L1 c1 G1 H b v → Run R' K P W σ c1 G1 H1 L1 (t2 b H1) (k v Γ1)) :
    Run R' K P W σ c G H L (fun Q => t fun b H1 => t2 b H1 Q) (FM.bind x k Γ) := by
  intro r e Q post
  unfold FM.bind at e
  cases ex : x Γ with
  | none => rw [ex] at e; cases e
  | some r0 =>
    rw [ex] at e
    refine h r0 ex _ ?_
    cases r0 with
    | ok v Γ1 =>
      intro b c1 G1 H1 L1 g1 s1 e1 r1
      refine hk v Γ1 b c1 G1 H1 L1 g1 s1 e1 r1 r e Q ?_
      cases r with
      | ok v' Γ' =>
        intro b' c' G' H' L' g' s' e' r'
        exact post b' c' G' H' L' (g1.trans' iv g' (fun _ z => z) fun b z => .inl (by unfold TL at z ⊢; rwa [e1] at z)) s' (e'.trans e1) (R'.back (fun a z => g1.n a z) r')
      | ex cn f d Γ' => exact PostX.trans iv g1 (tl_of e1) post
    | ex cn f d Γ1 =>
      cases e
      exact post
def SimX {α β : Type} (R : Rel α β) (K : PySem.W.Frag) (W : WX) (t : L2.St → Hp → (β → Hp → Prop) → Prop) (f : FM α) : Prop := ∀ P σ c G H Γ L, Sta K P c G H σ Γ L → Run R K P W σ c G H L (t σ H) (f Γ)
abbrev SimE := SimX (α := Vr) (β := V) vrR
abbrev SimA := SimX (α := List Vr) (β := List V) arR
abbrev SimT := SimX (α := Bool) (β := Bool) (eqR Bool)
abbrev SimO := SimX (α := Option Int) (β := Option Int) (eqR (Option Int))
/-- a result at once -/
theorem Run.now {α β : Type} {R : Rel α β} {v : α} {b : β} (s : Sta K P c G H σ Γ L) (h : R.r K σ L c G H b v) : Run R K P W σ c G H L (fun Q => Q b H) (some (.ok v Γ)) := by
  intro r e Q post
  cases e
  exact post b c G H L .refl s rfl h
theorem Sta.pg (s : Sta K P c G H σ Γ L) (g : PG G H G' H') : Sta K P c G' H' σ Γ L := ⟨s.r.mono g.g, s.nd, s.ow, g.iv s.iv, fun p hp => g.m p (s.pa p hp)⟩
/-- .. by pure growth -/
theorem Run.pure {d : D} {t : (V → Hp → Prop) → Prop} (s : Sta K P c G H σ Γ L) (h : ∀ Q : V → Hp → Prop, (∀ w G' H', PG G H G' H' → At K G' w d → Q w H') → t Q) : Run vrR K P W σ c G H L t (some (.ok (.val d) Γ)) := by
  intro r e Q post
  cases e
  exact h Q fun w G' H' g t => post w c G' H' L (g.grow s.iv) (s.pg g) rfl t

/-! statements -/
structure PostS (K : PySem.W.Frag) (P : List Addr) (W : WX) (c : Ow) (G H : Hp) (L : List (Addr × OD)) (r : Rt Fl) (Dn : Ends) : Prop where
  nx : ∀ Γ', r = .ok .nx Γ' → ∀ σ' c' G' H' L', Grow (TL L) c G H c' G' H' → Sta K P c' G' H' σ' Γ' L' → (∀ e ∈ L', TL L e.1 ∨ H e.1 = none) → Dn.nx σ' H'
  bk : ∀ Γ', r = .ok .bk Γ' → ∀ σ' c' G' H' L', Grow (TL L) c G H c' G' H' → Sta K P c' G' H' σ' Γ' L' → (∀ e ∈ L', TL L e.1 ∨ H e.1 = none) → Dn.bk σ' H'
  ct : ∀ Γ', r = .ok .ct Γ' → ∀ σ' c' G' H' L', Grow (TL L) c G H c' G' H' → Sta K P c' G' H' σ' Γ' L' → (∀ e ∈ L', TL L e.1 ∨ H e.1 = none) → Dn.ct σ' H'
  rt : ∀ v Γ', r = .ok (.rt v) Γ' → ∀ u σ' c' G' H' L', Grow (TL L) c G H c' G' H' → Sta K P c' G' H' σ' Γ' L' → (∀ e ∈ L', TL L e.1 ∨ H e.1 = none) → VrAt K σ' L' c' G' H u v → Dn.rt u H'
  ex : ∀ cn f d Γ', r = .ex cn f d Γ' → PostX K P W c G H L cn f d Γ'
def RunS (K : PySem.W.Frag) (P : List Addr) (W : WX) (c : Ow) (G H : Hp) (L : List (Addr × OD)) (t : Ends → Prop) (o : Option (Rt Fl)) : Prop := ∀ r, o = some r → ∀ Dn, PostS K P W c G H L r Dn → t Dn
def SimS (K : PySem.W.Frag) (W : WX) (t : TS) (f : FS) : Prop := ∀ P σ c G H Γ L, Sta K P c G H σ Γ L → RunS K P W c G H L (fun Dn => t Dn σ H) (f Γ)
theorem PostS.trans {c1 : Ow} {G1 : Hp} {L1 : List (Addr × OD)} {r : Rt Fl} {Dn : Ends} (v : Iv K c G H) (g : Grow (TL L) c G H c1 G1 H1) (e : ∀ x ∈ L1, TL L x.1 ∨ H x.1 = none) (h : PostS K P W c G H L r Dn) : PostS K P W c1 G1 H1 L1 r Dn := by
  have e' : ∀ b, TL L1 b → TL L b ∨ H b = none := fun b hb => by
    obtain ⟨x, hx, ex⟩ := List.mem_map.mp hb
    exact ex ▸ e x hx
  have n' : ∀ {L' : List (Addr × OD)}, (∀ x ∈ L', TL L1 x.1 ∨ H1 x.1 = none) → ∀ x ∈ L', TL L x.1 ∨ H x.1 = none := fun n x hx => by
    rcases n x hx with z | z
    · exact e' _ z
    · refine .inr ?_
      cases q : H x.1 with
      | none => rfl
      | some o => exact absurd z (g.n _ (by rw [q]; simp))
  exact ⟨fun Γ' er σ' c' G' H' L' g' s' n => h.nx Γ' er σ' c' G' H' L' (g.trans' v g' (fun _ z => z) e') s' (n' n),
   fun Γ' er σ' c' G' H' L' g' s' n => h.bk Γ' er σ' c' G' H' L' (g.trans' v g' (fun _ z => z) e') s' (n' n),
   fun Γ' er σ' c' G' H' L' g' s' n => h.ct Γ' er σ' c' G' H' L' (g.trans' v g' (fun _ z => z) e') s' (n' n),
   fun w Γ' er u σ' c' G' H' L' g' s' n t => h.rt w Γ' er u σ' c' G' H' L' (g.trans' v g' (fun _ z => z) e') s' (n' n) (t.back g.n),
   fun cn f d Γ' er => PostX.trans v g e (h.ex cn f d Γ' er)⟩
/-- a statement that evaluates first -/
theorem RunS.bind {α β : Type} {R : Rel α β} {t : (β → Hp → Prop) → Prop} {t2 : β → Hp → Ends → Prop} {x : FM α} {k : α → FS} (iv : Iv K c G H)
    (h : Run R K P W σ c G H L t (x Γ))
    (hk : ∀ v Γ1 b c1 G1 H1 L1, Grow (TL L) c G H c1 G1 H1 → Sta K P c1 G1 H1 σ Γ1 L1 → L1.map (·.1) = L.map (·.1) → R.r K σ L1 c1 G1 H b v → RunS K P W c1 G1 H1 L1 (t2 b H1) (k v Γ1)) :
    RunS K P W c G H L (fun Dn => t fun b H1 => t2 b H1 Dn) (FM.bind x k Γ) := by
  intro r e Dn post
  unfold FM.bind at e
  cases ex : x Γ with
  | none => rw [ex] at e; cases e
  | some r0 =>
    rw [ex] at e
    refine h r0 ex _ ?_
    cases r0 with
    | ok v Γ1 =>
      intro b c1 G1 H1 L1 g1 s1 e1 r1
      exact hk v Γ1 b c1 G1 H1 L1 g1 s1 e1 r1 r e Dn (post.trans iv g1 (tl_of e1))
    | ex cn f d Γ1 =>
      cases e
      exact post.ex cn f d Γ1 rfl
def fNx : FS := FM.pure .nx
def fSeq (a b : FS) : FS := FM.bind a fun | .nx => b | r => FM.pure r
theorem sim_next : SimS K W tNext fNx := by
  intro P σ c G H Γ L s r e Dn post
  cases e
  exact post.nx Γ rfl σ c G H L .refl s fun x hx => .inl (List.mem_map.mpr ⟨x, hx, rfl⟩)
theorem sim_seq {ta tb : TS} {fa fb : FS} (ha : SimS K W ta fa) (hb : SimS K W tb fb) : SimS K W (tSeq ta tb) (fSeq fa fb) := by
  intro P σ c G H Γ L s r e Dn post
  unfold fSeq FM.bind at e
  cases ex : fa Γ with
  | none => rw [ex] at e; cases e
  | some r0 =>
    rw [ex] at e
    refine ha P σ c G H Γ L s r0 ex _ ?_
    cases r0 with
    | ok v Γ1 =>
      cases v with
      | nx =>
        refine ⟨fun Γ' er σ' c' G' H' L' g' s' n' => ?_, fun _ er => (by cases er), fun _ er => (by cases er), fun _ _ er => (by cases er), fun _ _ _ _ er => (by cases er)⟩
        cases er
        exact hb P σ' c' G' H' _ L' s' r e Dn (post.trans s.iv g' n')
      | rt v => cases e; exact ⟨fun _ er => (by cases er), fun _ er => (by cases er), fun _ er => (by cases er), post.rt, fun _ _ _ _ er => (by cases er)⟩
      | bk => cases e; exact ⟨fun _ er => (by cases er), post.bk, fun _ er => (by cases er), fun _ _ er => (by cases er), fun _ _ _ _ er => (by cases er)⟩
      | ct => cases e; exact ⟨fun _ er => (by cases er), fun _ er => (by cases er), post.ct, fun _ _ er => (by cases er), fun _ _ _ _ er => (by cases er)⟩
    | ex cn f d Γ1 => cases e; exact ⟨fun _ er => (by cases er), fun _ er => (by cases er), fun _ er => (by cases er), fun _ _ er => (by cases er), post.ex⟩
end
end DF

set_option linter.all false
set_option maxRecDepth 100000
set_option maxHeartbeats 4000000
namespace DF
open PySem L2
variable [TbC]
section
variable {K : PySem.W.Frag} {G G' H H' H0 H1 : Hp} {P : List Addr} {σ σ' : L2.St} {Γ Γ' : EnvF} {L L' : List (Addr × OD)} {c c' : Ow} {W : WX}
variable {ta tb te tc' : TE} {t tr : TA} {fa fb fc : FE} {fs fr : FA} {tt tu : TT} {ft fu : FT}
/-! values -/
def dR : Rel D V := ⟨fun K _ _ _ G _ u d => At K G u d, fun g _ h => h.mono g.g, fun _ h => h⟩
def dsR : Rel (List D) (List V) := ⟨fun K _ _ _ G _ u d => AtL K G u d, fun g _ h => h.mono g.g, fun _ h => h⟩
abbrev SimD := SimX (α := D) (β := V) dR
abbrev SimDs := SimX (α := List D) (β := List V) dsR
theorem PG.ofGrow (g' : Grow (TL []) (fun _ => none) G H c' G' H') (iv' : Iv K c' G' H') : PG G H G' H' :=
  ⟨g'.g, fun b o ho e => g'.h b o rfl ho e, iv'.i, fun b hb => (g'.w b hb).elim .inl fun z => z.elim .inr fun z => by simp [TL] at z, g'.n, fun _ => iv'.nt, fun _ => iv'.tb⟩
def fFail {α : Type} : FM α := fun _ => none
def fOf {α : Type} : Option α → FM α
  | some v => FM.pure v
  | none => fFail
def fV (f : FE) : FM D := FM.bind f fun | .val d => FM.pure d | _ => fFail
def fR (f : FM D) : FE := FM.bind f fun d => FM.pure (.val d)
theorem run_fail {α β : Type} {R : Rel α β} {tx : (β → Hp → Prop) → Prop} : Run R K P W σ c G H L tx none := fun r e => by cases e
theorem sim_val (h : SimE K W te fa) : SimD K W te (fV fa) := fun P σ c G H Γ L s =>
  Run.bind (t2 := fun u H1 Q => Q u H1) s.iv (h P σ c G H Γ L s) fun v Γ1 b c1 G1 H1 L1 g1 s1 e1 r1 => by
    cases v with
    | val d => exact Run.now s1 r1
    | slot i => exact run_fail
    | own o => exact run_fail
/-- what a list of values is -/
def valsOf : List Vr → Option (List D)
  | [] => some []
  | .val d :: vs => (valsOf vs).map (d :: ·)
  | _ :: _ => none
theorem vals_at {us : List V} : ∀ {vs : List Vr} {ds : List D}, VrAll K σ L c G H0 us vs → valsOf vs = some ds → AtL K G us ds := by
  induction us with
  | nil => intro vs ds h e; cases h; cases e; exact .nil
  | cons u us ih =>
    intro vs ds h e
    cases h with
    | @cons _ v _ vs a l =>
      cases v with
      | val d =>
        unfold valsOf at e
        cases ev : valsOf vs with
        | none => rw [ev] at e; cases e
        | some es => rw [ev] at e; cases e; exact .cons a (ih l ev)
      | slot i => cases e
      | own o => cases e
def fVs (f : FA) : FM (List D) := FM.bind f fun vs => fOf (valsOf vs)
theorem sim_vals (h : SimA K W t fs) : SimDs K W t (fVs fs) := fun P σ c G H Γ L s =>
  Run.bind (t2 := fun u H1 Q => Q u H1) s.iv (h P σ c G H Γ L s) fun v Γ1 b c1 G1 H1 L1 g1 s1 e1 r1 => by
    cases e : valsOf v with
    | none => exact run_fail
    | some ds => exact Run.now s1 (vals_at r1 e)
/-! constants, names -/
def fC (d : D) : FE := FM.pure (.val d)
theorem sim_c {u : V} {d : D} (h : ∀ G, At K G u d) : SimE K W (tC u) (fC d) := fun P σ c G H Γ L s => Run.now s (h G)
theorem sim_int {i : Int} : SimE K W (tC (.int i)) (fC (.int i)) := sim_c fun _ => .int i
theorem sim_bl {i : Bool} : SimE K W (tC (.bl i)) (fC (.bl i)) := sim_c fun _ => .bl i
theorem sim_non : SimE K W (tC .non) (fC .non) := sim_c fun _ => .non
theorem sim_ty {i : String} : SimE K W (tC (.ty i)) (fC (.ty i)) := sim_c fun _ => .ty i
theorem sim_cls {a : Addr} {x : Str} (h : CT K x a) : SimE K W (tC (.ref a)) (fC (.cls x)) := sim_c fun _ => .cls h
def fVar (i : Nat) : FE := fun Γ => match Γ[i]? with
  | some (.val d) => some (.ok (.val d) Γ)
  | some (.own _ _) => some (.ok (.slot i) Γ)
  | _ => none
theorem sim_var {i : Nat} : SimE K W (tVar i) (fVar i) := fun P σ c G H Γ L s r e Q post => by
  unfold fVar at e
  cases ei : Γ[i]? with
  | none => rw [ei] at e; cases e
  | some x =>
    rw [ei] at e
    cases x with
    | no => cases e
    | exc => cases e
    | val d =>
      cases e
      obtain ⟨v, h1, h2⟩ := s.r.get ei
      exact ⟨v, h1, post v c G H L .refl s rfl h2⟩
    | own k o =>
      cases e
      obtain ⟨p, h1, h2, h3⟩ := s.r.getO ei
      exact ⟨.ref p, h1, post _ c G H L .refl s rfl h1⟩
/-! operations on values -/
def SimR2 (K : PySem.W.Frag) (r : R2) (f : D → D → Option D) : Prop := ∀ x y z, f x y = some z → ∀ G H u v, Bs G H → At K G u x → At K G v y → ∀ Q : VK, (∀ w G' H', PG G H G' H' → At K G' w z → Q w H') → r u v H Q
def SimR1 (K : PySem.W.Frag) (r : V → Hp → VK → Prop) (f : D → Option D) : Prop := ∀ x z, f x = some z → ∀ G H u, Bs G H → At K G u x → ∀ Q : VK, (∀ w G' H', PG G H G' H' → At K G' w z → Q w H') → r u H Q
def SimC (K : PySem.W.Frag) (r : List V → Hp → VK → Prop) (f : List D → Option D) : Prop := ∀ xs z, f xs = some z → ∀ G H us, Bs G H → AtL K G us xs → ∀ Q : VK, (∀ w G' H', PG G H G' H' → At K G' w z → Q w H') → r us H Q
def fOp (f : D → D → Option D) (a b : FE) : FE := fR (FM.bind (fV a) fun x => FM.bind (fV b) fun y => fOf (f x y))
def fUn (f : D → Option D) (a : FE) : FE := fR (FM.bind (fV a) fun x => fOf (f x))
def fCB (f : List D → Option D) (a : FA) : FE := fR (FM.bind (fVs a) fun x => fOf (f x))
theorem fR_bind {α : Type} (x : FM α) (k : α → FM D) : fR (FM.bind x k) = FM.bind x fun v => fR (k v) := by
  funext Γ
  unfold fR FM.bind
  cases x Γ with
  | none => rfl
  | some r => cases r <;> rfl
theorem fR_of (o : Option D) (Γ : EnvF) : fR (fOf o) Γ = o.map fun d => .ok (.val d) Γ := by
  cases o <;> rfl
theorem run_of {o : Option D} {tx : VK → Prop} (s : Sta K P c G H σ Γ L) (h : ∀ z, o = some z → ∀ Q : VK, (∀ w G' H', PG G H G' H' → At K G' w z → Q w H') → tx Q) : Run vrR K P W σ c G H L tx (fR (fOf o) Γ) := by
  rw [fR_of]
  cases o with
  | none => exact run_fail
  | some z => exact Run.pure s (h z rfl)
theorem sim_op {r : R2} {f : D → D → Option D} (hr : SimR2 K r f) (ha : SimE K W ta fa) (hb : SimE K W tb fb) : SimE K W (tOp r ta tb) (fOp f fa fb) := fun P σ c G H Γ L s => by
  unfold fOp
  rw [fR_bind]
  refine Run.bind (t2 := fun x H1 Q => tb σ H1 fun y H2 => r x y H2 Q) s.iv (sim_val ha P σ c G H Γ L s) fun x Γ1 u c1 G1 H1 L1 g1 s1 e1 r1 => ?_
  rw [fR_bind]
  refine Run.bind (t2 := fun y H2 Q => r u y H2 Q) s1.iv (sim_val hb P σ c1 G1 H1 Γ1 L1 s1) fun y Γ2 v c2 G2 H2 L2' g2 s2 e2 r2 => ?_
  exact run_of s2 fun z ez Q q => hr x y z ez G2 H2 u v s2.iv.bs (r1.mono g2.g) r2 Q q
theorem sim_un {r : V → Hp → VK → Prop} {f : D → Option D} (hr : SimR1 K r f) (ha : SimE K W ta fa) : SimE K W (tUn r ta) (fUn f fa) := fun P σ c G H Γ L s => by
  unfold fUn
  rw [fR_bind]
  refine Run.bind (t2 := fun x H1 Q => r x H1 Q) s.iv (sim_val ha P σ c G H Γ L s) fun x Γ1 u c1 G1 H1 L1 g1 s1 e1 r1 => ?_
  exact run_of s1 fun z ez Q q => hr x z ez G1 H1 u s1.iv.bs r1 Q q
theorem sim_cb {r : List V → Hp → VK → Prop} {f : List D → Option D} (hr : SimC K r f) (ha : SimA K W t fs) : SimE K W (tCB r t) (fCB f fs) := fun P σ c G H Γ L s => by
  unfold fCB
  rw [fR_bind]
  refine Run.bind (t2 := fun x H1 Q => r x H1 Q) s.iv (sim_vals ha P σ c G H Γ L s) fun x Γ1 u c1 G1 H1 L1 g1 s1 e1 r1 => ?_
  exact run_of s1 fun z ez Q q => hr x z ez G1 H1 u s1.iv.bs r1 Q q
/-! lists of arguments -/
def fNil : FA := FM.pure []
def fCons (a : FE) (r : FA) : FA := FM.bind a fun x => FM.bind r fun xs => FM.pure (x :: xs)
theorem sim_nil : SimA K W tNil fNil := fun P σ c G H Γ L s => Run.now s .nil
theorem Run.bind2 {α β α2 β2 α' β' : Type} {R1 : Rel α β} {R2 : Rel α2 β2} {R' : Rel α' β'} {g : α → α2 → α'} {gb : β → β2 → β'} {tx : (β → Hp → Prop) → Prop} {t2 : Hp → (β2 → Hp → Prop) → Prop} {x : FM α} {k : FM α2} (iv : Iv K c G H)
    (h : Run R1 K P W σ c G H L tx (x Γ))
    (hk : ∀ Γ1 c1 G1 H1 L1, Sta K P c1 G1 H1 σ Γ1 L1 → Run R2 K P W σ c1 G1 H1 L1 (t2 H1) (k Γ1))
    (comb : ∀ L c G v w b b2, R1.r K σ L c G H b v → R2.r K σ L c G H b2 w → R'.r K σ L c G H (gb b b2) (g v w)) :
    Run R' K P W σ c G H L (fun Q => tx fun b H1 => t2 H1 fun b2 H2 => Q (gb b b2) H2) (FM.bind x (fun v => FM.bind k fun w => FM.pure (g v w)) Γ) := by
  intro r e Q post
  unfold FM.bind at e
  cases ex : x Γ with
  | none => rw [ex] at e; cases e
  | some r0 =>
    rw [ex] at e
    refine h r0 ex _ ?_
    cases r0 with
    | ok v Γ1 =>
      intro b c1 G1 H1 L1 g1 s1 e1 r1
      have e : (match k Γ1 with
        | some (.ok w Γ') => some (.ok (g v w) Γ')
        | some (.ex c f d Γ') => some (.ex c f d Γ')
        | none => none) = some r := e
      cases ek : k Γ1 with
      | none => rw [ek] at e; cases e
      | some r2 =>
        rw [ek] at e
        refine hk Γ1 c1 G1 H1 L1 s1 r2 ek _ ?_
        cases r2 with
        | ok w Γ2 =>
          cases e
          intro b2 c2 G2 H2 L2' g2 s2 e2 q2
          exact post (gb b b2) c2 G2 H2 L2' (g1.trans' iv g2 (fun _ z => z) fun b z => .inl (by unfold TL at z ⊢; rwa [e1] at z)) s2 (e2.trans e1) (comb L2' c2 G2 v w b b2 (R1.mono g2 e2 r1) (R2.back g1.n q2))
        | ex cn f d Γ2 =>
          cases e
          exact PostX.trans iv g1 (tl_of e1) post
    | ex cn f d Γ1 =>
      cases e
      exact post
theorem sim_cons (ha : SimE K W te fa) (hr : SimA K W tr fr) : SimA K W (tCons te tr) (fCons fa fr) := fun P σ c G H Γ L s =>
  Run.bind2 (t2 := fun H1 Q => tr σ H1 Q) (gb := fun x xs => x :: xs) (g := fun x xs => x :: xs) s.iv (ha P σ c G H Γ L s) (fun Γ1 c1 G1 H1 L1 s1 => hr P σ c1 G1 H1 Γ1 L1 s1) fun L c G v w b b2 h1 h2 => .cons h1 h2
/-! tuples, lists -/
def fTup (a : FA) : FE := fR (FM.bind (fVs a) fun ds => if ds.length ≤ 16777216 then FM.pure (.tup ds) else fFail)
theorem sim_tup (h : SimA K W t fs) : SimE K W (tTup t) (fTup fs) := fun P σ c G H Γ L s => by
  unfold fTup
  rw [fR_bind]
  refine Run.bind (R' := vrR) (t2 := fun xs H1 Q => xs.length ≤ sizeLine ∧ ∀ p, H1 p = none → Q (V.ref p) (upd H1 p (.tup xs))) s.iv (sim_vals h P σ c G H Γ L s) fun x Γ1 u c1 G1 H1 L1 g1 s1 e1 r1 => ?_
  by_cases hl : x.length ≤ 16777216
  · rw [if_pos hl]
    refine Run.pure s1 fun Q q => ⟨by rw [AtL.length r1, sizeLine_eq]; exact hl, fun p hp => ?_⟩
    have gn := PG.new (G := G1) (o := .tup u) s1.iv.i hp
    exact q (.ref p) _ _ gn (.tup (.inl (.inl upd_same)) (AtL.mono gn.g r1))
  · rw [if_neg hl]; exact run_fail
def fLst (a : FA) : FE := fR (FM.bind (fVs a) fun ds => if ds.length ≤ 16777216 then FM.pure (.lst ds) else fFail)
theorem sim_lst (h : SimA K W t fs) : SimE K W (tLst t) (fLst fs) := fun P σ c G H Γ L s => by
  unfold fLst
  rw [fR_bind]
  refine Run.bind (R' := vrR) (t2 := fun xs H1 Q => xs.length ≤ sizeLine ∧ ∀ p, H1 p = none → Q (V.ref p) (upd H1 p (.lst xs))) s.iv (sim_vals h P σ c G H Γ L s) fun x Γ1 u c1 G1 H1 L1 g1 s1 e1 r1 => ?_
  by_cases hl : x.length ≤ 16777216
  · rw [if_pos hl]
    refine Run.pure s1 fun Q q => ⟨by rw [AtL.length r1, sizeLine_eq]; exact hl, fun p hp => ?_⟩
    have gn := PG.new (G := G1) (o := .lst u) s1.iv.i hp
    exact q (.ref p) _ _ gn (.lst upd_same (AtL.mono gn.g r1))
  · rw [if_neg hl]; exact run_fail
/-- a list of one's own -/
def fLstO (a : FA) : FE := FM.bind (fVs a) fun ds => if ds.length ≤ 16777216 then FM.pure (.own (.lst ds)) else fFail
theorem Run.fresh {o : OD} {ho : HO} {tx : VK → Prop} {p : Addr} (s : Sta K P c G H σ Γ L) (hp : H p = none) (hh : HasO K G (upd H p ho) p o) {Q : VK}
    (post : ∀ b c' G' H' L', Grow (TL L) c G H c' G' H' → Sta K P c' G' H' σ Γ L' → L'.map (·.1) = L.map (·.1) → VrAt K σ L' c' G' H b (.own o) → Q b H') : Q (.ref p) (upd H p ho) := by
  obtain ⟨g, v⟩ := own_new (T := TL L) s.iv hp hh
  have np : ∀ e ∈ L, e.1 ≠ p := fun e he z => by
    have := (s.iv.ow e.1 e.2 (s.ow e he)).2.some
    rw [z] at this; exact this hp
  refine post _ _ _ _ L g ⟨s.r, s.nd, fun e he => by rw [Ow.put_ne (np e he)]; exact s.ow e he, v, fun q hq => g.n q (s.pa q hq)⟩ rfl ⟨p, rfl, Ow.put_same, fun z => ?_, hp⟩
  obtain ⟨e, he, ee⟩ := List.mem_map.mp z
  exact np e he ee
theorem sim_lstO (h : SimA K W t fs) : SimE K W (tLst t) (fLstO fs) := fun P σ c G H Γ L s => by
  unfold fLstO
  refine Run.bind (R' := vrR) (t2 := fun xs H1 Q => xs.length ≤ sizeLine ∧ ∀ p, H1 p = none → Q (V.ref p) (upd H1 p (.lst xs))) s.iv (sim_vals h P σ c G H Γ L s) fun x Γ1 u c1 G1 H1 L1 g1 s1 e1 r1 => ?_
  by_cases hl : x.length ≤ 16777216
  · rw [if_pos hl]
    intro r e Q post
    cases e
    exact ⟨by rw [AtL.length r1, sizeLine_eq]; exact hl, fun p hp => Run.fresh (o := .lst x) (ho := .lst u) (tx := fun _ => True) s1 hp ⟨u, upd_same, r1⟩ post⟩
  · rw [if_neg hl]; exact run_fail
/-! choices -/
def fIf (a : FT) (b c : FE) : FE := FM.bind a fun k => if k = true then b else c
theorem sim_if (ha : SimT K W tt ft) (hb : SimE K W ta fa) (hc : SimE K W tb fb) : SimE K W (tIf tt ta tb) (fIf ft fa fb) := fun P σ c G H Γ L s =>
  Run.bind (t2 := fun k H1 Q => if k = true then ta σ H1 Q else tb σ H1 Q) s.iv (ha P σ c G H Γ L s) fun k Γ1 b c1 G1 H1 L1 g1 s1 e1 r1 => by
    have e : b = k := r1
    subst e
    cases b with
    | true => exact hb P σ c1 G1 H1 Γ1 L1 s1
    | false => exact hc P σ c1 G1 H1 Γ1 L1 s1
def boolOf : D → Option Bool
  | .bl b => some b
  | _ => none
theorem at_bool {u : V} {d : D} {b : Bool} (h : At K G u d) (e : boolOf d = some b) : u = .bl b := by
  cases d with
  | bl k => cases e; cases h; rfl
  | _ => cases e
def fAndV (a b : FE) : FE := FM.bind (fV a) fun x => match boolOf x with | some true => b | some false => FM.pure (.val (.bl false)) | none => fFail
def fOrV (a b : FE) : FE := FM.bind (fV a) fun x => match boolOf x with | some true => FM.pure (.val (.bl true)) | some false => b | none => fFail
def fNotV (a : FE) : FE := FM.bind (fV a) fun x => match boolOf x with | some k => FM.pure (.val (.bl !k)) | none => fFail
theorem sim_andV (ha : SimE K W ta fa) (hb : SimE K W tb fb) : SimE K W (tAndV ta tb) (fAndV fa fb) := fun P σ c G H Γ L s =>
  Run.bind (t2 := fun x H1 Q => ∃ c, x = .bl c ∧ if c = true then tb σ H1 Q else Q (.bl false) H1) s.iv (sim_val ha P σ c G H Γ L s) fun x Γ1 u c1 G1 H1 L1 g1 s1 e1 r1 => by
    cases eb : boolOf x with
    | none => exact run_fail
    | some k =>
      have eu := at_bool r1 eb
      subst eu
      intro r e Q post
      cases k with
      | true => exact ⟨true, rfl, hb P σ c1 G1 H1 Γ1 L1 s1 r e Q post⟩
      | false => cases e; exact ⟨false, rfl, post _ c1 G1 H1 L1 .refl s1 rfl (.bl false)⟩
theorem sim_notV (ha : SimE K W ta fa) : SimE K W (tNotV ta) (fNotV fa) := fun P σ c G H Γ L s =>
  Run.bind (R' := vrR) (t2 := fun x H1 Q => ∃ c, x = V.bl c ∧ Q (V.bl (!c)) H1) s.iv (sim_val ha P σ c G H Γ L s) fun x Γ1 u c1 G1 H1 L1 g1 s1 e1 r1 => by
    cases eb : boolOf x with
    | none => exact run_fail
    | some k =>
      have eu := at_bool r1 eb
      subst eu
      intro r e Q post
      cases e
      exact ⟨k, rfl, post _ c1 G1 H1 L1 .refl s1 rfl (.bl _)⟩
def isNon : D → Bool
  | .non => true
  | _ => false
theorem at_non {u : V} {d : D} (h : At K G u d) : decide (u = .non) = isNon d := by
  cases h <;> rfl
def fIsN (a : FE) : FE := FM.bind (fV a) fun x => FM.pure (.val (.bl (isNon x)))
def fNotN (a : FE) : FE := FM.bind (fV a) fun x => FM.pure (.val (.bl !(isNon x)))
theorem sim_isN (ha : SimE K W ta fa) : SimE K W (tIsN ta) (fIsN fa) := fun P σ c G H Γ L s =>
  Run.bind (R' := vrR) (t2 := fun x H1 Q => Q (V.bl (decide (x = V.non))) H1) s.iv (sim_val ha P σ c G H Γ L s) fun x Γ1 u c1 G1 H1 L1 g1 s1 e1 r1 => by
    rw [at_non r1]; exact Run.now s1 (.bl _)
theorem sim_notN (ha : SimE K W ta fa) : SimE K W (tNotN ta) (fNotN fa) := fun P σ c G H Γ L s =>
  Run.bind (R' := vrR) (t2 := fun x H1 Q => Q (V.bl (!decide (x = V.non))) H1) s.iv (sim_val ha P σ c G H Γ L s) fun x Γ1 u c1 G1 H1 L1 g1 s1 e1 r1 => by
    rw [at_non r1]; exact Run.now s1 (.bl _)
/-! tests -/
def fTest (a : FE) : FT := FM.bind (fV a) fun x => fOf (boolOf x)
theorem sim_test (ha : SimE K W ta fa) : SimT K W (tTest ta) (fTest fa) := fun P σ c G H Γ L s =>
  Run.bind (t2 := fun x H1 Q => ∃ k, x = .bl k ∧ Q k H1) s.iv (sim_val ha P σ c G H Γ L s) fun x Γ1 u c1 G1 H1 L1 g1 s1 e1 r1 => by
    cases eb : boolOf x with
    | none => exact run_fail
    | some k =>
      have eu := at_bool r1 eb
      subst eu
      intro r e Q post
      cases e
      exact ⟨k, rfl, post k c1 G1 H1 L1 .refl s1 rfl rfl⟩
def fNot (a : FT) : FT := FM.bind a fun k => FM.pure !k
def fAnd (a b : FT) : FT := FM.bind a fun k => if k = true then b else FM.pure false
def fOr (a b : FT) : FT := FM.bind a fun k => if k = true then FM.pure true else b
def fYes : FT := FM.pure true
theorem sim_not (ha : SimT K W tt ft) : SimT K W (tNot tt) (fNot ft) := fun P σ c G H Γ L s =>
  Run.bind (t2 := fun k H1 Q => Q (!k) H1) s.iv (ha P σ c G H Γ L s) fun k Γ1 b c1 G1 H1 L1 g1 s1 e1 r1 => by
    have e : b = k := r1
    subst e
    exact Run.now (R := eqR Bool) s1 rfl
theorem sim_and (ha : SimT K W tt ft) (hb : SimT K W tu fu) : SimT K W (tAnd tt tu) (fAnd ft fu) := fun P σ c G H Γ L s =>
  Run.bind (t2 := fun k H1 Q => if k = true then tu σ H1 Q else Q false H1) s.iv (ha P σ c G H Γ L s) fun k Γ1 b c1 G1 H1 L1 g1 s1 e1 r1 => by
    have e : b = k := r1
    subst e
    cases b with
    | true => exact hb P σ c1 G1 H1 Γ1 L1 s1
    | false => exact Run.now (R := eqR Bool) s1 rfl
theorem sim_or (ha : SimT K W tt ft) (hb : SimT K W tu fu) : SimT K W (tOr tt tu) (fOr ft fu) := fun P σ c G H Γ L s =>
  Run.bind (t2 := fun k H1 Q => if k = true then Q true H1 else tu σ H1 Q) s.iv (ha P σ c G H Γ L s) fun k Γ1 b c1 G1 H1 L1 g1 s1 e1 r1 => by
    have e : b = k := r1
    subst e
    cases b with
    | false => exact hb P σ c1 G1 H1 Γ1 L1 s1
    | true => exact Run.now (R := eqR Bool) s1 rfl
theorem sim_yes : SimT K W tYes fYes := fun P σ c G H Γ L s => Run.now (R := eqR Bool) s rfl
/-- a chain of two comparisons -/
def fChain (f g : D → D → Option D) (a b c : FE) : FE := FM.bind (fV a) fun x => FM.bind (fV b) fun y => match f x y with
  | some (.bl true) => fOp g (fC y) c
  | some (.bl false) => FM.pure (.val (.bl false))
  | _ => fFail
end
end DF

set_option linter.all false
set_option maxRecDepth 100000
set_option maxHeartbeats 4000000
namespace DF
open PySem L2
variable [TbC]
/-! ### defs -/
inductive RF where
  | ok (v : Vr) (o : Option OD) | ex (c f : Str) (d : D) (o : Option OD)
abbrev FF := List Sl → Option RF
inductive ArgR (K : PySem.W.Frag) (G : Hp) : List V → List Sl → List (Addr × OD) → Prop
  | nil : ArgR K G [] [] []
  | val {u : V} {d : D} {us : List V} {as : List Sl} {L : List (Addr × OD)} : At K G u d → ArgR K G us as L → ArgR K G (u :: us) (.val d :: as) L
  | own {p : Addr} {o : OD} {us : List V} {as : List Sl} : ArgR K G us as [] → ArgR K G (.ref p :: us) (.own 1 o :: as) [(p, o)]
  | exc {us : List V} {as : List Sl} {L : List (Addr × OD)} : ArgR K G us as L → ArgR K G (.ref TbC.xa :: us) (.exc :: as) L
def RetAt (K : PySem.W.Frag) (L : List (Addr × OD)) (c' : Ow) (G' H0 : Hp) (u : V) : Vr → Prop
  | .val d => At K G' u d
  | .own o => ∃ p, u = .ref p ∧ c' p = some o ∧ ¬ TL L p ∧ H0 p = none
  | .slot _ => False
def PostF (K : PySem.W.Frag) (c : Ow) (G H : Hp) (L : List (Addr × OD)) (r : RF) (Q : VK) (E : XK) : Prop := match r with
  | .ok v o => ∀ u c' G' H', Grow (TL L) c G H c' G' H' → Iv K c' G' H' → (∀ p o0 o', L = [(p, o0)] → o = some o' → c' p = some o') → RetAt K L c' G' H u v → Q u H'
  | .ex cn f d o => ∀ C dd fv c' G' H', Grow (TL L) c G H c' G' H' → Iv K c' G' H' → (∀ p o0 o', L = [(p, o0)] → o = some o' → c' p = some o') → CT K cn C → H' dd = some (.xd [(f, fv)]) → At K G' fv d → E (.ref C) (some dd) H'
def spF (K : PySem.W.Frag) (F : FF) : Sp := fun vs H Q E => ∃ G c as L r, Iv K c G H ∧ ArgR K G vs as L ∧ (∀ e ∈ L, c e.1 = some e.2) ∧ F as = some r ∧ PostF K c G H L r Q E
/-- the content that what was lent has in the end -/
def lastO : EnvF → Option OD
  | [] => none
  | .own 1 o :: _ => some o
  | _ :: Γ => lastO Γ
def lent (as : List Sl) : Bool := as.any fun | .own _ _ => true | _ => false
def endO (as : List Sl) (Γ : EnvF) : Option (Option OD) := if lent as then (lastO Γ).map some else some none
def defF (k n : Nat) (fs : FS) : FF := fun as => if as.length = k then (match fs (as ++ List.replicate (n - as.length) .no) with
  | some (.ok (.rt (.val d)) Γ) => (endO as Γ).map fun o => .ok (.val d) o
  | some (.ok (.rt (.own x)) Γ) => (endO as Γ).map fun o => .ok (.own x) o
  | some (.ok .nx Γ) => (endO as Γ).map fun o => .ok (.val .non) o
  | some (.ex c f d Γ) => (endO as Γ).map fun o => .ex c f d o
  | _ => none) else none
section
variable {K : PySem.W.Frag} {G G' H H' H0 H1 : Hp} {P : List Addr} {σ σ' : L2.St} {Γ Γ' : EnvF} {L L' : List (Addr × OD)} {c c' : Ow} {W : WX}
variable {ta tb te : TE} {t tr : TA} {fa fb fc : FE} {fs fr : FA} {tt tu : TT} {ft fu : FT}
theorem ArgR.mono (e : Ext G G') : ∀ {us : List V} {as : List Sl} {L : List (Addr × OD)}, ArgR K G us as L → ArgR K G' us as L
  | _, _, _, .nil => .nil
  | _, _, _, .val a l => .val (a.mono e) (ArgR.mono e l)
  | _, _, _, .own l => .own (ArgR.mono e l)
  | _, _, _, .exc l => .exc (ArgR.mono e l)
theorem ArgR.length : ∀ {us : List V} {as : List Sl} {L : List (Addr × OD)}, ArgR K G us as L → us.length = as.length
  | _, _, _, .nil => rfl
  | _, _, _, .val a l => congrArg (· + 1) (ArgR.length l)
  | _, _, _, .own l => congrArg (· + 1) (ArgR.length l)
  | _, _, _, .exc l => congrArg (· + 1) (ArgR.length l)
theorem ArgR.one : ∀ {us : List V} {as : List Sl} {L : List (Addr × OD)}, ArgR K G us as L → L = [] ∧ lent as = false ∨ ∃ p o, L = [(p, o)] ∧ lent as = true
  | _, _, _, .nil => .inl ⟨rfl, rfl⟩
  | _, _, _, .val a l => (ArgR.one l).imp (fun ⟨h1, h2⟩ => ⟨h1, by unfold lent at h2 ⊢; simpa using h2⟩) fun ⟨p, o, h1, h2⟩ => ⟨p, o, h1, by unfold lent at h2 ⊢; simpa using h2⟩
  | _, _, _, .own l => .inr ⟨_, _, rfl, rfl⟩
  | _, _, _, .exc l => (ArgR.one l).imp (fun ⟨h1, h2⟩ => ⟨h1, by unfold lent at h2 ⊢; simpa using h2⟩) fun ⟨p, o, h1, h2⟩ => ⟨p, o, h1, by unfold lent at h2 ⊢; simpa using h2⟩
theorem envR_rep (n : Nat) : EnvR K G P (List.replicate n none) (List.replicate n .no) [] := by
  induction n with
  | zero => exact .nil
  | succ n ih => exact .no ih
theorem ArgR.env (n : Nat) : ∀ {us : List V} {as : List Sl} {L : List (Addr × OD)}, ArgR K G us as L → (∀ e ∈ L, P[0]? = some e.1) → EnvR K G P (us.map some ++ List.replicate n none) (as ++ List.replicate n .no) L
  | _, _, _, .nil, h => envR_rep n
  | _, _, _, .val a l, h => .val a (ArgR.env n l h)
  | _, _, _, .own l, h => .own (.inr ⟨0, rfl, h _ List.mem_cons_self⟩) (ArgR.env n l fun e he => (List.not_mem_nil he).elim)
  | _, _, _, .exc l, h => .exc (ArgR.env n l h)
theorem lastO_at : ∀ {Γ : EnvF} {o : OD}, lastO Γ = some o → ∃ i : Nat, Γ[i]? = some (Sl.own 1 o)
  | [], o, e => by cases e
  | .own 1 x :: Γ, o, e => by cases e; exact ⟨0, rfl⟩
  | .own 0 x :: Γ, o, e => by obtain ⟨i, h⟩ := lastO_at (Γ := Γ) e; exact ⟨i + 1, h⟩
  | .own (k + 2) x :: Γ, o, e => by obtain ⟨i, h⟩ := lastO_at (Γ := Γ) e; exact ⟨i + 1, h⟩
  | .no :: Γ, o, e => by obtain ⟨i, h⟩ := lastO_at (Γ := Γ) e; exact ⟨i + 1, h⟩
  | .exc :: Γ, o, e => by obtain ⟨i, h⟩ := lastO_at (Γ := Γ) e; exact ⟨i + 1, h⟩
  | .val d :: Γ, o, e => by obtain ⟨i, h⟩ := lastO_at (Γ := Γ) e; exact ⟨i + 1, h⟩
/-- what was lent has in the end what the function says -/
theorem endO_at {as : List Sl} {us : List V} {oo : Option OD} (ar : ArgR K G us as L) (s : Sta K (L.map (·.1)) c' G' H' σ' Γ' L') (e : endO as Γ' = some oo) : ∀ p o0 o', L = [(p, o0)] → oo = some o' → c' p = some o' := by
  intro p o0 o' eL eo
  subst eL eo
  rcases ar.one with ⟨h, _⟩ | ⟨p', o1, h, hl⟩
  · cases h
  · unfold endO at e
    rw [if_pos hl] at e
    cases el : lastO Γ' with
    | none => rw [el] at e; cases e
    | some o2 =>
      rw [el] at e
      cases e
      obtain ⟨i, hi⟩ := lastO_at el
      obtain ⟨q, h1, h2, h3⟩ := s.r.getO hi
      rcases h3 with ⟨z, _⟩ | ⟨j, z, h3⟩
      · cases z
      · cases z
        simp at h3
        subst h3
        exact s.ow _ h2
/-! ### calls -/
inductive Ob where
  | none | slot (i : Nat) | tmp
def argsOf : List Vr → EnvF → Option (List Sl × Ob)
  | [], _ => some ([], .none)
  | v :: vs, Γ => match argsOf vs Γ with
    | none => none
    | some (as, b) => match v, b with
      | .val d, b => some (.val d :: as, b)
      | .slot i, .none => match Γ[i]? with
        | some (.own _ o) => some (.own 1 o :: as, .slot i)
        | _ => none
      | .own o, .none => some (.own 1 o :: as, .tmp)
      | _, _ => none
def putBack (b : Ob) (o : Option OD) (Γ : EnvF) : Option EnvF := match b, o with
  | .none, _ => some Γ
  | .tmp, _ => some Γ
  | .slot i, some o => match Γ[i]? with
    | some (.own k _) => some (Γ.set i (.own k o))
    | _ => none
  | .slot _, none => none
def callF (F : FF) (vs : List Vr) : FE := fun Γ => match argsOf vs Γ with
  | none => none
  | some (as, b) => match F as with
    | some (.ok v o) => (putBack b o Γ).map fun Γ' => .ok v Γ'
    | some (.ex c f d o) => (putBack b o Γ).map fun Γ' => .ex c f d Γ'
    | none => none
def fCall (F : FF) (a : FA) : FE := FM.bind a fun vs => callF F vs
/-- what of the arguments is lent -/
theorem argsOf_at (s : Sta K P c G H σ Γ L) {H0 : Hp} : ∀ {us : List V} {vs : List Vr} {as : List Sl} {b : Ob}, VrAll K σ L c G H0 us vs → argsOf vs Γ = some (as, b) →
    ∃ M, ArgR K G us as M ∧ (∀ e ∈ M, c e.1 = some e.2) ∧ (b = .none → M = []) ∧ (b = .tmp → ∃ p o, M = [(p, o)] ∧ p ∉ L.map (·.1) ∧ H0 p = none) ∧ (∀ i, b = .slot i → ∃ p k o, M = [(p, o)] ∧ σ[i]? = some (some (.ref p)) ∧ Γ[i]? = some (.own k o))
  | _, _, _, _, .nil, e => by
    cases e
    exact ⟨[], .nil, fun e he => (List.not_mem_nil he).elim, fun _ => rfl, fun z => (by cases z), fun _ z => (by cases z)⟩
  | _, _, as, b, @VrAll.cons _ _ _ _ _ _ u v us vs a l, e => by
    unfold argsOf at e
    cases ea : argsOf vs Γ with
    | none => rw [ea] at e; cases e
    | some ab =>
      obtain ⟨as1, b1⟩ := ab
      rw [ea] at e
      obtain ⟨M, h1, h2, h3, h4, h5⟩ := argsOf_at s l ea
      cases v with
      | val d =>
        cases e
        exact ⟨M, .val a h1, h2, h3, h4, h5⟩
      | slot i =>
        cases b1 with
        | none =>
          have e : (match Γ[i]? with
            | some (.own _ o) => some (Sl.own 1 o :: as1, Ob.slot i)
            | _ => none) = some (as, b) := e
          cases ei : Γ[i]? with
          | none => rw [ei] at e; cases e
          | some x =>
            rw [ei] at e
            cases x with
            | own k o =>
              cases e
              obtain ⟨p, q1, q2, _⟩ := s.r.getO ei
              have eu : u = .ref p := by
                have z : σ[i]? = some (some u) := a
                rw [q1] at z; injection z with z; injection z with z; exact z.symm
              subst eu
              rw [h3 rfl] at h1
              exact ⟨[(p, o)], .own h1, fun e he => by rw [List.mem_singleton.mp he]; exact s.ow _ q2, fun z => (by cases z), fun z => (by cases z), fun j z => by cases z; exact ⟨p, k, o, rfl, q1, ei⟩⟩
            | no => cases e
            | exc => cases e
            | val d => cases e
        | slot j => cases e
        | tmp => cases e
      | own o =>
        cases b1 with
        | none =>
          cases e
          obtain ⟨p, eu, q1, q2, q3⟩ := a
          subst eu
          rw [h3 rfl] at h1
          exact ⟨[(p, o)], .own h1, fun e he => by rw [List.mem_singleton.mp he]; exact q1, fun z => (by cases z), fun _ => ⟨p, o, rfl, q2, q3⟩, fun j z => by cases z⟩
        | slot j => cases e
        | tmp => cases e
end
end DF

set_option linter.all false
set_option maxRecDepth 100000
set_option maxHeartbeats 4000000
namespace DF
open PySem L2
variable [TbC]
section
variable {K : PySem.W.Frag} {G G' H H' H0 H1 G1 : Hp} {P : List Addr} {σ σ' : L2.St} {Γ Γ' Γ1 : EnvF} {L L' L1 : List (Addr × OD)} {c c' c1 : Ow} {W : WX}
variable {ta tb te : TE} {t tr tk : TA} {fa fb fc : FE} {fs fr fk : FA} {tt tu : TT} {ft fu : FT} {E : XK}
theorem back_of (g : Grow (TL L) c G H c1 G1 H1) {b : Addr} (z : H1 b = none) : H b = none := by
  cases q : H b with
  | none => rfl
  | some o => exact absurd z (g.n _ (by rw [q]; simp))
theorem sta_back {M : List (Addr × OD)} {as : List Sl} {us : List V} {b : Ob} {oo : Option OD} {Γ2 : EnvF} (s1 : Sta K P c1 G1 H1 σ Γ1 L1) (g' : Grow (TL M) c1 G1 H1 c' G' H') (iv' : Iv K c' G' H') (ho : ∀ p o0 o', M = [(p, o0)] → oo = some o' → c' p = some o')
    (m3 : b = .none → M = []) (m4 : b = .tmp → ∃ p o, M = [(p, o)] ∧ p ∉ L1.map (·.1) ∧ H0 p = none) (m5 : ∀ i, b = .slot i → ∃ p k o, M = [(p, o)] ∧ σ[i]? = some (some (.ref p)) ∧ Γ1[i]? = some (.own k o)) (eb : putBack b oo Γ1 = some Γ2) :
    ∃ L2', Sta K P c' G' H' σ Γ2 L2' ∧ L2'.map (·.1) = L1.map (·.1) := by
  have pa' : ∀ p ∈ P, H' p ≠ none := fun p hp => g'.n p (s1.pa p hp)
  have keep : ∀ e ∈ L1, ¬ TL M e.1 → c' e.1 = some e.2 := fun e he z => by rw [(g'.f e.1 z (by rw [s1.ow e he]; simp)).1]; exact s1.ow e he
  cases b with
  | none =>
    cases eb
    refine ⟨L1, ⟨s1.r.mono g'.g, s1.nd, fun e he => keep e he ?_, iv', pa'⟩, rfl⟩
    rw [m3 rfl]; simp [TL]
  | tmp =>
    cases eb
    obtain ⟨p, o, eM, np, _⟩ := m4 rfl
    refine ⟨L1, ⟨s1.r.mono g'.g, s1.nd, fun e he => keep e he ?_, iv', pa'⟩, rfl⟩
    rw [eM]; intro z
    have z : e.1 = p := by simpa [TL] using z
    exact np (z ▸ List.mem_map.mpr ⟨e, he, rfl⟩)
  | slot i =>
    obtain ⟨p, k, o, eM, h1, h2⟩ := m5 i rfl
    cases oo with
    | none => cases eb
    | some o' =>
      unfold putBack at eb
      simp only [h2] at eb
      cases eb
      obtain ⟨p', L2', q1, q2, q3, q4, q5⟩ := (s1.r.mono g'.g).updOwn (o' := o') s1.nd h2
      have ep : p' = p := by rw [h1] at q1; injection q1 with q1; injection q1 with q1; injection q1 with q1; exact q1.symm
      subst ep
      refine ⟨L2', ⟨q3, by rw [q4]; exact s1.nd, fun e he => ?_, iv', pa'⟩, q4⟩
      rcases q5 e he with z | ⟨z, zn⟩
      · rw [z]; exact ho _ _ _ eM rfl
      · refine keep e z ?_
        rw [eM]; simpa [TL] using zn
theorem call_core {F : FF} {us : List V} {vs : List Vr} (iv : Iv K c G H) (g1 : Grow (TL L) c G H c1 G1 H1) (s1 : Sta K P c1 G1 H1 σ Γ1 L1) (e1 : L1.map (·.1) = L.map (·.1)) (ra : VrAll K σ L1 c1 G1 H us vs) (hE : ∀ cls d σ H, W cls d σ H → E cls d H)
    {r : Rt Vr} (er : callF F vs Γ1 = some r) {Q : VK}
    (post : PostE vrR K P W σ c G H L Q r) : spF K F us H1 Q E := by
  unfold callF at er
  cases ea : argsOf vs Γ1 with
  | none => rw [ea] at er; cases er
  | some ab =>
    obtain ⟨as, b⟩ := ab
    rw [ea] at er
    obtain ⟨M, m1, m2, m3, m4, m5⟩ := argsOf_at s1 ra ea
    have touch : ∀ x, TL M x → TL L x ∨ H x = none := fun x hx => by
      cases b with
      | none => rw [m3 rfl] at hx; cases hx
      | tmp =>
        obtain ⟨p, o, eM, _, q⟩ := m4 rfl
        rw [eM] at hx
        have z : x = p := by simpa [TL] using hx
        rw [z]; exact .inr q
      | slot i =>
        obtain ⟨p, k, o, eM, h1, h2⟩ := m5 i rfl
        rw [eM] at hx
        have z : x = p := by simpa [TL] using hx
        obtain ⟨p', q1, q2, _⟩ := s1.r.getO h2
        rw [h1] at q1; injection q1 with q1; injection q1 with q1; injection q1 with q1
        rw [z]
        refine .inl ?_
        show p ∈ L.map (·.1)
        rw [← e1, q1]; exact List.mem_map.mpr ⟨_, q2, rfl⟩
    have er : (match F as with
      | some (.ok v o) => (putBack b o Γ1).map fun Γ' => Rt.ok v Γ'
      | some (.ex c f d o) => (putBack b o Γ1).map fun Γ' => Rt.ex c f d Γ'
      | none => none) = some r := er
    cases eF : F as with
    | none => rw [eF] at er; cases er
    | some rf =>
      rw [eF] at er
      refine ⟨G1, c1, as, M, rf, s1.iv, m1, m2, eF, ?_⟩
      cases rf with
      | ok v oo =>
        simp only [Option.map_eq_some_iff] at er
        obtain ⟨Γ2, eb, e2⟩ := er
        subst e2
        intro u c' G' H' g' iv' ho hr
        obtain ⟨L2', s2, e2⟩ := sta_back (H0 := H) (as := as) (us := us) s1 g' iv' ho m3 m4 m5 eb
        refine post u c' G' H' L2' (g1.trans' iv g' (fun _ z => z) touch) s2 (e2.trans e1) ?_
        cases v with
        | val d => exact hr
        | slot i => exact hr.elim
        | own x =>
          obtain ⟨p, h1, h2, h3, h4⟩ := hr
          refine ⟨p, h1, h2, ?_, back_of g1 h4⟩
          rw [e2]
          intro z
          obtain ⟨e, he, ee⟩ := List.mem_map.mp z
          have := (s1.iv.ow _ _ (s1.ow e he)).2.some
          rw [ee] at this
          exact this h4
      | ex cn f d oo =>
        simp only [Option.map_eq_some_iff] at er
        obtain ⟨Γ2, eb, e2⟩ := er
        subst e2
        intro C dd fv c' G' H' g' iv' ho ct hd hv
        obtain ⟨L2', s2, e2⟩ := sta_back (H0 := H) (as := as) (us := us) s1 g' iv' ho m3 m4 m5 eb
        exact hE _ _ σ _ (post C dd fv σ c' G' H' L2' (g1.trans' iv g' (fun _ z => z) touch) s2 (fun x hx => tl_of (e2.trans e1) x hx) ct hd hv)
/-- f(e, ..) -/
theorem sim_call {F : FF} (hE : ∀ cls d σ H, W cls d σ H → E cls d H) (h : SimA K W t fs) : SimE K W (tCall (spF K F) [] E t) (fCall F fs) := fun P σ c G H Γ L s r e Q post => by
  unfold fCall FM.bind at e
  cases ex : fs Γ with
  | none => rw [ex] at e; cases e
  | some r0 =>
    rw [ex] at e
    refine h P σ c G H Γ L s r0 ex _ ?_
    cases r0 with
    | ok vs Γ1 =>
      intro us c1 G1 H1 L1 g1 s1 e1 r1
      show spF K F (us ++ []) H1 Q E
      rw [List.append_nil]
      exact call_core s.iv g1 s1 e1 r1 hE e post
    | ex cn f d Γ1 => cases e; exact post
/-- keywords put into their places -/
def permV (ix : List Nat) (xs : List V) : List V := ix.map fun i => xs.getD i .non
def permU (ix : List Nat) (xs : List Value) : List Value := ix.map fun i => xs.getD i .none
def permR (ix : List Nat) (xs : List Vr) : List Vr := ix.map fun i => xs.getD i (.val .non)
theorem vals_getD {vs : List V} {us : List Value} (r : Vals vs us) (i : Nat) : RelV (vs.getD i .non) (us.getD i .none) := by
  induction r generalizing i with
  | nil => simp; rfl
  | cons h _ ih => cases i with | zero => simpa using h | succ i => simpa using ih i
theorem perm_rel {ix : List Nat} {vs : List V} {us : List Value} (r : Vals vs us) : Vals (permV ix vs) (permU ix us) := by
  unfold permV permU
  induction ix with
  | nil => exact .nil
  | cons i ix ih => exact .cons (vals_getD r i) ih
theorem vr_getD {us : List V} : ∀ {vs : List Vr} (i : Nat), VrAll K σ L c G H0 us vs → VrAt K σ L c G H0 (us.getD i .non) (vs.getD i (.val .non)) := by
  induction us with
  | nil => intro vs i h; cases h; simp; exact At.non
  | cons v us ih => intro vs i h; cases h with | cons a l => cases i with | zero => simpa using a | succ i => simpa using ih i l
theorem perm_vr {us : List V} {vs : List Vr} {ix : List Nat} (h : VrAll K σ L c G H0 us vs) : VrAll K σ L c G H0 (permV ix us) (permR ix vs) := by
  unfold permV permR
  induction ix with
  | nil => exact .nil
  | cons i ix ih => exact .cons (vr_getD i h) ih
theorem VrAll.append {us ws : List V} : ∀ {vs xs : List Vr}, VrAll K σ L c G H0 us vs → VrAll K σ L c G H0 ws xs → VrAll K σ L c G H0 (us ++ ws) (vs ++ xs) := by
  induction us with
  | nil => intro vs xs h k; cases h; exact k
  | cons v us ih => intro vs xs h k; cases h with | cons a l => exact .cons a (ih l k)
theorem VrAll.length {us : List V} : ∀ {vs : List Vr}, VrAll K σ L c G H0 us vs → us.length = vs.length := by
  induction us with
  | nil => intro vs h; cases h; rfl
  | cons v us ih => intro vs h; cases h with | cons a l => rw [List.length_cons, List.length_cons, ih l]
theorem kbn {K : PySem.W.Frag} {x qual : Str} {st : Stmt} {f : Addr} {fd : FuncData} {ps ks : List Str} {n : Nat} (ix : List Nat) (F : Fun K x qual st f fd)
    (h : ∀ (kV doc pm : Value) (an : Option Addr) (cdv ct : Value) (us ws : List Value), us.length = n → ws.length = ks.length → bindArgs (PySem.W.fnOf x qual (defArgs st) (defBody st) (defScope st) .none kV doc pm an cdv ct) ⟨us, ks.zip ws⟩ = pure (ps.zip (permU ix (us ++ ws)))) :
    KBn K fd ps n ks (fun us ws => permU ix (us ++ ws)) (fun vs zs => permV ix (vs ++ zs)) := by
  obtain ⟨oc, od, kV, doc, pm, an, cdv, ct, osl, rfl, lk, hcd⟩ := F.ex
  exact ⟨fun s us ws _ h1 h2 => .of_eq (h kV doc pm an cdv ct us ws h1 h2), fun r rz => perm_rel (r.append rz)⟩
/-- f(e, .., k = v, ..) -/
def fCallN (F : FF) (j l : Nat) (ix : List Nat) (a b : FA) : FE := FM.bind (FM.bind a fun vs => FM.bind b fun xs => FM.pure (vs, xs)) fun p => if p.1.length = j ∧ p.2.length = l then callF F (permR ix (p.1 ++ p.2)) else fFail
def ar2R : Rel (List Vr × List Vr) (List V × List V) := ⟨fun K σ L c G H0 b v => VrAll K σ L c G H0 b.1 v.1 ∧ VrAll K σ L c G H0 b.2 v.2, fun g e h => ⟨h.1.mono g e, h.2.mono g e⟩, fun n h => ⟨h.1.back n, h.2.back n⟩⟩
theorem sim_callN {F : FF} {j l : Nat} {ix : List Nat} (hE : ∀ cls d σ H, W cls d σ H → E cls d H) (h : SimA K W t fs) (hk : SimA K W tk fk) : SimE K W (tCallN j l (spF K F) (fun us ws => permV ix (us ++ ws)) E t tk) (fCallN F j l ix fs fk) := fun P σ c G H Γ L s r e Q post => by
  unfold fCallN at e
  have h2 : Run ar2R K P W σ c G H L (fun Q => t σ H fun b H1 => tk σ H1 fun b2 H2 => Q (b, b2) H2) (FM.bind fs (fun vs => FM.bind fk fun xs => FM.pure (vs, xs)) Γ) :=
    Run.bind2 (R' := ar2R) (t2 := fun H1 Q => tk σ H1 Q) (gb := fun x xs => (x, xs)) (g := fun x xs => (x, xs)) s.iv (h P σ c G H Γ L s) (fun Γ1 c1 G1 H1 L1 s1 => hk P σ c1 G1 H1 Γ1 L1 s1) fun L c G v w b b2 h1 h2 => ⟨h1, h2⟩
  rcases FM.bind_some e with ⟨v, Γ1, e1, e2⟩ | ⟨cn, f, d, Γ1, e1, er⟩
  · refine h2 _ e1 (fun b H2 => b.1.length = j ∧ b.2.length = l ∧ spF K F (permV ix (b.1 ++ b.2)) H2 Q E) ?_
    intro b c1 G1 H1 L1 g1 s1 e1 r1
    have e2 : (if v.1.length = j ∧ v.2.length = l then callF F (permR ix (v.1 ++ v.2)) else fFail) Γ1 = some r := e2
    split at e2
    · rename_i hl
      exact ⟨by rw [r1.1.length]; exact hl.1, by rw [r1.2.length]; exact hl.2, call_core s.iv g1 s1 e1 (perm_vr (r1.1.append r1.2)) hE e2 post⟩
    · cases e2
  · subst er
    exact h2 _ e1 (fun b H2 => b.1.length = j ∧ b.2.length = l ∧ spF K F (permV ix (b.1 ++ b.2)) H2 Q E) post
end
end DF

set_option linter.all false
set_option maxRecDepth 100000
set_option maxHeartbeats 4000000
namespace DF
open PySem L2
variable [TbC]
section
variable {K : PySem.W.Frag} {G G' H H' H0 H1 G1 : Hp} {P : List Addr} {σ σ' : L2.St} {Γ Γ' Γ1 : EnvF} {L L' L1 : List (Addr × OD)} {c c' c1 : Ow} {W : WX}
variable {ta tb te : TE} {t tr tk : TA} {fa fb fc : FE} {fs fr fk : FA} {tt tu : TT} {ft fu : FT} {E : XK} {ts tw : TS} {fS fT : FS}
theorem tl_self : ∀ x ∈ L, TL L x.1 ∨ H x.1 = none := fun x hx => .inl (List.mem_map.mpr ⟨x, hx, rfl⟩)
theorem tl_sub (h : L'.Sublist L) : ∀ x ∈ L', TL L x.1 ∨ H x.1 = none := fun x hx => .inl (List.mem_map.mpr ⟨x, h.subset hx, rfl⟩)
theorem Sta.val (s : Sta K P c G H σ Γ L) (i : Nat) {v : V} {d : D} (a : At K G v d) : ∃ L', Sta K P c G H (σ.set i (some v)) (Γ.set i (.val d)) L' ∧ L'.Sublist L := by
  obtain ⟨L', h1, h2⟩ := s.r.setVal i a
  exact ⟨L', ⟨h1, s.nd.sublist (h2.map _), fun e he => s.ow e (h2.subset he), s.iv, s.pa⟩, h2⟩
/-! assignment -/
/-- a value comes into a slot -/
def putVr (i : Nat) (v : Vr) : FM Unit := fun Γ => match v with
  | .val d => some (.ok () (Γ.set i (.val d)))
  | .own o => some (.ok () (Γ.set i (.own 0 o)))
  | .slot _ => none
theorem Sta.put {u : V} {v : Vr} {i : Nat} (s : Sta K P c G H σ Γ L) (a : VrAt K σ L c G H0 u v) (hn : ∀ b, P.contains b = true → H0 b ≠ none) (e : putVr i v Γ = some (.ok () Γ')) : ∃ L', Sta K P c G H (σ.set i (some u)) Γ' L' ∧ ∀ x ∈ L', TL L x.1 ∨ H0 x.1 = none := by
  cases v with
  | val d =>
    cases e
    obtain ⟨L', h1, h2⟩ := s.val i a
    exact ⟨L', h1, tl_sub h2⟩
  | own o =>
    cases e
    obtain ⟨p, eu, h1, h2, h3⟩ := a
    subst eu
    have np : p ∉ P := fun z => hn p (by simpa using z) h3
    obtain ⟨L', q1, q2, q3⟩ := s.r.setOwn (o := o) np s.nd h2 i
    refine ⟨L', ⟨q1, q2, fun e he => ?_, s.iv, s.pa⟩, fun e he => ?_⟩
    · rcases q3 e he with z | z
      · rw [z]; exact h1
      · exact s.ow e z
    · rcases q3 e he with z | z
      · rw [z]; exact .inr h3
      · exact .inl (List.mem_map.mpr ⟨e, z, rfl⟩)
  | slot j => cases e
def fAsg (i : Nat) (f : FE) : FS := FM.bind f fun v => FM.bind (putVr i v) fun _ => fNx
theorem put_cases {i : Nat} {v : Vr} {r : Rt Fl} (e : FM.bind (putVr i v) (fun _ => fNx) Γ = some r) : ∃ Γ', putVr i v Γ = some (.ok () Γ') ∧ r = .ok .nx Γ' := by
  unfold FM.bind at e
  cases v with
  | val d => cases e; exact ⟨_, rfl, rfl⟩
  | own o => cases e; exact ⟨_, rfl, rfl⟩
  | slot j => cases e
theorem sim_asg {i : Nat} (h : SimE K W te fa) : SimS K W (tAsg te (gName i)) (fAsg i fa) := fun P σ c G H Γ L s r e Dn post => by
  rcases FM.bind_some e with ⟨v, Γ1, e1, e2⟩ | ⟨cn, f, d, Γ1, e1, er⟩
  · refine h P σ c G H Γ L s _ e1 _ ?_
    intro b c1 G1 H1 L1 g1 s1 e1' r1
    obtain ⟨Γ2, ep, er⟩ := put_cases e2
    subst er
    obtain ⟨L2, s2, n2⟩ := s1.put (H0 := H) r1 (fun b hb => s.pa b (by simpa using hb)) ep
    exact post.nx Γ2 rfl _ c1 G1 H1 L2 g1 s2 fun x hx => (n2 x hx).elim (fun z => .inl (by unfold TL at z ⊢; rwa [e1'] at z)) .inr
  · subst er
    exact h P σ c G H Γ L s _ e1 _ (post.ex cn f d Γ1 rfl)
def fDrop (f : FE) : FS := FM.bind f fun _ => fNx
theorem sim_drop (h : SimE K W te fa) : SimS K W (tDrop te) (fDrop fa) := fun P σ c G H Γ L s r e Dn post => by
  rcases FM.bind_some e with ⟨v, Γ1, e1, e2⟩ | ⟨cn, f, d, Γ1, e1, er⟩
  · refine h P σ c G H Γ L s _ e1 _ ?_
    intro b c1 G1 H1 L1 g1 s1 e1' r1
    cases e2
    exact post.nx Γ1 rfl σ c1 G1 H1 L1 g1 s1 (tl_of e1')
  · subst er
    exact h P σ c G H Γ L s _ e1 _ (post.ex cn f d Γ1 rfl)
/-! a thing of one's own is told from now on -/
def odD : OD → Option D
  | .lst ds => some (.lst ds)
  | .dct ds => some (.dct ds)
  | .ins c gs => some (.ins c gs)
theorem hasO_at {p : Addr} {o : OD} {d : D} (h : HasO K G H p o) (e : odD o = some d) : ∃ ho, H p = some ho ∧ ∀ G', Ext G G' → G' p = some ho → At K G' (.ref p) d := by
  cases o with
  | lst ds => cases e; obtain ⟨vs, h1, h2⟩ := h; exact ⟨_, h1, fun G' e k => .lst k (h2.mono e)⟩
  | dct ds => cases e; obtain ⟨vs, h1, h2⟩ := h; exact ⟨_, h1, fun G' e k => .dct k (h2.mono e)⟩
  | ins c gs => cases e; obtain ⟨C, dx, fs, ct, h1, h2⟩ := h; exact ⟨_, h1, fun G' e k => .ins ct k (h2.mono e)⟩
theorem told_core {i k : Nat} {o : OD} {d : D} (s : Sta K P c G H σ Γ L) (ei : Γ[i]? = some (.own k o)) (ed : odD o = some d) : ∃ p c' G' L', σ[i]? = some (some (.ref p)) ∧ Grow (TL L) c G H c' G' H ∧ Sta K P c' G' H σ (Γ.set i (.val d)) L' ∧ L'.Sublist L ∧ At K G' (.ref p) d := by
  obtain ⟨p, h1, h2, h3⟩ := s.r.getO ei
  have hc := s.ow _ h2
  obtain ⟨ho, hp, hat⟩ := hasO_at (s.iv.ow _ _ hc).2 ed
  obtain ⟨g, v⟩ := own_told (T := TL L) s.iv (List.mem_map.mpr ⟨_, h2, rfl⟩) hc hp
  have at' := hat _ g.g upd_same
  obtain ⟨L', q1, q2, q3⟩ := (s.r.mono g.g).see s.nd ei h1 at'
  refine ⟨p, _, _, L', h1, g, ⟨q1, s.nd.sublist (q2.map _), fun e he => ?_, v, s.pa⟩, q2, at'⟩
  have ne : e.1 ≠ p := fun z => q3 (by rw [← z]; exact List.mem_map.mpr ⟨e, he, rfl⟩)
  show c.del p e.1 = some e.2
  rw [Ow.del_ne ne]
  exact s.ow e (q2.subset he)
def frz (i : Nat) (Γ : EnvF) : Option EnvF := match Γ[i]? with
  | some (.own 0 o) => (odD o).map fun d => Γ.set i (.val d)
  | _ => none
def fFrz (i : Nat) (f : FS) : FS := fun Γ => match frz i Γ with
  | some Γ' => f Γ'
  | none => f Γ
theorem sim_frz {i : Nat} (h : SimS K W ts fS) : SimS K W ts (fFrz i fS) := fun P σ c G H Γ L s r e Dn post => by
  unfold fFrz at e
  cases ef : frz i Γ with
  | none => rw [ef] at e; exact h P σ c G H Γ L s r e Dn post
  | some Γ' =>
    rw [ef] at e
    unfold frz at ef
    cases ei : Γ[i]? with
    | none => rw [ei] at ef; cases ef
    | some x =>
      rw [ei] at ef
      cases x with
      | own k o =>
        cases k with
        | zero =>
          simp only [Option.map_eq_some_iff] at ef
          obtain ⟨d, ed, e2⟩ := ef
          subst e2
          obtain ⟨p, c', G', L', h1, g, s', n, _⟩ := told_core s ei ed
          exact h P σ c' G' H _ L' s' r e Dn (post.trans s.iv g (tl_sub n))
        | succ k => cases ef
      | no => cases ef
      | exc => cases ef
      | val d => cases ef
/-! the end of a def -/
def fRet (f : FE) : FS := FM.bind f fun v Γ => match v with
  | .slot i => match frz i Γ, Γ[i]? with
    | some Γ', some (.own 0 o) => (odD o).map fun d => .ok (.rt (.val d)) Γ'
    | _, _ => none
  | v => some (.ok (.rt v) Γ)
theorem sim_ret (h : SimE K W te fa) : SimS K W (tRet te) (fRet fa) := fun P σ c G H Γ L s r e Dn post => by
  rcases FM.bind_some e with ⟨v, Γ1, e1, e2⟩ | ⟨cn, f, d, Γ1, e1, er⟩
  · refine h P σ c G H Γ L s _ e1 _ ?_
    intro b c1 G1 H1 L1 g1 s1 e1' r1
    cases v with
    | val d => cases e2; exact post.rt _ Γ1 rfl b σ c1 G1 H1 L1 g1 s1 (tl_of e1') r1
    | own o => cases e2; exact post.rt _ Γ1 rfl b σ c1 G1 H1 L1 g1 s1 (tl_of e1') r1
    | slot i =>
      have e2 : (match frz i Γ1, Γ1[i]? with
        | some Γ', some (.own 0 o) => (odD o).map fun d => Rt.ok (Fl.rt (.val d)) Γ'
        | _, _ => none) = some r := e2
      unfold frz at e2
      cases ei : Γ1[i]? with
      | none => rw [ei] at e2; cases e2
      | some x =>
        rw [ei] at e2
        cases x with
        | own k o =>
          cases k with
          | zero =>
            cases ed : odD o with
            | none => simp [ed] at e2
            | some d =>
              simp [ed] at e2
              subst e2
              obtain ⟨p, c', G', L', h1, g, s', n, at'⟩ := told_core s1 ei ed
              have eb : b = .ref p := by
                have z : σ[i]? = some (some b) := r1
                rw [h1] at z; injection z with z; injection z with z; exact z.symm
              subst eb
              refine post.rt (.val d) _ rfl (.ref p) σ c' G' H1 L' (g1.trans' s.iv g (fun _ z => z) fun b z => .inl (by unfold TL at z ⊢; rwa [e1'] at z)) s' (fun x hx => ?_) at'
              exact tl_of e1' x (n.subset hx)
          | succ k => simp at e2
        | no => simp at e2
        | exc => simp at e2
        | val d => simp at e2
  · subst er
    exact h P σ c G H Γ L s _ e1 _ (post.ex cn f d Γ1 rfl)
/-- .. handing over what is one's own -/
def fRetO (f : FE) : FS := FM.bind f fun v Γ => match v with
  | .slot _ => none
  | v => some (.ok (.rt v) Γ)
def fRetN : FS := FM.pure (.rt (.val .non))
def fBrk : FS := FM.pure .bk
def fCont : FS := FM.pure .ct
theorem sim_brk : SimS K W tBreak fBrk := fun P σ c G H Γ L s r e Dn post => by
  cases e
  exact post.bk Γ rfl σ c G H L .refl s tl_self
def fIfS (a : FT) (b c : FS) : FS := FM.bind a fun k => if k = true then b else c
theorem sim_ifS (ha : SimT K W tt ft) (hb : SimS K W ts fS) (hc : SimS K W tw fT) : SimS K W (tIfS tt ts tw) (fIfS ft fS fT) := fun P σ c G H Γ L s => by
  refine RunS.bind (t2 := fun k H1 Dn => if k = true then ts Dn σ H1 else tw Dn σ H1) s.iv (ha P σ c G H Γ L s) fun k Γ1 b c1 G1 H1 L1 g1 s1 e1 r1 => ?_
  have e : b = k := r1
  subst e
  cases b with
  | true => exact hb P σ c1 G1 H1 Γ1 L1 s1
  | false => exact hc P σ c1 G1 H1 Γ1 L1 s1
def fNever : FS := fFail
theorem sim_never : SimS K W tNever fNever := fun P σ c G H Γ L s r e => by cases e
end
end DF

set_option linter.all false
set_option maxRecDepth 100000
set_option maxHeartbeats 4000000
namespace DF
open PySem PySem.Spec PyProof.Rows L2
variable [TbC]
/-! ### what is walked, by its value -/
def iAny (K : PySem.W.Frag) (tl : TE) : TI := fun σ H R => tl σ H fun x H1 => (∃ a, x = .ref a ∧ (∃ xs, SqL K H1 a xs) ∧ R (Itl K a) H1) ∨ (∃ a, x = .ref a ∧ (∃ xs, SqT K H1 a xs) ∧ R (Itt K a) H1) ∨ (∃ z, x = .str z ∧ R (Its z) H1)
theorem pi_any {X : Cx} {tg l : Expr} {tl : TE} (hl : PE X l tl) : PI X tg l (iAny X.K tl) := by
  refine ⟨fun pins s σ H R I h => ?_⟩
  refine thn (hl.run pins s σ H _ I h) fun v s1 ⟨x, H1, I1, r1, q1⟩ => ?_
  rcases q1 with ⟨a, e, ⟨xs, hq⟩, q⟩ | ⟨a, e, ⟨xs, hq⟩, q⟩ | ⟨z, ex, q⟩
  · subst e
    cases r1
    obtain ⟨its, rv, p, hz⟩ := I1.list hq
    refine wpAny_pyIter_list p.isList ?_
    refine ⟨s1.heap.objs.size, [s1.heap.objs.size], _, _, H1, rfl, I1.kept (t' := s1.toks) fun b o e => Heap.get?_push_of_some _ e, turn_list a _, ⟨_, Heap.get?_push_size _ rfl, rfl, rfl⟩, fun b hb => ?_, q⟩
    have e : b = s1.heap.objs.size := by simpa using hb
    subst e
    exact I1.fpOk (Nat.le_refl _) (I1.hok.fresh (Nat.le_refl _))
  · subst e
    cases r1
    obtain ⟨its, rv, p, hz⟩ := I1.tuple hq
    refine wpAny_pyIter_tuple (show s1.heap.IsTuple a its.toArray from p) ?_
    refine ⟨s1.heap.objs.size, [s1.heap.objs.size], _, _, H1, rfl, I1.kept (t' := s1.toks) fun b o e => Heap.get?_push_of_some _ e, turn_tuple a _, ⟨_, Heap.get?_push_size _ rfl, rfl, rfl⟩, fun b hb => ?_, q⟩
    have e : b = s1.heap.objs.size := by simpa using hb
    subst e
    exact I1.fpOk (Nat.le_refl _) (I1.hok.fresh (Nat.le_refl _))
  · subst ex
    obtain ⟨t, rfl⟩ := r1
    cases ha : z.cps.all (· < 128)
    · exact wpAny_pyIter_wide ha (pi_one (tk := s1.toks) I1 _ (turn_str _ z t "str_iterator" (.inr rfl)) ⟨_, Heap.get?_push_size _ rfl, rfl, rfl⟩ q)
    · exact wpAny_pyIter_ascii ha (pi_one (tk := s1.toks) I1 _ (turn_str _ z t "str_ascii_iterator" (.inl rfl)) ⟨_, Heap.get?_push_size _ rfl, rfl, rfl⟩ q)

section
variable {K : PySem.W.Frag} {G G' H H' H0 H1 G1 : Hp} {P : List Addr} {σ σ' : L2.St} {Γ Γ' Γ1 : EnvF} {L L' L1 : List (Addr × OD)} {c c' c1 : Ow} {W : WX}
variable {ta tb te : TE} {t tr tk : TA} {fa fb fc : FE} {fs fr fk : FA} {tt tu : TT} {ft fu : FT} {E : XK} {ts tw : TS} {fS fT : FS}
def IsW (K : PySem.W.Frag) (J : It) (ds : List D) (G1 : Hp) : Prop := ∃ (Gd : Hp → Prop) (Y : Nat → Hp → V → Hp → Prop), Walk J ds.length Gd Y ∧ (∀ H, Ext G1 H → Gd H) ∧
  ∀ i H x H' G, i < ds.length → Ext G1 G → Ext G H → Y i H x H' → ∃ G' d, PG G H G' H' ∧ ds[i]? = some d ∧ At K G' x d
theorem IsW.mono {J : It} {ds : List D} (h : IsW K J ds G) (e : Ext G G') : IsW K J ds G' := by
  obtain ⟨Gd, Y, w, h1, h2⟩ := h
  exact ⟨Gd, Y, w, fun H k => h1 H (e.trans k), fun i H x H' G2 hi k => h2 i H x H' G2 hi (e.trans k)⟩
def wkR : Rel (List D) It := ⟨fun K _ _ _ G _ J ds => IsW K J ds G, fun g _ h => h.mono g.g, fun _ h => h⟩
abbrev SimW := SimX (α := List D) (β := It) wkR
abbrev FW := FM (List D)
def chrD (c : Nat) : D := .str ⟨#[c]⟩
def itemsOf : D → Option (List D)
  | .lst ds => some ds
  | .tup ds => some ds
  | .str z => some (z.cps.toList.map chrD)
  | .scr ns => some (ns.map .int)
  | _ => none
theorem ext_lst {G H : Hp} (z : Ext G H) {p : Addr} {vs : List V} (h : G p = some (.lst vs)) : SqL K H p vs := .inl (.inl (z _ _ h))
theorem atl_ints : ∀ ns : List Int, AtL K G (ns.map V.int) (ns.map D.int)
  | [] => .nil
  | n :: ns => .cons (.int n) (atl_ints ns)
theorem sq_w {p : Addr} {vs : List V} {ds : List D} (hs : ∀ H, Ext G H → SqL K H p vs) (l : AtL K G vs ds) : IsW K (Itl K p) ds G := by
  refine ⟨_, _, (by rw [← l.length]; exact walk_list (xs := vs)), hs, fun i H' x H2 G' hi e1 e2 y => ?_⟩
  obtain ⟨ey, hx⟩ := y
  subst ey
  obtain ⟨dx, k1, k2⟩ := l.get' hx
  exact ⟨G', dx, PG.refl e2, k1, k2.mono e1⟩
/-- a value is walked -/
def wAny (f : FE) : FW := FM.bind (fV f) fun d => fOf (itemsOf d)
theorem sim_wAny (h : SimE K W ta fa) : SimW K W (iAny K ta) (wAny fa) := fun P σ c G H Γ L s => by
  unfold wAny
  refine Run.bind (t2 := fun x H1 R => (∃ a, x = V.ref a ∧ (∃ xs, SqL K H1 a xs) ∧ R (Itl K a) H1) ∨ (∃ a, x = .ref a ∧ (∃ xs, SqT K H1 a xs) ∧ R (Itt K a) H1) ∨ (∃ z, x = .str z ∧ R (Its z) H1)) s.iv (sim_val h P σ c G H Γ L s) fun d Γ1 u c1 G1 H1 L1 g1 s1 e1 r1 => ?_
  intro r e Q post
  have r1 : At K G1 u d := r1
  cases r1 with
  | @lst p vs ds hs l =>
    cases e
    exact .inl ⟨p, rfl, ⟨vs, ext_lst s1.iv.i hs⟩, post _ c1 G1 H1 L1 .refl s1 rfl (sq_w (fun H e => ext_lst e hs) l)⟩
  | @scr p ns hs =>
    cases e
    exact .inl ⟨p, rfl, ⟨_, (hs.ext s1.iv.i).seq⟩, post _ c1 G1 H1 L1 .refl s1 rfl (sq_w (fun H e => (hs.ext e).seq) (atl_ints ns))⟩
  | @tup p vs ds hs l =>
    cases e
    refine .inr (.inl ⟨p, rfl, ⟨vs, sqT_ext hs s1.iv.i⟩, post _ c1 G1 H1 L1 .refl s1 rfl ?_⟩)
    refine ⟨_, _, (by rw [← l.length]; exact walk_tup (xs := vs)), fun H e => sqT_ext hs e, fun i H' x H2 G' hi e1 e2 y => ?_⟩
    obtain ⟨ey, hx⟩ := y
    subst ey
    obtain ⟨dx, k1, k2⟩ := l.get' hx
    exact ⟨G', dx, PG.refl e2, k1, k2.mono e1⟩
  | str z =>
    cases e
    refine .inr (.inr ⟨z, rfl, post _ c1 G1 H1 L1 .refl s1 rfl ?_⟩)
    refine ⟨_, _, (by rw [List.length_map, Array.length_toList]; exact walk_str (z := z)), fun H' e => trivial, fun i H' x H2 G' hi e1 e2 y => ?_⟩
    obtain ⟨ey, c, hc, ex⟩ := y
    subst ey ex
    exact ⟨G', chrD c, PG.refl e2, by rw [List.getElem?_map, Array.getElem?_toList, hc]; rfl, .str _⟩
  | non => cases e
  | bl b => cases e
  | int b => cases e
  | ty b => cases e
  | cls b => cases e
  | ins b c d => cases e
  | dct b c => cases e
def rangeD (lo hi : Int) : List D := (List.range (hi - lo).toNat).map fun i => .int (lo + (i : Nat))
theorem range_w {lo hi : Int} : IsW K (Itr lo (hi - lo).toNat) (rangeD lo hi) G := by
  unfold rangeD
  refine ⟨_, _, (by rw [List.length_map, List.length_range]; exact walk_range), fun H e => trivial, fun i H' x H2 G' hi e1 e2 y => ?_⟩
  obtain ⟨ey, hx⟩ := y
  subst ey hx
  rw [List.length_map, List.length_range] at hi
  exact ⟨G', _, PG.refl e2, by rw [List.getElem?_map, List.getElem?_range hi]; rfl, .int _⟩
def wRng1 (f : FA) : FW := FM.bind (fVs f) fun | [.int j] => if -(2 ^ 62) ≤ j ∧ j < 2 ^ 62 then FM.pure (rangeD 0 j) else fFail | _ => fFail
def wRng2 (f : FA) : FW := FM.bind (fVs f) fun | [.int i, .int j] => if -(2 ^ 62) ≤ i ∧ i < 2 ^ 62 ∧ -(2 ^ 62) ≤ j ∧ j < 2 ^ 62 then FM.pure (rangeD i j) else fFail | _ => fFail
theorem atl1 {us : List V} {x : D} (h : AtL K G us [x]) : ∃ u, us = [u] ∧ At K G u x := by
  cases h with | cons a l => cases l; exact ⟨_, rfl, a⟩
theorem atl2 {us : List V} {x y : D} (h : AtL K G us [x, y]) : ∃ u v, us = [u, v] ∧ At K G u x ∧ At K G v y := by
  cases h with | cons a l => obtain ⟨v, e, b⟩ := atl1 l; subst e; exact ⟨_, v, rfl, a, b⟩
theorem atl3 {us : List V} {x y z : D} (h : AtL K G us [x, y, z]) : ∃ u v w, us = [u, v, w] ∧ At K G u x ∧ At K G v y ∧ At K G w z := by
  cases h with | cons a l => obtain ⟨v, w, e, b, c⟩ := atl2 l; subst e; exact ⟨_, v, w, rfl, a, b, c⟩
theorem sim_rng1 (h : SimA K W t fs) : SimW K W (iRng1 t) (wRng1 fs) := fun P σ c G H Γ L s => by
  unfold wRng1
  refine Run.bind (t2 := fun vs H1 R => ∃ j : Int, vs = [V.int j] ∧ -(2 ^ 62) ≤ j ∧ j < 2 ^ 62 ∧ R (Itr 0 j.toNat) H1) s.iv (sim_vals h P σ c G H Γ L s) fun ds Γ1 us c1 G1 H1 L1 g1 s1 e1 r1 => ?_
  intro r e Q post
  split at e
  · rename_i j
    split at e
    · rename_i hj
      cases e
      obtain ⟨u, e2, h1⟩ := atl1 r1
      subst e2; cases h1
      refine ⟨j, rfl, hj.1, hj.2, post _ c1 G1 H1 L1 .refl s1 rfl ?_⟩
      have := range_w (K := K) (G := G1) (lo := 0) (hi := j)
      rwa [Int.sub_zero] at this
    · cases e
  · cases e
theorem sim_rng2 (h : SimA K W t fs) : SimW K W (iRng2 t) (wRng2 fs) := fun P σ c G H Γ L s => by
  unfold wRng2
  refine Run.bind (t2 := fun vs H1 R => ∃ i j : Int, vs = [V.int i, V.int j] ∧ (-(2 ^ 62) ≤ i ∧ i < 2 ^ 62 ∧ -(2 ^ 62) ≤ j ∧ j < 2 ^ 62) ∧ R (Itr i (j - i).toNat) H1) s.iv (sim_vals h P σ c G H Γ L s) fun ds Γ1 us c1 G1 H1 L1 g1 s1 e1 r1 => ?_
  intro r e Q post
  split at e
  · rename_i i j
    split at e
    · rename_i hj
      cases e
      obtain ⟨u, v, e2, h1, h2⟩ := atl2 r1
      subst e2; cases h1; cases h2
      exact ⟨i, j, rfl, hj, post _ c1 G1 H1 L1 .refl s1 rfl range_w⟩
    · cases e
  · cases e
/-! targets -/
def SmS (vs : List Nat) (σ σ' : L2.St) : Prop := σ'.length = σ.length ∧ ∀ k, k ∉ vs → σ'[k]? = σ[k]?
theorem SmS.refl {vs : List Nat} {σ : L2.St} : SmS vs σ σ := ⟨rfl, fun _ _ => rfl⟩
theorem SmS.trans {vs ws : List Nat} {σ σ' σ'' : L2.St} (a : SmS vs σ σ') (b : SmS ws σ' σ'') : SmS (vs ++ ws) σ σ'' := ⟨b.1.trans a.1, fun k hk => (b.2 k fun z => hk (List.mem_append_right _ z)).trans (a.2 k fun z => hk (List.mem_append_left _ z))⟩
def SimG (K : PySem.W.Frag) (W : WX) (vs : List Nat) (g : TG) (f : D → FM Unit) : Prop := ∀ P σ c G H Γ L, Sta K P c G H σ Γ L → ∀ u d, At K G u d → ∀ r, f d Γ = some r → ∀ Q : L2.St → Hp → Prop,
  (∀ Γ', r = .ok () Γ' → ∀ σ' c' G' H' L', SmS vs σ σ' → Grow (TL L) c G H c' G' H' → Sta K P c' G' H' σ' Γ' L' → (∀ x ∈ L', TL L x.1 ∨ H x.1 = none) → Q σ' H') →
  (∀ cn f d Γ', r = .ex cn f d Γ' → PostX K P W c G H L cn f d Γ') → g u σ H Q
def SimGs (K : PySem.W.Frag) (W : WX) (vs : List Nat) (g : TGs) (f : List D → FM Unit) : Prop := ∀ P σ c G H Γ L, Sta K P c G H σ Γ L → ∀ us ds, AtL K G us ds → ∀ r, f ds Γ = some r → ∀ Q : L2.St → Hp → Prop,
  (∀ Γ', r = .ok () Γ' → ∀ σ' c' G' H' L', SmS vs σ σ' → Grow (TL L) c G H c' G' H' → Sta K P c' G' H' σ' Γ' L' → (∀ x ∈ L', TL L x.1 ∨ H x.1 = none) → Q σ' H') →
  (∀ cn f d Γ', r = .ex cn f d Γ' → PostX K P W c G H L cn f d Γ') → g us σ H Q
def pName (i : Nat) : D → FM Unit := fun d Γ => some (.ok () (Γ.set i (.val d)))
theorem sim_gname {i : Nat} : SimG K W [i] (gName i) (pName i) := fun P σ c G H Γ L s u d a r e Q q _ => by
  cases e
  obtain ⟨L', h1, h2⟩ := s.val i a
  exact q _ rfl _ c G H L' ⟨List.length_set, fun k hk => List.getElem?_set_ne fun z => hk (by rw [z]; exact List.mem_singleton_self _)⟩ .refl h1 (tl_sub h2)
def pNil : List D → FM Unit
  | [] => FM.pure ()
  | _ => fFail
def pCons (f : D → FM Unit) (g : List D → FM Unit) : List D → FM Unit
  | d :: ds => FM.bind (f d) fun _ => g ds
  | [] => fFail
theorem fresh_trans (g : Grow (TL L) c G H c1 G1 H1) (n1 : ∀ x ∈ L1, TL L x.1 ∨ H x.1 = none) (n2 : ∀ x ∈ L', TL L1 x.1 ∨ H1 x.1 = none) : ∀ x ∈ L', TL L x.1 ∨ H x.1 = none := fun x hx => by
  rcases n2 x hx with z | z
  · obtain ⟨y, hy, ey⟩ := List.mem_map.mp z
    have := n1 y hy
    rwa [ey] at this
  · exact .inr (back_of g z)
theorem tl_fresh (n1 : ∀ x ∈ L1, TL L x.1 ∨ H x.1 = none) : ∀ b, TL L1 b → TL L b ∨ H b = none := fun b hb => by
  obtain ⟨y, hy, ey⟩ := List.mem_map.mp hb
  exact ey ▸ n1 y hy
theorem sim_gnil : SimGs K W [] gNil pNil := fun P σ c G H Γ L s us ds a r e Q q _ => by
  cases a with
  | nil => cases e; exact ⟨rfl, q _ rfl σ c G H L .refl .refl s tl_self⟩
  | cons _ _ => cases e
theorem sim_gcons {vs ws : List Nat} {g : TG} {gr : TGs} {f : D → FM Unit} {h : List D → FM Unit} (hg : SimG K W vs g f) (hr : SimGs K W ws gr h) : SimGs K W (vs ++ ws) (gCons g gr) (pCons f h) := fun P σ c G H Γ L s us ds a r e Q q qx => by
  cases a with
  | nil => cases e
  | cons a l =>
    rcases FM.bind_some e with ⟨v, Γ1, e1, e2⟩ | ⟨cn, f, d, Γ1, e1, er⟩
    · refine ⟨_, _, rfl, hg P σ c G H Γ L s _ _ a _ e1 _ (fun Γ' er σ' c1 G1 H1 L1 m1 g1 s1 n1 => ?_) fun _ _ _ _ er => (by cases er)⟩
      cases er
      exact hr P σ' c1 G1 H1 _ L1 s1 _ _ (AtL.mono g1.g l) r e2 Q (fun Γ' er σ'' c2 G2 H2 L2' m2 g2 s2 n2 => q Γ' er σ'' c2 G2 H2 L2' (m1.trans m2) (g1.trans' s.iv g2 (fun _ z => z) (tl_fresh n1)) s2 (fresh_trans g1 n1 n2))
        fun cn f d Γ' er => PostX.trans s.iv g1 n1 (qx cn f d Γ' er)
    · subst er
      exact ⟨_, _, rfl, hg P σ c G H Γ L s _ _ a _ e1 _ (fun _ er => (by cases er)) qx⟩
def pTup (k : Nat) (f : List D → FM Unit) : D → FM Unit
  | .tup ds => if ds.length = k then f ds else fFail
  | _ => fFail
theorem sim_gtup {vs : List Nat} {k : Nat} {g : TGs} {f : List D → FM Unit} (hg : SimGs K W vs g f) : SimG K W vs (gTup K k g) (pTup k f) := fun P σ c G H Γ L s u d a r e Q q qx => by
  cases a with
  | @tup p vs ds hs l =>
    have e : (if ds.length = k then f ds else fFail) Γ = some r := e
    split at e
    · rename_i hk
      exact ⟨p, vs, rfl, sqT_ext hs s.iv.i, by rw [l.length]; exact hk, hg P σ c G H Γ L s vs ds l r e Q q qx⟩
    · cases e
  | _ => cases e
def pUnl (k : Nat) (f : List D → FM Unit) : D → FM Unit
  | .lst ds => if ds.length = k then f ds else fFail
  | _ => fFail
def fAsgG (f : FE) (g : D → FM Unit) : FS := FM.bind (fV f) fun d => FM.bind (g d) fun _ => fNx
theorem unit_cases {x : FM Unit} {r : Rt Fl} (e : FM.bind x (fun _ => fNx) Γ = some r) : (∃ Γ', x Γ = some (.ok () Γ') ∧ r = .ok .nx Γ') ∨ ∃ c f d Γ', x Γ = some (.ex c f d Γ') ∧ r = .ex c f d Γ' := by
  rcases FM.bind_some e with ⟨v, Γ1, e1, e2⟩ | h
  · cases e2; exact .inl ⟨Γ1, e1, rfl⟩
  · exact .inr h
theorem sim_asgG {vs : List Nat} {g : TG} {f : D → FM Unit} (h : SimE K W te fa) (hg : SimG K W vs g f) : SimS K W (tAsg te g) (fAsgG fa f) := fun P σ c G H Γ L s r e Dn post => by
  rcases FM.bind_some e with ⟨d, Γ1, e1, e2⟩ | ⟨cn, f, d, Γ1, e1, er⟩
  · refine sim_val h P σ c G H Γ L s _ e1 _ ?_
    intro b c1 G1 H1 L1 g1 s1 e1' r1
    have post1 := post.trans s.iv g1 (tl_of e1')
    rcases unit_cases e2 with ⟨Γ2, eu, er⟩ | ⟨cn, f, d2, Γ2, eu, er⟩
    · subst er
      exact hg P σ c1 G1 H1 Γ1 L1 s1 b d r1 _ eu _ (fun Γ' er σ' c2 G2 H2 L2' m2 g2 s2 n2 => by cases er; exact post1.nx _ rfl σ' c2 G2 H2 L2' g2 s2 n2) fun _ _ _ _ er => (by cases er)
    · subst er
      exact hg P σ c1 G1 H1 Γ1 L1 s1 b d r1 _ eu _ (fun _ er => (by cases er)) fun cn' f' d' Γ' er => by cases er; exact post1.ex _ _ _ _ rfl
  · subst er
    exact sim_val h P σ c G H Γ L s _ e1 _ (post.ex cn f d Γ1 rfl)
/-- x, y = a, b -/
def fPar (i j : Nat) (f : FA) : FS := FM.bind (fVs f) fun ds Γ => match ds with
  | [x, y] => some (.ok .nx ((Γ.set i (.val x)).set j (.val y)))
  | _ => none
theorem sim_par {i j : Nat} (h : SimA K W t fs) : SimS K W (tPar i j t) (fPar i j fs) := fun P σ c G H Γ L s r e Dn post => by
  rcases FM.bind_some e with ⟨ds, Γ1, e1, e2⟩ | ⟨cn, f, d, Γ1, e1, er⟩
  · refine sim_vals h P σ c G H Γ L s _ e1 _ ?_
    intro b c1 G1 H1 L1 g1 s1 e1' r1
    split at e2
    · cases e2
      obtain ⟨u, v, eb, h1, h2⟩ := atl2 r1
      subst eb
      obtain ⟨La, sa, na⟩ := s1.val i h1
      obtain ⟨Lb, sb, nb⟩ := sa.val j h2
      exact ⟨u, v, rfl, post.nx _ rfl _ c1 G1 H1 Lb g1 sb fun x hx => tl_of e1' x (na.subset (nb.subset hx))⟩
    · cases e2
  · subst er
    exact sim_vals h P σ c G H Γ L s _ e1 _ (post.ex cn f d Γ1 rfl)
def fPar3 (i j l : Nat) (f : FA) : FS := FM.bind (fVs f) fun ds Γ => match ds with
  | [x, y, z] => some (.ok .nx (((Γ.set i (.val x)).set j (.val y)).set l (.val z)))
  | _ => none
theorem sim_par3 {i j l : Nat} (h : SimA K W t fs) : SimS K W (tPar3 i j l t) (fPar3 i j l fs) := fun P σ c G H Γ L s r e Dn post => by
  rcases FM.bind_some e with ⟨ds, Γ1, e1, e2⟩ | ⟨cn, f, d, Γ1, e1, er⟩
  · refine sim_vals h P σ c G H Γ L s _ e1 _ ?_
    intro b c1 G1 H1 L1 g1 s1 e1' r1
    split at e2
    · cases e2
      obtain ⟨u, v, w, eb, h1, h2, h3⟩ := atl3 r1
      subst eb
      obtain ⟨La, sa, na⟩ := s1.val i h1
      obtain ⟨Lb, sb, nb⟩ := sa.val j h2
      obtain ⟨Lc, sc, nc⟩ := sb.val l h3
      exact ⟨u, v, w, rfl, post.nx _ rfl _ c1 G1 H1 Lc g1 sc fun x hx => tl_of e1' x (na.subset (nb.subset (nc.subset hx)))⟩
    · cases e2
  · subst er
    exact sim_vals h P σ c G H Γ L s _ e1 _ (post.ex cn f d Γ1 rfl)
/-! for -/
def forL (g : D → FM Unit) (b : FS) : List D → FS
  | [] => fNx
  | d :: ds => FM.bind (g d) fun _ => FM.bind b fun
    | .nx => forL g b ds
    | .ct => forL g b ds
    | .bk => fNx
    | .rt v => FM.pure (.rt v)
def fFor (w : FW) (g : D → FM Unit) (b : FS) : FS := FM.bind w fun ds => forL g b ds
theorem sim_for {vs : List Nat} {wi : TI} {g : TG} {fw : FW} {f : D → FM Unit} (hw : SimW K W wi fw) (hg : SimG K W vs g f) (hb : SimS K W ts fS) : SimS K W (tFor wi g ts) (fFor fw f fS) := fun P σ c G H Γ L s r e Dn post => by
  rcases FM.bind_some e with ⟨ds, Γ1, e1, e2⟩ | ⟨cn, fld, d, Γ1, e1, er⟩
  · refine hw P σ c G H Γ L s _ e1 _ ?_
    intro J c1 G1 H1 L1 g1 s1 e1' r1
    obtain ⟨Gd, Y, w, hG, hY⟩ := r1
    have post1 := post.trans s.iv g1 (tl_of e1')
    refine for_it w (fun i σ' H' => ∃ Γ' c' G' L', Grow (TL L1) c1 G1 H1 c' G' H' ∧ Sta K P c' G' H' σ' Γ' L' ∧ (∀ x ∈ L', TL L1 x.1 ∨ H1 x.1 = none) ∧ forL f fS (ds.drop i) Γ' = some r) ⟨Γ1, c1, G1, L1, .refl, s1, tl_self, by simpa using e2⟩ (fun i σ' H' _ ⟨_, _, G', _, g', s', _, _⟩ => hG _ (g'.g.trans s'.iv.i)) ?_ ?_
    · rintro i x σ' H' H2 hi ⟨Γ', c', G', L', g', s', n', ef⟩ y
      obtain ⟨G2, d, pg, ed, td⟩ := hY i H' x H2 G' hi g'.g s'.iv.i y
      have s2 := s'.pg pg
      have g2 : Grow (TL L1) c1 G1 H1 c' G2 H2 := g'.trans s1.iv (pg.grow s'.iv)
      have edr : ds.drop i = d :: ds.drop (i + 1) := by
        obtain ⟨h1, h2⟩ := List.getElem?_eq_some_iff.mp ed
        rw [← h2]; exact List.drop_eq_getElem_cons h1
      rw [edr] at ef
      rcases FM.bind_some ef with ⟨_, Γ3, e3, e4⟩ | ⟨cn, fld, d3, Γ3, e3, er⟩
      · refine hg P σ' c' G2 H2 Γ' L' s2 x d td _ e3 _ (fun Γ4 er σ3 c3 G3 H3 L3 m3 g3 s3 n3 => ?_) fun _ _ _ _ er => (by cases er)
        cases er
        have g3' := g2.trans' s1.iv g3 (fun _ z => z) (tl_fresh n')
        have n3' := fresh_trans g2 n' n3
        rcases FM.bind_some e4 with ⟨fl, Γ4, e5, e6⟩ | ⟨cn, fld, d4, Γ4, e5, er⟩
        · refine hb P σ3 c3 G3 H3 Γ3 L3 s3 _ e5 _ ?_
          have next : ∀ Γ5, Rt.ok fl Γ4 = .ok .nx Γ5 ∨ Rt.ok fl Γ4 = .ok .ct Γ5 → ∀ σ4 c4 G4 H4 L4, Grow (TL L3) c3 G3 H3 c4 G4 H4 → Sta K P c4 G4 H4 σ4 Γ5 L4 → (∀ x ∈ L4, TL L3 x.1 ∨ H3 x.1 = none) →
              ∃ Γ' c' G' L', Grow (TL L1) c1 G1 H1 c' G' H4 ∧ Sta K P c' G' H4 σ4 Γ' L' ∧ (∀ x ∈ L', TL L1 x.1 ∨ H1 x.1 = none) ∧ forL f fS (ds.drop (i + 1)) Γ' = some r := by
            intro Γ5 er σ4 c4 G4 H4 L4 g4 s4 n4
            refine ⟨Γ5, c4, G4, L4, g3'.trans' s1.iv g4 (fun _ z => z) (tl_fresh n3'), s4, fresh_trans g3' n3' n4, ?_⟩
            rcases er with er | er <;> cases er <;> exact e6
          refine ⟨fun Γ5 er => next Γ5 (.inl er), fun Γ5 er σ4 c4 G4 H4 L4 g4 s4 n4 => ?_, fun Γ5 er => next Γ5 (.inr er), fun v Γ5 er u σ4 c4 G4 H4 L4 g4 s4 n4 t4 => ?_, fun _ _ _ _ er => (by cases er)⟩
          · cases er; cases e6
            exact post1.nx _ rfl σ4 c4 G4 H4 L4 (g3'.trans' s1.iv g4 (fun _ z => z) (tl_fresh n3')) s4 (fresh_trans g3' n3' n4)
          · cases er; cases e6
            exact post1.rt _ _ rfl u σ4 c4 G4 H4 L4 (g3'.trans' s1.iv g4 (fun _ z => z) (tl_fresh n3')) s4 (fresh_trans g3' n3' n4) (t4.back g3'.n)
        · subst er
          refine hb P σ3 c3 G3 H3 Γ3 L3 s3 _ e5 _ ⟨fun _ er => (by cases er), fun _ er => (by cases er), fun _ er => (by cases er), fun _ _ er => (by cases er), fun cn' f' d' Γ' er => ?_⟩
          cases er
          exact PostX.trans s1.iv g3' n3' (post1.ex _ _ _ _ rfl)
      · subst er
        exact hg P σ' c' G2 H2 Γ' L' s2 x d td _ e3 _ (fun _ er => (by cases er)) fun cn' f' d' Γ4 er => by
          cases er
          exact PostX.trans s1.iv g2 n' (post1.ex _ _ _ _ rfl)
    · rintro σ' H' ⟨Γ', c', G', L', g', s', n', ef⟩
      rw [List.drop_length] at ef
      cases ef
      exact post1.nx Γ' rfl σ' c' G' H' L' g' s' n'
  · subst er
    exact hw P σ c G H Γ L s _ e1 _ (post.ex cn fld d Γ1 rfl)
/-! while -/
def whileN (a : FT) (b : FS) : Nat → FS
  | 0 => fFail
  | n + 1 => FM.bind a fun k => if k = true then FM.bind b fun
    | .nx => whileN a b n
    | .ct => whileN a b n
    | .bk => fNx
    | .rt v => FM.pure (.rt v) else fNx
def fWhile (n : Nat) (a : FT) (b : FS) : FS := whileN a b n
theorem sim_while {n : Nat} (ha : SimT K W tt ft) (hb : SimS K W ts fS) : SimS K W (tWhile tt ts) (fWhile n ft fS) := fun P σ c G H Γ L s r e Dn post => by
  refine ⟨fun m σ' H' => ∃ Γ' c' G' L', Grow (TL L) c G H c' G' H' ∧ Sta K P c' G' H' σ' Γ' L' ∧ (∀ x ∈ L', TL L x.1 ∨ H x.1 = none) ∧ whileN ft fS m Γ' = some r, ⟨n, Γ, c, G, L, .refl, s, tl_self, e⟩, ?_⟩
  rintro m σ' H' ⟨Γ', c', G', L', g', s', n', em⟩
  cases m with
  | zero => cases em
  | succ m =>
    rcases FM.bind_some em with ⟨k, Γ1, e1, e2⟩ | ⟨cn, fld, d, Γ1, e1, er⟩
    · refine ha P σ' c' G' H' Γ' L' s' _ e1 _ ?_
      intro b c1 G1 H1 L1 g1 s1 e1' r1
      have eb : b = k := r1
      subst eb
      have g1' := g'.trans' s.iv g1 (fun _ z => z) (tl_fresh n')
      have n1' : ∀ x ∈ L1, TL L x.1 ∨ H x.1 = none := fresh_trans g' n' (tl_of e1')
      cases b with
      | false =>
        cases e2
        exact post.nx _ rfl σ' c1 G1 H1 L1 g1' s1 n1'
      | true =>
        refine ⟨fun σ2 H2 => ∃ Γ' c' G' L', Grow (TL L) c G H c' G' H2 ∧ Sta K P c' G' H2 σ2 Γ' L' ∧ (∀ x ∈ L', TL L x.1 ∨ H x.1 = none) ∧ whileN ft fS m Γ' = some r, fun σ2 H2 h => ⟨m, Nat.lt_succ_self m, h⟩, ?_⟩
        rcases FM.bind_some e2 with ⟨fl, Γ4, e5, e6⟩ | ⟨cn, fld, d4, Γ4, e5, er⟩
        · refine hb P σ' c1 G1 H1 Γ1 L1 s1 _ e5 _ ?_
          have next : ∀ Γ5, Rt.ok fl Γ4 = .ok .nx Γ5 ∨ Rt.ok fl Γ4 = .ok .ct Γ5 → ∀ σ4 c4 G4 H4 L4, Grow (TL L1) c1 G1 H1 c4 G4 H4 → Sta K P c4 G4 H4 σ4 Γ5 L4 → (∀ x ∈ L4, TL L1 x.1 ∨ H1 x.1 = none) →
              ∃ Γ' c' G' L', Grow (TL L) c G H c' G' H4 ∧ Sta K P c' G' H4 σ4 Γ' L' ∧ (∀ x ∈ L', TL L x.1 ∨ H x.1 = none) ∧ whileN ft fS m Γ' = some r := by
            intro Γ5 er σ4 c4 G4 H4 L4 g4 s4 n4
            refine ⟨Γ5, c4, G4, L4, g1'.trans' s.iv g4 (fun _ z => z) (tl_fresh n1'), s4, fresh_trans g1' n1' n4, ?_⟩
            rcases er with er | er <;> cases er <;> exact e6
          refine ⟨fun Γ5 er => next Γ5 (.inl er), fun Γ5 er σ4 c4 G4 H4 L4 g4 s4 n4 => ?_, fun Γ5 er => next Γ5 (.inr er), fun v Γ5 er u σ4 c4 G4 H4 L4 g4 s4 n4 t4 => ?_, fun _ _ _ _ er => (by cases er)⟩
          · cases er; cases e6
            exact post.nx _ rfl σ4 c4 G4 H4 L4 (g1'.trans' s.iv g4 (fun _ z => z) (tl_fresh n1')) s4 (fresh_trans g1' n1' n4)
          · cases er; cases e6
            exact post.rt _ _ rfl u σ4 c4 G4 H4 L4 (g1'.trans' s.iv g4 (fun _ z => z) (tl_fresh n1')) s4 (fresh_trans g1' n1' n4) (t4.back g1'.n)
        · subst er
          refine hb P σ' c1 G1 H1 Γ1 L1 s1 _ e5 _ ⟨fun _ er => (by cases er), fun _ er => (by cases er), fun _ er => (by cases er), fun _ _ er => (by cases er), fun cn' f' d' Γ' er => ?_⟩
          cases er
          exact PostX.trans s.iv g1' n1' (post.ex _ _ _ _ rfl)
    · subst er
      exact ha P σ' c' G' H' Γ' L' s' _ e1 _ (PostX.trans s.iv g' n' (post.ex cn fld d Γ1 rfl))
end
end DF

set_option linter.all false
set_option maxRecDepth 100000
set_option maxHeartbeats 4000000
namespace DF
open PySem PySem.Spec PyProof.Rows L2
variable [TbC]
section
variable {K : PySem.W.Frag} {G G' H H' H0 H1 G1 : Hp} {P : List Addr} {σ σ' : L2.St} {Γ Γ' Γ1 : EnvF} {L L' L1 : List (Addr × OD)} {c c' c1 : Ow} {W : WX}
variable {ta tb te : TE} {t tr tk : TA} {fa fb fc : FE} {fs fr fk : FA} {tt tu : TT} {ft fu : FT} {E : XK} {ts tw : TS} {fS fT : FS}
/-! ### comprehensions -/
def wipeF (Γ : EnvF) : List Nat → EnvF
  | [] => Γ
  | v :: vs => (wipeF Γ vs).set v .no
def backF (Γ0 Γ3 : EnvF) : List Nat → EnvF
  | [] => Γ3
  | v :: vs => (backF Γ0 Γ3 vs).set v (Γ0.getD v .no)
def backS (σ σ2 : L2.St) : List Nat → L2.St
  | [] => σ2
  | v :: vs => (backS σ σ2 vs).set v (σ.getD v none)
def isOwn : Sl → Bool
  | .own _ _ => true
  | _ => false
theorem backS_length (σ σ2 : L2.St) : ∀ vs, (backS σ σ2 vs).length = σ2.length
  | [] => rfl
  | v :: vs => by rw [backS, List.length_set, backS_length σ σ2 vs]
theorem backS_get (σ σ2 : L2.St) : ∀ (vs : List Nat) (k : Nat), (backS σ σ2 vs)[k]? = if k ∈ vs ∧ k < σ2.length then some (σ.getD k none) else σ2[k]?
  | [], k => by simp [backS]
  | v :: vs, k => by
    rw [backS, List.getElem?_set, backS_get σ σ2 vs k, backS_length]
    by_cases h : v = k
    · subst h
      by_cases hl : v < σ2.length
      · simp [hl]
      · have : σ2[v]? = none := by simp; omega
        simp [hl, this]
    · have h' : ¬ k = v := fun z => h z.symm
      simp [h, h']
theorem wipe_get (σ : L2.St) : ∀ (vs : List Nat) (k : Nat), (wipe σ vs)[k]? = if k ∈ vs ∧ k < σ.length then some none else σ[k]?
  | [], k => by simp [wipe]
  | v :: vs, k => by
    rw [wipe, List.getElem?_set, wipe_get σ vs k, wipe_length]
    by_cases h : v = k
    · subst h
      by_cases hl : v < σ.length
      · simp [hl]
      · have : σ[v]? = none := by simp; omega
        simp [hl, this]
    · have h' : ¬ k = v := fun z => h z.symm
      simp [h, h']
theorem same_wipe {vs : List Nat} (h : SmS vs (wipe σ vs) σ') : wipe σ' vs = wipe σ vs := by
  apply List.ext_getElem?
  intro k
  have hl : σ'.length = σ.length := by rw [h.1, wipe_length]
  by_cases hk : k ∈ vs
  · rw [wipe_get, wipe_get, hl]
    by_cases hk2 : k < σ.length
    · rw [if_pos ⟨hk, hk2⟩, if_pos ⟨hk, hk2⟩]
    · have e1 : σ'[k]? = none := by simp; omega
      have e2 : σ[k]? = none := by simp; omega
      rw [if_neg (fun z => hk2 z.2), if_neg (fun z => hk2 z.2), e1, e2]
  · rw [wipe_get, if_neg (fun z => hk z.1), h.2 k hk]
theorem same_back {vs : List Nat} (h : SmS vs (wipe σ vs) σ') : backS σ σ' vs = σ := by
  apply List.ext_getElem?
  intro k
  have hl : σ'.length = σ.length := by rw [h.1, wipe_length]
  rw [backS_get, hl]
  by_cases hk : k ∈ vs
  · by_cases hk2 : k < σ.length
    · rw [if_pos ⟨hk, hk2⟩]
      simp [List.getD, hk2]
    · rw [if_neg (fun z => hk2 z.2)]
      have e1 : σ'[k]? = none := by simp; omega
      have e2 : σ[k]? = none := by simp; omega
      rw [e1, e2]
  · rw [if_neg (fun z => hk z.1), h.2 k hk, wipe_get, if_neg (fun z => hk z.1)]
theorem EnvR.wiped (h : EnvR K G P σ Γ L) : ∀ vs, ∃ L', EnvR K G P (wipe σ vs) (wipeF Γ vs) L' ∧ L'.Sublist L
  | [] => ⟨L, h, List.Sublist.refl _⟩
  | v :: vs => by
    obtain ⟨L1, h1, h2⟩ := EnvR.wiped h vs
    obtain ⟨L2', h3, h4⟩ := h1.setNo v none
    exact ⟨L2', h3, h4.trans h2⟩
theorem EnvR.back {σ2 : L2.St} {Γ3 : EnvF} {L3 : List (Addr × OD)} (h : EnvR K G P σ2 Γ3 L3) (h0 : EnvR K G P σ Γ L) : ∀ vs : List Nat, (vs.all fun v => !isOwn (Γ.getD v .no)) = true → ∃ L', EnvR K G P (backS σ σ2 vs) (backF Γ Γ3 vs) L' ∧ L'.Sublist L3
  | [], _ => ⟨L3, h, List.Sublist.refl _⟩
  | v :: vs, e => by
    rw [List.all_cons, Bool.and_eq_true] at e
    obtain ⟨L1, h1, h2⟩ := EnvR.back h h0 vs e.2
    unfold backS backF
    cases ev : Γ[v]? with
    | none =>
      have : Γ.getD v .no = .no := by simp [List.getD, ev]
      rw [this]
      obtain ⟨L2', h3, h4⟩ := h1.setNo v (σ.getD v none)
      exact ⟨L2', h3, h4.trans h2⟩
    | some x =>
      have ex : Γ.getD v .no = x := by simp [List.getD, ev]
      rw [ex] at e ⊢
      cases x with
      | no =>
        obtain ⟨L2', h3, h4⟩ := h1.setNo v (σ.getD v none)
        exact ⟨L2', h3, h4.trans h2⟩
      | val d =>
        obtain ⟨u, q1, q2⟩ := h0.get ev
        have : σ.getD v none = some u := by simp [List.getD, q1]
        rw [this]
        obtain ⟨L2', h3, h4⟩ := h1.setVal v q2
        exact ⟨L2', h3, h4.trans h2⟩
      | own k o => simp [isOwn] at e
      | exc =>
        have : σ.getD v none = some (.ref TbC.xa) := by simp [List.getD, h0.getX ev]
        rw [this]
        obtain ⟨L2', h3, h4⟩ := h1.setX v
        exact ⟨L2', h3, h4.trans h2⟩
theorem EnvR.pat : ∀ {σ : L2.St} {Γ Γ' : EnvF} {L L' : List (Addr × OD)}, EnvR K G P σ Γ L → EnvR K G' P σ Γ' L' → Γ'.map isOwn = Γ.map isOwn → L'.map (·.1) = L.map (·.1)
  | _, _, _, _, _, .nil, .nil, _ => rfl
  | _, _, _, _, _, .no a, .no b, e => EnvR.pat a b (by simpa using e)
  | _, _, _, _, _, .no a, .val _ b, e => EnvR.pat a b (by simpa [isOwn] using e)
  | _, _, _, _, _, .no a, .own _ b, e => by simp [isOwn] at e
  | _, _, _, _, _, .val _ a, .no b, e => EnvR.pat a b (by simpa [isOwn] using e)
  | _, _, _, _, _, .val _ a, .val _ b, e => EnvR.pat a b (by simpa [isOwn] using e)
  | _, _, _, _, _, .val _ a, .own _ b, e => by simp [isOwn] at e
  | _, _, _, _, _, .no a, .exc b, e => EnvR.pat a b (by simpa [isOwn] using e)
  | _, _, _, _, _, .val _ a, .exc b, e => EnvR.pat a b (by simpa [isOwn] using e)
  | _, _, _, _, _, .exc a, .no b, e => EnvR.pat a b (by simpa [isOwn] using e)
  | _, _, _, _, _, .exc a, .val _ b, e => EnvR.pat a b (by simpa [isOwn] using e)
  | _, _, _, _, _, .exc a, .exc b, e => EnvR.pat a b (by simpa [isOwn] using e)
  | _, _, _, _, _, .exc a, .own _ b, e => by simp [isOwn] at e
  | _, _, _, _, _, .own _ a, .exc b, e => by simp [isOwn] at e
  | _, _, _, _, _, .own _ a, .no b, e => by simp [isOwn] at e
  | _, _, _, _, _, .own _ a, .val _ b, e => by simp [isOwn] at e
  | _, _, _, _, _, .own _ a, .own _ b, e => by
    have := EnvR.pat a b (by simpa [isOwn] using e)
    simp [this]
def lcTurn (g : D → FM Unit) (ft : FT) (fe : FE) (d : D) (acc : List D) : FM (List D) := FM.bind (g d) fun _ => FM.bind ft fun k => if k = true then FM.bind (fV fe) fun y => FM.pure (acc ++ [y]) else FM.pure acc
def lcL (g : D → FM Unit) (ft : FT) (fe : FE) (vs : List Nat) : List D → List D → FM (List D)
  | [], acc => FM.pure acc
  | d :: ds, acc => fun Γ => match lcTurn g ft fe d acc (wipeF Γ vs) with
    | some (.ok acc' Γ3) => if (vs.all fun v => !isOwn (Γ.getD v .no)) = true ∧ (backF Γ Γ3 vs).map isOwn = Γ.map isOwn then lcL g ft fe vs ds acc' (backF Γ Γ3 vs) else none
    | _ => none
theorem lcL_ok {g : D → FM Unit} {ft : FT} {fe : FE} {vs : List Nat} : ∀ {ds acc : List D} {Γ : EnvF} {r : Rt (List D)}, lcL g ft fe vs ds acc Γ = some r → ∃ v Γ', r = .ok v Γ'
  | [], acc, Γ, r, e => by cases e; exact ⟨_, _, rfl⟩
  | d :: ds, acc, Γ, r, e => by
    unfold lcL at e
    split at e
    · split at e
      · exact lcL_ok e
      · cases e
    · cases e
def fLc (w : FW) (g : D → FM Unit) (ft : FT) (fe : FE) (vs : List Nat) : FE := FM.bind w fun ds => if ds.length < 16777216 then FM.bind (lcL g ft fe vs ds []) fun acc => FM.pure (.val (.lst acc)) else fFail
def fLcO (w : FW) (g : D → FM Unit) (ft : FT) (fe : FE) (vs : List Nat) : FE := FM.bind w fun ds => if ds.length < 16777216 then FM.bind (lcL g ft fe vs ds []) fun acc => FM.pure (.own (.lst acc)) else fFail
theorem lc_core {wi : TI} {g : TG} {fw : FW} {f : D → FM Unit} {vs : List Nat} (hw : SimW K W wi fw) (hg : SimG K W vs g f) (ht : SimT K W tt ft) (he : SimE K W te fa) (s : Sta K P c G H σ Γ L) {r : Rt Vr} {rv : List D → Vr} (ov : (∀ acc, rv acc = .val (.lst acc)) ∨ ∀ acc, rv acc = .own (.lst acc))
    (e : FM.bind fw (fun ds => if ds.length < 16777216 then FM.bind (lcL f ft fa vs ds []) fun acc => FM.pure (rv acc) else fFail) Γ = some r) {Q : VK} (post : PostE vrR K P W σ c G H L Q r) : tLc wi g tt te vs σ H Q := by
  rcases FM.bind_some e with ⟨ds, Γ1, e1, e2⟩ | ⟨cn, fld, d, Γ1, e1, er⟩
  · refine hw P σ c G H Γ L s _ e1 _ ?_
    intro J c1 G1 H1 L1 g1 s1 e1' r1
    obtain ⟨Gd, Y, w, hG, hY⟩ := r1
    have e2 : (if ds.length < 16777216 then FM.bind (lcL f ft fa vs ds []) fun acc => FM.pure (rv acc) else fFail) Γ1 = some r := e2
    split at e2
    · rename_i hlen
      obtain ⟨accF, Γe, e3, er⟩ : ∃ accF Γe, lcL f ft fa vs ds [] Γ1 = some (.ok accF Γe) ∧ r = .ok (rv accF) Γe := by
        rcases FM.bind_some e2 with ⟨v, Γe, q1, q2⟩ | ⟨_, _, _, _, q1, _⟩
        · cases q2; exact ⟨v, Γe, q1, rfl⟩
        · obtain ⟨_, _, z⟩ := lcL_ok q1; cases z
      subst er
      intro Dd hD
      have hDs : H Dd = none := back_of g1 hD
      obtain ⟨gn, vn⟩ := own_new (T := TL L1) s1.iv (o := .lst []) (ho := .lst []) hD ⟨[], upd_same, .nil⟩
      have npD : Dd ∉ L1.map (·.1) := fun z => by
        obtain ⟨x, hx, ex⟩ := List.mem_map.mp z
        have := (s1.iv.ow _ _ (s1.ow x hx)).2.some
        rw [ex] at this; exact this hD
      have sn : Sta K P (c1.put Dd (.lst [])) G1 (upd H1 Dd (.lst [])) σ Γ1 L1 := ⟨s1.r, s1.nd, fun x hx => by
        have ne : x.1 ≠ Dd := fun z => npD (by rw [← z]; exact List.mem_map.mpr ⟨x, hx, rfl⟩)
        rw [Ow.put_ne ne]; exact s1.ow x hx, vn, fun p hp => gn.n p (s1.pa p hp)⟩
      refine lc_it w (fun i H' => ∃ acc Γ' c' G' L', Grow (TL L1) c1 G1 H1 c' G' H' ∧ Sta K P c' G' H' σ Γ' L' ∧ L'.map (·.1) = L1.map (·.1) ∧ c' Dd = some (.lst acc) ∧ acc.length ≤ i ∧ lcL f ft fa vs (ds.drop i) acc Γ' = some (.ok accF Γe))
        ⟨[], Γ1, _, G1, L1, gn, sn, rfl, Ow.put_same, Nat.le_refl _, by simpa using e3⟩ (fun i H' _ ⟨_, _, _, G', _, g', s', _⟩ => hG _ (g'.g.trans s'.iv.i)) ?_ ?_
      · rintro i x H' H2 hi ⟨acc, Γ', c', G', L', g', s', n', cD, hacc, ef⟩ y
        obtain ⟨G2, d, pg, ed, td⟩ := hY i H' x H2 G' hi g'.g s'.iv.i y
        have s2 := s'.pg pg
        have g2 : Grow (TL L1) c1 G1 H1 c' G2 H2 := g'.trans s1.iv (pg.grow s'.iv)
        have edr : ds.drop i = d :: ds.drop (i + 1) := by
          obtain ⟨h1, h2⟩ := List.getElem?_eq_some_iff.mp ed
          rw [← h2]; exact List.drop_eq_getElem_cons h1
        rw [edr] at ef
        unfold lcL at ef
        cases el : lcTurn f ft fa d acc (wipeF Γ' vs) with
        | none => rw [el] at ef; cases ef
        | some rr =>
          rw [el] at ef
          cases rr with
          | ex _ _ _ _ => cases ef
          | ok acc' Γ3 =>
            have ef : (if (vs.all fun v => !isOwn (Γ'.getD v .no)) = true ∧ (backF Γ' Γ3 vs).map isOwn = Γ'.map isOwn then lcL f ft fa vs (ds.drop (i + 1)) acc' (backF Γ' Γ3 vs) else none) = some (.ok accF Γe) := ef
            by_cases hc : (vs.all fun v => !isOwn (Γ'.getD v .no)) = true ∧ (backF Γ' Γ3 vs).map isOwn = Γ'.map isOwn
            · rw [if_pos hc] at ef
              -- the wiped state
              obtain ⟨Lw, w1, w2⟩ := s2.r.wiped vs
              have sw : Sta K P c' G2 H2 (wipe σ vs) (wipeF Γ' vs) Lw := ⟨w1, s2.nd.sublist (w2.map _), fun x hx => s2.ow x (w2.subset hx), s2.iv, s2.pa⟩
              have nDw : Dd ∉ Lw.map (·.1) := fun z => npD (by rw [← n']; exact (w2.map _).subset z)
              -- what holds at the end of the turn
              have fin : ∀ σ3 c3 G3 H3 L3, SmS vs (wipe σ vs) σ3 → Grow (TL Lw) c' G2 H2 c3 G3 H3 → Sta K P c3 G3 H3 σ3 Γ3 L3 → (∀ x ∈ L3, TL Lw x.1 ∨ H2 x.1 = none) → ∃ L4, Sta K P c3 G3 H3 σ (backF Γ' Γ3 vs) L4 ∧ L4.map (·.1) = L1.map (·.1) := by
                intro σ3 c3 G3 H3 L3 hsame g3 s3 n3
                obtain ⟨L4, b1, b2⟩ := EnvR.back (Γ := Γ') s3.r ((s2.r).mono g3.g) vs hc.1
                rw [same_back hsame] at b1
                have pat := EnvR.pat s2.r b1 hc.2
                exact ⟨L4, ⟨b1, s3.nd.sublist (b2.map _), fun x hx => s3.ow x (b2.subset hx), s3.iv, s3.pa⟩, pat.trans n'⟩
              have gw : ∀ {c3 G3 H3}, Grow (TL Lw) c' G2 H2 c3 G3 H3 → Grow (TL L1) c1 G1 H1 c3 G3 H3 := fun g3 => g2.trans' s1.iv g3 (fun _ z => z) fun b z => .inl (by
                show b ∈ L1.map (·.1)
                rw [← n']; exact (w2.map _).subset z)
              have keepD : ∀ {c3 G3 H3}, Grow (TL Lw) c' G2 H2 c3 G3 H3 → c3 Dd = some (.lst acc) := fun g3 => by rw [(g3.f Dd nDw (by rw [cD]; simp)).1]; exact cD
              unfold lcTurn at el
              rcases FM.bind_some el with ⟨_, Γa, ea, eb⟩ | ⟨_, _, _, _, _, er⟩
              · refine hg P (wipe σ vs) c' G2 H2 _ Lw sw x d td _ ea _ (fun Γ4 er σa ca Ga Ha La ma ga sa na => ?_) fun _ _ _ _ er => (by cases er)
                cases er
                refine ⟨same_wipe ma, ?_⟩
                rcases FM.bind_some eb with ⟨k, Γb, ec, ed'⟩ | ⟨_, _, _, _, _, er⟩
                · refine ht P σa ca Ga Ha Γa La sa _ ec _ ?_
                  intro b cb Gb Hb Lb gb sb eLb rb
                  have ebk : b = k := rb
                  subst ebk
                  have gb' := ga.trans' s2.iv gb (fun _ z => z) (tl_fresh na)
                  have nb' : ∀ x ∈ Lb, TL Lw x.1 ∨ H2 x.1 = none := fresh_trans ga na (tl_of eLb)
                  cases b with
                  | false =>
                    rw [if_neg (by decide)] at ed' ⊢
                    cases ed'
                    obtain ⟨L4, q1, q2⟩ := fin σa cb Gb Hb Lb ma gb' sb nb'
                    exact ⟨acc, _, cb, Gb, L4, gw gb', q1, q2, keepD gb', by omega, ef⟩
                  | true =>
                    rw [if_pos rfl] at ed' ⊢
                    rcases FM.bind_some ed' with ⟨yv, Γd, ee, eg⟩ | ⟨_, _, _, _, _, er⟩
                    · cases eg
                      refine sim_val he P σa cb Gb Hb Γb Lb sb _ ee _ ?_
                      intro u cd Gd' Hd Ld gd sd eLd rd
                      have gd' := gb'.trans' s2.iv gd (fun _ z => z) (tl_fresh nb')
                      have nd' : ∀ x ∈ Ld, TL Lw x.1 ∨ H2 x.1 = none := fresh_trans gb' nb' (tl_of eLd)
                      have cD' := keepD gd'
                      obtain ⟨us, hu, hus⟩ := (sd.iv.ow _ _ cD').2
                      refine ⟨us, hu, by rw [hus.length, sizeLine_eq]; omega, ?_⟩
                      obtain ⟨go, vo⟩ := own_set (T := fun b => b = Dd) sd.iv (o' := .lst (acc ++ [yv])) (ho := .lst (us ++ [u])) rfl cD' ⟨_, upd_same, hus.append (.cons rd .nil)⟩
                      obtain ⟨L4, q1, q2⟩ := fin σa cd Gd' Hd Ld ma gd' sd nd'
                      have np4 : Dd ∉ L4.map (·.1) := by rw [q2]; exact npD
                      refine ⟨acc ++ [yv], _, _, Gd', L4, (gw gd').trans' s1.iv go (fun _ z => z) (fun b z => .inr (by rw [z]; exact hD)), ⟨q1.r, q1.nd, fun x hx => ?_, vo, fun p hp => go.n p (q1.pa p hp)⟩, q2, Ow.put_same, by rw [List.length_append]; simp; omega, ef⟩
                      have ne : x.1 ≠ Dd := fun z => np4 (by rw [← z]; exact List.mem_map.mpr ⟨x, hx, rfl⟩)
                      rw [Ow.put_ne ne]; exact q1.ow x hx
                    · cases er
                · cases er
              · cases er
            · rw [if_neg hc] at ef; cases ef
      · rintro H' ⟨acc, Γ', c', G', L', g', s', n', cD, hacc, ef⟩
        rw [List.drop_length] at ef
        cases ef
        have npD' : Dd ∉ L'.map (·.1) := by rw [n']; exact npD
        have gall := g1.trans' s.iv g' (fun _ z => z) (fun b z => .inl (by unfold TL at z ⊢; rwa [e1'] at z))
        rcases ov with ov | ov
        · rw [ov] at post
          obtain ⟨us, hu, hus⟩ := (s'.iv.ow _ _ cD).2
          obtain ⟨gt, vt⟩ := own_told (T := fun b => b = Dd) s'.iv rfl cD hu
          refine post (.ref Dd) _ _ H' L' (gall.trans' s.iv gt (fun _ z => z) (fun b z => .inr (by rw [z]; exact hDs))) ⟨s'.r.mono gt.g, s'.nd, fun x hx => ?_, vt, s'.pa⟩ (n'.trans e1') (At.lst upd_same (hus.mono gt.g))
          have ne : x.1 ≠ Dd := fun z => npD' (by rw [← z]; exact List.mem_map.mpr ⟨x, hx, rfl⟩)
          rw [Ow.del_ne ne]; exact s'.ow x hx
        · rw [ov] at post
          exact post (.ref Dd) _ _ H' L' gall s' (n'.trans e1') ⟨Dd, rfl, cD, npD', hDs⟩
    · cases e2
  · subst er
    exact hw P σ c G H Γ L s _ e1 _ post
theorem sim_lc {wi : TI} {g : TG} {fw : FW} {f : D → FM Unit} {vs : List Nat} (hw : SimW K W wi fw) (hg : SimG K W vs g f) (ht : SimT K W tt ft) (he : SimE K W te fa) : SimE K W (tLc wi g tt te vs) (fLc fw f ft fa vs) := fun P σ c G H Γ L s r e Q post =>
  lc_core hw hg ht he s (.inl fun _ => rfl) e post
end
end DF

set_option linter.all false
set_option maxRecDepth 100000
set_option maxHeartbeats 4000000
namespace DF
open PySem PySem.Spec PyProof.Rows L2
variable [TbC]
section
variable {K : PySem.W.Frag} {G G' H H' H0 H1 G1 : Hp} {P : List Addr} {σ σ' : L2.St} {Γ Γ' Γ1 : EnvF} {L L' L1 : List (Addr × OD)} {c c' c1 : Ow} {W : WX}
variable {ta tb te to : TE} {t tr tk : TA} {fa fb fc fe fo : FE} {fs fr fk : FA} {tt tu : TT} {ft fu : FT} {E : XK} {ts tw : TS} {fS fT : FS}
/-! ### instances -/
def putD (f : Str) (d : D) : List (Str × D) → List (Str × D)
  | [] => [(f, d)]
  | (g, e) :: r => if g = f then (g, d) :: r else (g, e) :: putD f d r
theorem putD_at {f : Str} {v : V} {d : D} (t : At K G v d) : ∀ {fs : List (Str × V)} {gs : List (Str × D)}, AtF K G fs gs → AtF K G (putF f v fs) (putD f d gs)
  | _, _, .nil => .cons t .nil
  | _, _, @AtF.cons _ _ g0 v0 d0 vs ds a l => by
    unfold putF putD
    by_cases h : g0 = f
    · rw [if_pos h, if_pos h]; exact .cons t l
    · rw [if_neg h, if_neg h]; exact .cons a (putD_at t l)
/-- the fields of an instance of a class, a value or one's own -/
def fieldsOf (cn : Str) (v : Vr) (Γ : EnvF) : Option (List (Str × D)) := match v with
  | .val (.ins c gs) => if c = cn then some gs else none
  | .slot i => match Γ[i]? with
    | some (.own _ (.ins c gs)) => if c = cn then some gs else none
    | _ => none
  | _ => none
theorem fields_at {cn : Str} {C : Addr} {u : V} {v : Vr} {gs : List (Str × D)} (s : Sta K P c G H σ Γ L) (a : VrAt K σ L c G H0 u v) (ct : CT K cn C) (e : fieldsOf cn v Γ = some gs) : ∃ p dx fs, u = .ref p ∧ H p = some (.ins C dx fs) ∧ AtF K G fs gs := by
  cases v with
  | val d =>
    cases d with
    | ins c0 gs0 =>
      have e : (if c0 = cn then some gs0 else none) = some gs := e
      split at e
      · rename_i hc
        cases e
        have a : At K G u (.ins c0 gs) := a
        subst hc
        cases a with
        | @ins p C' dx _ fs _ ct' hp l =>
          have ec := ct'.one ct
          subst ec
          exact ⟨p, dx, fs, rfl, s.iv.i _ _ hp, l⟩
      · cases e
    | _ => cases e
  | slot i =>
    have e : (match Γ[i]? with
      | some (.own _ (.ins c gs)) => if c = cn then some gs else none
      | _ => none) = some gs := e
    cases ei : Γ[i]? with
    | none => rw [ei] at e; cases e
    | some x =>
      rw [ei] at e
      cases x with
      | own k o =>
        cases o with
        | ins c0 gs0 =>
          have e : (if c0 = cn then some gs0 else none) = some gs := e
          split at e
          · rename_i hc
            cases e
            obtain ⟨p, h1, h2, _⟩ := s.r.getO ei
            obtain ⟨C', dx, fs, ct', hp, l⟩ := (s.iv.ow _ _ (s.ow _ h2)).2
            subst hc
            have ec := ct'.one ct
            subst ec
            have eu : u = .ref p := by
              have z : σ[i]? = some (some u) := a
              rw [h1] at z; injection z with z; injection z with z; exact z.symm
            exact ⟨p, dx, fs, eu, hp, l⟩
          · cases e
        | _ => cases e
      | _ => cases e
  | own o => cases e
/-- o.f, an attribute -/
def fFld (cn f : Str) (a : FE) : FE := FM.bind a fun v Γ => match fieldsOf cn v Γ with
  | some gs => (gs.lookup f).map fun d => .ok (.val d) Γ
  | none => none
theorem sim_fld {cn f : Str} {C : Addr} (ct : CT K cn C) (cl : Cls K C) (na : NoAttr K C f) (h : SimE K W ta fa) : SimE K W (tFld K ta f) (fFld cn f fa) := fun P σ c G H Γ L s r e Q post => by
  rcases FM.bind_some e with ⟨v, Γ1, e1, e2⟩ | ⟨cn', fl, d, Γ1, e1, er⟩
  · refine h P σ c G H Γ L s _ e1 _ ?_
    intro u c1 G1 H1 L1 g1 s1 e1' r1
    cases ef : fieldsOf cn v Γ1 with
    | none => rw [ef] at e2; cases e2
    | some gs =>
      rw [ef] at e2
      simp only [Option.map_eq_some_iff] at e2
      obtain ⟨d, ed, er⟩ := e2
      subst er
      obtain ⟨p, dx, fs, eu, hp, l⟩ := fields_at s1 r1 ct ef
      obtain ⟨w, h1, h2⟩ := l.look ed
      exact ⟨p, C, dx, fs, w, eu, hp, cl, na, h1, post w c1 G1 H1 L1 g1 s1 e1' h2⟩
  · subst er
    exact h P σ c G H Γ L s _ e1 _ post
/-- a property -/
def fProp (cn : Str) (F : FF) (a : FE) : FE := FM.bind a fun v Γ => match fieldsOf cn v Γ with
  | some _ => callF F [v] Γ
  | none => none
theorem sim_prop {cn : Str} {C : Addr} {F : FF} (ct : CT K cn C) (hE : ∀ cls d σ H, W cls d σ H → E cls d H) (h : SimE K W ta fa) : SimE K W (tProp C (spF K F) [] E ta) (fProp cn F fa) := fun P σ c G H Γ L s r e Q post => by
  rcases FM.bind_some e with ⟨v, Γ1, e1, e2⟩ | ⟨cn', fl, d, Γ1, e1, er⟩
  · refine h P σ c G H Γ L s _ e1 _ ?_
    intro u c1 G1 H1 L1 g1 s1 e1' r1
    cases ef : fieldsOf cn v Γ1 with
    | none => rw [ef] at e2; cases e2
    | some gs =>
      rw [ef] at e2
      obtain ⟨p, dx, fs, eu, hp, l⟩ := fields_at s1 r1 ct ef
      refine ⟨p, dx, fs, eu, hp, ?_⟩
      rw [← eu]
      exact call_core s.iv g1 s1 e1' (.cons r1 .nil) hE e2 post
  · subst er
    exact h P σ c G H Γ L s _ e1 _ post
/-- a method -/
def fMeth (cn m : Str) (F : FF) (a : FE) (b : FA) : FE := FM.bind (FM.bind a fun v => FM.bind b fun vs => FM.pure (v, vs)) fun p Γ => match fieldsOf cn p.1 Γ with
  | some gs => if gs.lookup m = none then callF F (p.1 :: p.2) Γ else none
  | none => none
/-! self.f = e in an __init__ -/
def fSetF (cn f : Str) (i : Nat) (a : FE) : FS := FM.bind (fV a) fun d Γ => match Γ[i]? with
  | some (.own k (.ins c gs)) => if c = cn ∧ gs.length < 1000 then some (.ok .nx (Γ.set i (.own k (.ins c (putD f d gs))))) else none
  | _ => none
theorem set_own_core {i k : Nat} {o o' : OD} {p : Addr} {ho : HO} (s : Sta K P c G H σ Γ L) (ei : Γ[i]? = some (.own k o)) (hp : σ[i]? = some (some (.ref p))) (hh : HasO K G (upd H p ho) p o') :
    ∃ L', Grow (TL L) c G H (c.put p o') G (upd H p ho) ∧ Sta K P (c.put p o') G (upd H p ho) σ (Γ.set i (.own k o')) L' ∧ L'.map (·.1) = L.map (·.1) := by
  obtain ⟨p', L', q1, q2, q3, q4, q5⟩ := s.r.updOwn (o' := o') s.nd ei
  have ep : p' = p := by rw [hp] at q1; injection q1 with q1; injection q1 with q1; injection q1 with q1; exact q1.symm
  subst ep
  obtain ⟨g, v⟩ := own_set (T := TL L) s.iv (List.mem_map.mpr ⟨_, q2, rfl⟩) (s.ow _ q2) hh
  refine ⟨L', g, ⟨q3, by rw [q4]; exact s.nd, fun e he => ?_, v, fun p hp => g.n p (s.pa p hp)⟩, q4⟩
  rcases q5 e he with z | ⟨z, zn⟩
  · rw [z]; exact Ow.put_same
  · rw [Ow.put_ne zn]; exact s.ow e z
theorem sim_setF {cn f : Str} {C : Addr} {i : Nat} (ct : CT K cn C) (cl : Cls K C) (na : NoAttr K C f) (h : SimE K W te fa) : SimS K W (sFld K (tVar i) te f) (fSetF cn f i fa) := fun P σ c G H Γ L s r e Dn post => by
  rcases FM.bind_some e with ⟨d, Γ1, e1, e2⟩ | ⟨cn', fl, d, Γ1, e1, er⟩
  · refine sim_val h P σ c G H Γ L s _ e1 _ ?_
    intro u c1 G1 H1 L1 g1 s1 e1' r1
    have e2 : (match Γ1[i]? with
      | some (.own k (.ins c gs)) => if c = cn ∧ gs.length < 1000 then some (Rt.ok Fl.nx (Γ1.set i (.own k (.ins c (putD f d gs))))) else none
      | _ => none) = some r := e2
    cases ei : Γ1[i]? with
    | none => rw [ei] at e2; cases e2
    | some x =>
      rw [ei] at e2
      cases x with
      | own k o =>
        cases o with
        | ins c0 gs =>
          have e2 : (if c0 = cn ∧ gs.length < 1000 then some (Rt.ok Fl.nx (Γ1.set i (.own k (.ins c0 (putD f d gs))))) else none) = some r := e2
          split at e2
          · rename_i hc
            cases e2
            obtain ⟨hc1, hc2⟩ := hc
            subst hc1
            obtain ⟨p, h1, h2, _⟩ := s1.r.getO ei
            obtain ⟨C', dx, fs, ct', hp, l⟩ := (s1.iv.ow _ _ (s1.ow _ h2)).2
            have ec := ct'.one ct
            subst ec
            obtain ⟨L2', g2, s2, n2⟩ := set_own_core (ho := .ins C' dx (putF f u fs)) s1 ei h1 (o' := .ins c0 (putD f d gs)) ⟨C', dx, _, ct, upd_same, putD_at r1 l⟩
            refine ⟨_, h1, p, C', dx, fs, rfl, hp, cl, na, by rw [l.length]; exact hc2, ?_⟩
            exact post.nx _ rfl σ _ _ _ L2' (g1.trans' s.iv g2 (fun _ z => z) fun b z => .inl (by unfold TL at z ⊢; rwa [e1'] at z)) s2 (tl_of (n2.trans e1'))
          · cases e2
        | _ => cases e2
      | _ => cases e2
  · subst er
    exact sim_val h P σ c G H Γ L s _ e1 _ (post.ex cn' fl d Γ1 rfl)
/-- C(..) -/
def fMake (cn : Str) (F : FF) (a : FA) : FE := FM.bind (fVs a) fun ds => match F (.own 1 (.ins cn []) :: ds.map .val) with
  | some (.ok (.val .non) (some (.ins c gs))) => FM.pure (.val (.ins c gs))
  | some (.ex c f d _) => fun Γ => some (.ex c f d Γ)
  | _ => fFail
theorem arg_vals {us : List V} : ∀ {ds : List D}, AtL K G us ds → ArgR K G us (ds.map .val) [] := by
  induction us with
  | nil => intro ds h; cases h; exact .nil
  | cons u us ih => intro ds h; cases h with | cons a l => exact .val a (ih l)
theorem make_core {cn : Str} {C : Addr} {F : FF} (ct : CT K cn C) (hE : ∀ cls d σ H, W cls d σ H → E cls d H) {us : List V} {ds : List D} (s1 : Sta K P c1 G1 H1 σ Γ1 L1) (r1 : AtL K G1 us ds) {r : Rt Vr}
    (e : (match F (.own 1 (.ins cn []) :: ds.map .val) with
      | some (.ok (.val .non) (some (.ins c gs))) => FM.pure (.val (.ins c gs))
      | some (.ex c f d _) => fun Γ => some (.ex c f d Γ)
      | _ => fFail : FE) Γ1 = some r) {Q : VK} (post : PostE vrR K P W σ c1 G1 H1 L1 Q r) {x dx : Addr} (hx : H1 x = none) (hdx : H1 dx = none) (hne : dx ≠ x) :
    spF K F (.ref x :: us) (upd (upd H1 dx (.own x)) x (.ins C dx [])) (fun v H2 => v = .non ∧ Q (.ref x) H2) E := by
  have ga := PG.hid (o := .own x) s1.iv.i hdx
  have iva : Iv K c1 G1 (upd H1 dx (.own x)) := ga.iv s1.iv
  have hx' : upd H1 dx (.own x) x = none := by rw [upd_ne (Ne.symm hne)]; exact hx
  obtain ⟨gb, ivb⟩ := own_new (T := TL L1) iva (o := .ins cn []) (ho := .ins C dx []) hx' ⟨C, dx, [], ct, upd_same, .nil⟩
  have gab := (ga.grow (T := TL L1) s1.iv).trans s1.iv gb
  have npx : x ∉ L1.map (·.1) := fun z => by
    obtain ⟨y, hy, ey⟩ := List.mem_map.mp z
    have := (s1.iv.ow _ _ (s1.ow y hy)).2.some
    rw [ey] at this; exact this hx
  cases eF : F (.own 1 (.ins cn []) :: ds.map .val) with
  | none => rw [eF] at e; cases e
  | some rf =>
    rw [eF] at e
    refine ⟨G1, c1.put x (.ins cn []), _, [(x, .ins cn [])], rf, ivb, .own (arg_vals r1), fun e he => by rw [List.mem_singleton.mp he]; exact Ow.put_same, eF, ?_⟩
    have toL : ∀ {c' G' H'}, Grow (TL [(x, OD.ins cn [])]) (c1.put x (.ins cn [])) G1 (upd (upd H1 dx (.own x)) x (.ins C dx [])) c' G' H' → Grow (TL L1) c1 G1 H1 c' G' H' := fun g => gab.trans' s1.iv g (fun _ z => z) fun b z => .inr (by
      have z : b = x := by simpa [TL] using z
      rw [z]; exact hx)
    have keep : ∀ {c' G' H'}, Grow (TL [(x, OD.ins cn [])]) (c1.put x (.ins cn [])) G1 (upd (upd H1 dx (.own x)) x (.ins C dx [])) c' G' H' → ∀ y ∈ L1, c' y.1 = some y.2 := fun g y hy => by
      have ne : y.1 ≠ x := fun z => npx (by rw [← z]; exact List.mem_map.mpr ⟨y, hy, rfl⟩)
      have e1 : (c1.put x (OD.ins cn [])) y.1 = some y.2 := by rw [Ow.put_ne ne]; exact s1.ow y hy
      rw [(g.f y.1 (by simpa [TL] using ne) (by rw [e1]; simp)).1]; exact e1
    cases rf with
    | ok v oo =>
      cases v with
      | val d =>
        cases d with
        | non =>
          cases oo with
          | none => cases e
          | some o =>
            cases o with
            | ins c0 gs =>
              cases e
              intro u c' G' H' g' iv' ho hr
              cases hr
              refine ⟨rfl, ?_⟩
              have cx : c' x = some (.ins c0 gs) := ho x _ _ rfl rfl
              obtain ⟨C', dx', fs, ct', hp, l⟩ := (iv'.ow _ _ cx).2
              obtain ⟨gt, vt⟩ := own_told (T := fun b => b = x) iv' rfl cx hp
              have gall := toL g'
              refine post (.ref x) _ _ H' L1 (gall.trans' s1.iv gt (fun _ z => z) (fun b z => .inr (by rw [z]; exact hx))) ⟨s1.r.mono (g'.g.trans gt.g), s1.nd, fun y hy => ?_, vt, fun p hp => gall.n p (s1.pa p hp)⟩ rfl (At.ins ct' upd_same (l.mono gt.g))
              have ne : y.1 ≠ x := fun z => npx (by rw [← z]; exact List.mem_map.mpr ⟨y, hy, rfl⟩)
              rw [Ow.del_ne ne]; exact keep g' y hy
            | _ => cases e
        | _ => cases e
      | _ => cases e
    | ex cn' f d oo =>
      cases e
      intro C' dd fv c' G' H' g' iv' ho ct' hd hv
      have gall := toL g'
      exact hE _ _ σ _ (post C' dd fv σ c' G' H' L1 gall ⟨s1.r.mono g'.g, s1.nd, keep g', iv', fun p hp => gall.n p (s1.pa p hp)⟩ tl_self ct' hd hv)
theorem PostE.pull {α β : Type} {R : Rel α β} {Q : β → Hp → Prop} {r : Rt α} (iv : Iv K c G H) (g1 : Grow (TL L) c G H c1 G1 H1) (e1 : L1.map (·.1) = L.map (·.1)) (post : PostE R K P W σ c G H L Q r) : PostE R K P W σ c1 G1 H1 L1 Q r := by
  cases r with
  | ok v Γ' =>
    intro b' c' G' H' L' g' s' e' r'
    exact post b' c' G' H' L' (g1.trans' iv g' (fun _ z => z) fun b z => .inl (by unfold TL at z ⊢; rwa [e1] at z)) s' (e'.trans e1) (R.back (fun a z => g1.n a z) r')
  | ex cn f d Γ' => exact PostX.trans iv g1 (tl_of e1) post
theorem sim_make {cn : Str} {C : Addr} {F : FF} (ct : CT K cn C) (hE : ∀ cls d σ H, W cls d σ H → E cls d H) (h : SimA K W t fs) : SimE K W (tMake C (spF K F) [] E t) (fMake cn F fs) := fun P σ c G H Γ L s r e Q post => by
  rcases FM.bind_some e with ⟨ds, Γ1, e1, e2⟩ | ⟨cn', fl, d, Γ1, e1, er⟩
  · refine sim_vals h P σ c G H Γ L s _ e1 _ ?_
    intro us c1 G1 H1 L1 g1 s1 e1' r1 x dx hx hdx hne
    rw [List.append_nil]
    exact make_core ct hE s1 r1 e2 (post.pull s.iv g1 e1') hx hdx hne
  · subst er
    exact sim_vals h P σ c G H Γ L s _ e1 _ post
def fMakeN (cn : Str) (F : FF) (j l : Nat) (ix : List Nat) (a b : FA) : FE := FM.bind (FM.bind (fVs a) fun vs => FM.bind (fVs b) fun xs => FM.pure (vs, xs)) fun p => if p.1.length = j ∧ p.2.length = l then (match F (.own 1 (.ins cn []) :: (ix.map fun i => (p.1 ++ p.2).getD i .non).map .val) with
  | some (.ok (.val .non) (some (.ins c gs))) => FM.pure (.val (.ins c gs))
  | some (.ex c f d _) => fun Γ => some (.ex c f d Γ)
  | _ => fFail) else fFail
def d2R : Rel (List D × List D) (List V × List V) := ⟨fun K σ L c G H0 b v => AtL K G b.1 v.1 ∧ AtL K G b.2 v.2, fun g e h => ⟨h.1.mono g.g, h.2.mono g.g⟩, fun n h => h⟩
end
end DF

set_option linter.all false
set_option maxRecDepth 100000
set_option maxHeartbeats 4000000
namespace DF
open PySem PySem.Spec PyProof.Rows L2
variable [TbC]
theorem OpR.or {X : Cx} {f : Value → Value → Sem Value} {r r' : R2} (h : OpR X f r) (h' : OpR X f r') : OpR X f (fun x y H Q => r x y H Q ∨ r' x y H Q) := by
  intro pins s σ H x y v u Q I rx ry q
  rcases q with q | q
  · exact h pins s σ H x y v u Q I rx ry q
  · exact h' pins s σ H x y v u Q I rx ry q
theorem CallR.or {X : Cx} {f : Value} {r r' : List V → Hp → VK → Prop} (h : CallR X f r) (h' : CallR X f r') : CallR X f (fun xs H Q => r xs H Q ∨ r' xs H Q) := by
  intro pins s σ H xs us Q I rx q
  rcases q with q | q
  · exact h pins s σ H xs us Q I rx q
  · exact h' pins s σ H xs us Q I rx q
section
variable {K : PySem.W.Frag} {G G' H H' H0 H1 G1 : Hp} {P : List Addr} {σ σ' : L2.St} {Γ Γ' Γ1 : EnvF} {L L' L1 : List (Addr × OD)} {c c' c1 : Ow} {W : WX}
variable {ta tb te to : TE} {t tr tk : TA} {fa fb fc fe fo : FE} {fs fr fk : FA} {tt tu : TT} {ft fu : FT} {E : XK} {ts tw : TS} {fS fT : FS}
theorem SimR2.or {r r' : R2} {f g : D → D → Option D} (h : SimR2 K r f) (h' : SimR2 K r' g) : SimR2 K (fun x y H Q => r x y H Q ∨ r' x y H Q) (fun x y => match f x y with | some z => some z | none => g x y) := by
  intro x y z e G H u v i hu hv Q q
  have bs := i
  have i := bs.i
  dsimp only at e
  cases ef : f x y with
  | some z' => rw [ef] at e; cases e; exact .inl (h x y z ef G H u v bs hu hv Q q)
  | none => rw [ef] at e; exact .inr (h' x y z e G H u v bs hu hv Q q)
/-! ### + -/
def rAddU (K : PySem.W.Frag) : R2 := fun x y H Q => rI0 (fun i j => .int (i + j)) x y H Q ∨ (∃ i j, x = .str i ∧ y = .str j ∧ i.length + j.length ≤ sizeLine ∧ Q (.str (i ++ j)) H) ∨ rCat x y H Q ∨ rCatA K x y H Q
theorem op_addU {X : Cx} : OpR X (binaryOp .Add) (rAddU X.K) := OpR.or op_add (OpR.or op_add_str (OpR.or op_cat op_catA))
def addD : D → D → Option D
  | .int i, .int j => some (.int (i + j))
  | .str i, .str j => if i.length + j.length ≤ 16777216 then some (.str (i ++ j)) else none
  | .lst a, .lst b => if a.length + b.length ≤ 16777216 then some (.lst (a ++ b)) else none
  | .tup a, .tup b => if a.length + b.length ≤ 16777216 then some (.tup (a ++ b)) else none
  | _, _ => none
theorem sim_add : SimR2 K (rAddU K) addD := by
  intro x y z e G H u v i hu hv Q q
  have bs := i
  have i := bs.i
  cases hu with
  | int a =>
    cases hv with
    | int b => cases e; exact .inl ⟨a, b, rfl, rfl, q _ G H (PG.refl i) (.int _)⟩
    | _ => cases e
  | str a =>
    cases hv with
    | str b =>
      have e : (if a.length + b.length ≤ 16777216 then some (D.str (a ++ b)) else none) = some z := e
      split at e
      · rename_i h; cases e; exact .inr (.inl ⟨a, b, rfl, rfl, by rw [sizeLine_eq]; exact h, q _ G H (PG.refl i) (.str _)⟩)
      · cases e
    | _ => cases e
  | @lst p vs ds hp l =>
    cases hv with
    | @lst p' vs' ds' hp' l' =>
      have e : (if ds.length + ds'.length ≤ 16777216 then some (D.lst (ds ++ ds')) else none) = some z := e
      split at e
      · rename_i h
        cases e
        refine .inr (.inr (.inl ⟨p, p', vs, vs', rfl, rfl, i _ _ hp, i _ _ hp', by rw [l.length, l'.length, sizeLine_eq]; exact h, fun np hn => ?_⟩))
        have gn := PG.new (G := G) (o := .lst (vs ++ vs')) i hn
        exact q _ _ _ gn (.lst upd_same ((l.append l').mono gn.g))
      · cases e
    | _ => cases e
  | @tup p vs ds hp l =>
    cases hv with
    | @tup p' vs' ds' hp' l' =>
      have e : (if ds.length + ds'.length ≤ 16777216 then some (D.tup (ds ++ ds')) else none) = some z := e
      split at e
      · rename_i h
        cases e
        have la := l.append l'
        refine .inr (.inr (.inr ⟨p, p', vs, vs', rfl, rfl, sqT_ext hp i, sqT_ext hp' i, by rw [l.length, l'.length, sizeLine_eq]; exact h, fun en => ?_, fun _ en => ?_, fun _ _ np hn => ?_⟩))
        · subst en; exact q _ G H (PG.refl i) (.tup hp' la)
        · subst en; rw [List.append_nil] at la; exact q _ G H (PG.refl i) (.tup hp la)
        · have gn := PG.new (G := G) (o := .tup (vs ++ vs')) i hn
          exact q _ _ _ gn (.tup (.inl (.inl upd_same)) (la.mono gn.g))
      · cases e
    | _ => cases e
  | _ => cases e
/-! ### ints -/
def intD (f : Int → Int → D) : D → D → Option D
  | .int i, .int j => some (f i j)
  | _, _ => none
theorem sim_I0 {g : Int → Int → V} {f : Int → Int → D} (h : ∀ i j G, At K G (g i j) (f i j)) : SimR2 K (rI0 g) (intD f) := by
  intro x y z e G H u v i hu hv Q q
  have bs := i
  have i := bs.i
  cases hu with
  | int a => cases hv with
    | int b => cases e; exact ⟨a, b, rfl, rfl, q _ G H (PG.refl i) (h a b G)⟩
    | _ => cases e
  | _ => cases e
def subD : D → D → Option D := intD fun i j => .int (i - j)
theorem sim_sub : SimR2 K (rI0 fun i j => .int (i - j)) subD := sim_I0 fun _ _ _ => .int _
def intC (C : Int → Int → Bool) (f : Int → Int → D) : D → D → Option D
  | .int i, .int j => if C i j = true then some (f i j) else none
  | _, _ => none
theorem sim_IC {C : Int → Int → Prop} {B : Int → Int → Bool} {g : Int → Int → V} {f : Int → Int → D} (hc : ∀ i j, B i j = true → C i j) (h : ∀ i j G, At K G (g i j) (f i j)) : SimR2 K (rI C g) (intC B f) := by
  intro x y z e G H u v i hu hv Q q
  have bs := i
  have i := bs.i
  cases hu with
  | int a => cases hv with
    | int b =>
      have e : (if B a b = true then some (f a b) else none) = some z := e
      split at e
      · rename_i hb; cases e; exact ⟨a, b, rfl, rfl, hc a b hb, q _ G H (PG.refl i) (h a b G)⟩
      · cases e
    | _ => cases e
  | _ => cases e
def mulOk (i j : Int) : Bool := (decide (-(2 ^ 64) < i) && decide (i < 2 ^ 64)) || (decide (-(2 ^ 64) < j) && decide (j < 2 ^ 64)) || decide (i.natAbs.log2 + j.natAbs.log2 < 1000000)
def rMulU (K : PySem.W.Frag) : R2 := fun x y H Q => rI (fun i j => CMul i j ∨ CMulW i j) (fun i j => .int (i * j)) x y H Q ∨ rRep x y H Q ∨ rRepT K x y H Q
theorem op_mulI {X : Cx} : OpR X (binaryOp .Mult) (rI (fun i j => CMul i j ∨ CMulW i j) fun i j => .int (i * j)) := by
  intro pins s σ H x y v u Q I rx ry h
  obtain ⟨i, j, ex, ey, hc, q⟩ := h
  rcases hc with hc | hc
  · exact op_mul pins s σ H x y v u Q I rx ry ⟨i, j, ex, ey, hc, q⟩
  · exact op_mulW pins s σ H x y v u Q I rx ry ⟨i, j, ex, ey, hc, q⟩
theorem op_mulU {X : Cx} : OpR X (binaryOp .Mult) (rMulU X.K) := OpR.or op_mulI (OpR.or op_rep op_repT)
def mulD : D → D → Option D
  | .int i, .int j => if mulOk i j = true then some (.int (i * j)) else none
  | .lst a, .int k => if 0 ≤ k ∧ k ≤ 1000000 ∧ a.length * k.toNat ≤ 16777216 then some (.lst (List.replicate k.toNat a).flatten) else none
  | .tup a, .int k => if a ≠ [] ∧ 2 ≤ k ∧ k ≤ 1000 ∧ a.length ≤ 1000 then some (.tup (List.replicate k.toNat a).flatten) else none
  | _, _ => none
theorem atl_rep {vs : List V} {ds : List D} (l : AtL K G vs ds) (n : Nat) : AtL K G (List.replicate n vs).flatten (List.replicate n ds).flatten := by
  induction n with
  | zero => exact .nil
  | succ n ih => rw [List.replicate_succ, List.replicate_succ, List.flatten_cons, List.flatten_cons]; exact l.append ih
theorem sim_mul : SimR2 K (rMulU K) mulD := by
  intro x y z e G H u v i hu hv Q q
  have bs := i
  have i := bs.i
  cases hu with
  | int a =>
    cases hv with
    | int b =>
      have e : (if mulOk a b = true then some (D.int (a * b)) else none) = some z := e
      split at e
      · rename_i h
        cases e
        refine .inl ⟨a, b, rfl, rfl, ?_, q _ G H (PG.refl i) (.int _)⟩
        unfold mulOk at h
        simp only [Bool.or_eq_true, Bool.and_eq_true, decide_eq_true_eq] at h
        rcases h with (h | h) | h
        · exact .inl (.inl h)
        · exact .inl (.inr h)
        · exact .inr h
      · cases e
    | _ => cases e
  | @lst p vs ds hp l =>
    cases hv with
    | int k =>
      have e : (if 0 ≤ k ∧ k ≤ 1000000 ∧ ds.length * k.toNat ≤ 16777216 then some (D.lst (List.replicate k.toNat ds).flatten) else none) = some z := e
      split at e
      · rename_i h
        cases e
        refine .inr (.inl ⟨p, k, vs, rfl, rfl, i _ _ hp, by omega, by omega, by rw [l.length, sizeLine_eq]; exact h.2.2, fun np hn => ?_⟩)
        have gn := PG.new (G := G) (o := .lst (List.replicate k.toNat vs).flatten) i hn
        exact q _ _ _ gn (.lst upd_same ((atl_rep l _).mono gn.g))
      · cases e
    | _ => cases e
  | @tup p vs ds hp l =>
    cases hv with
    | int k =>
      have e : (if ds ≠ [] ∧ 2 ≤ k ∧ k ≤ 1000 ∧ ds.length ≤ 1000 then some (D.tup (List.replicate k.toNat ds).flatten) else none) = some z := e
      split at e
      · rename_i h
        cases e
        refine .inr (.inr ⟨p, k, vs, rfl, rfl, sqT_ext hp i, fun en => h.1 ?_, h.2.1, h.2.2.1, by rw [l.length]; exact h.2.2.2, fun np hn => ?_⟩)
        · subst en; cases l; rfl
        · have gn := PG.new (G := G) (o := .tup (List.replicate k.toNat vs).flatten) i hn
          exact q _ _ _ gn (.tup (.inl (.inl upd_same)) ((atl_rep l _).mono gn.g))
      · cases e
    | _ => cases e
  | _ => cases e
def modD : D → D → Option D := intC (fun _ j => decide (0 < j)) fun i j => .int (i % j)
theorem sim_mod : SimR2 K (rI (fun _ j => 0 < j) fun i j => .int (i % j)) modD := sim_IC (fun _ _ h => of_decide_eq_true h) fun _ _ _ => .int _
def fdivD : D → D → Option D := intC (fun _ j => decide (0 < j) && decide (j.natAbs.log2 < 9000)) fun i j => .int (i / j)
theorem sim_fdiv : SimR2 K (rI CDivW fun i j => .int (i / j)) fdivD := sim_IC (fun i j h => by simpa [CDivW] using h) fun _ _ _ => .int _
def powD : D → D → Option D := intC (fun i j => decide (0 ≤ j) && decide (j ≤ 1000000) && decide (i.natAbs < 2 ^ 64)) fun i j => .int (i ^ j.toNat)
theorem sim_pow : SimR2 K (rI CPow fun i j => .int (i ^ j.toNat)) powD := sim_IC (fun i j h => by
  simp only [Bool.and_eq_true, decide_eq_true_eq] at h
  exact ⟨h.1.1, h.1.2, h.2⟩) fun _ _ _ => .int _
def negD : D → Option D
  | .int i => some (.int (-i))
  | _ => none
theorem sim_neg : SimR1 K (rU fun i => .int (-i)) negD := by
  intro x z e G H u i hu Q q
  have bs := i
  have i := bs.i
  cases hu with
  | int a => cases e; exact ⟨a, rfl, q _ G H (PG.refl i) (.int _)⟩
  | _ => cases e
/-! ### order -/
def rLtU : R2 := fun x y H Q => rI0 (fun i j => .bl (decide (i < j))) x y H Q ∨ (∃ i j, x = .str i ∧ y = .str j ∧ Q (.bl (decide (i.cps.toList < j.cps.toList))) H)
theorem op_ltU {X : Cx} : OpR X (compareOp .Lt) rLtU := OpR.or op_lt op_lt_str
def ltD : D → D → Option D
  | .int i, .int j => some (.bl (decide (i < j)))
  | .str i, .str j => some (.bl (decide (i.cps.toList < j.cps.toList)))
  | _, _ => none
theorem sim_lt : SimR2 K rLtU ltD := by
  intro x y z e G H u v i hu hv Q q
  have bs := i
  have i := bs.i
  cases hu with
  | int a => cases hv with
    | int b => cases e; exact .inl ⟨a, b, rfl, rfl, q _ G H (PG.refl i) (.bl _)⟩
    | _ => cases e
  | str a => cases hv with
    | str b => cases e; exact .inr ⟨a, b, rfl, rfl, q _ G H (PG.refl i) (.bl _)⟩
    | _ => cases e
  | _ => cases e
def leD : D → D → Option D := intD fun i j => .bl (decide (i ≤ j))
def gtD : D → D → Option D := intD fun i j => .bl (decide (j < i))
def geD : D → D → Option D := intD fun i j => .bl (decide (j ≤ i))
theorem sim_gt : SimR2 K (rI0 fun i j => .bl (decide (j < i))) gtD := sim_I0 fun _ _ _ => .bl _
theorem sim_ge : SimR2 K (rI0 fun i j => .bl (decide (j ≤ i))) geD := sim_I0 fun _ _ _ => .bl _
/-! ### == on data of any depth -/
mutual
def py : D → PyData
  | .non => .none | .bl b => .bool b | .int i => .int i | .str s => .str s | .cls _ => .none | .ty _ => .none | .scr _ => .none
  | .tup ds => .tuple (pyL ds) | .lst ds => .list (pyL ds) | .ins _ _ => .none | .dct _ => .none
def pyL : List D → List PyData
  | [] => [] | d :: ds => py d :: pyL ds
end
mutual
def pur : D → Bool
  | .non | .bl _ | .int _ | .str _ => true
  | .cls _ | .ins _ _ | .ty _ | .scr _ | .dct _ => false
  | .tup ds | .lst ds => purL ds
def purL : List D → Bool
  | [] => true | d :: ds => pur d && purL ds
end
mutual
theorem At.dp {G H : Hp} (i : Ext G H) : ∀ (d : D) {v : V}, At K G v d → pur d = true → Dp K H v (py d)
  | .non, _, h, _ => by cases h; exact .non
  | .bl b, _, h, _ => by cases h; exact .bl b
  | .int b, _, h, _ => by cases h; exact .int b
  | .str b, _, h, _ => by cases h; exact .str b
  | .cls b, _, _, p => by simp [pur] at p
  | .ty b, _, _, p => by simp [pur] at p
  | .scr b, _, _, p => by simp [pur] at p
  | .ins _ _, _, _, p => by simp [pur] at p
  | .dct _, _, _, p => by simp [pur] at p
  | .tup ds, _, h, p => by
    cases h with
    | tup hs l => exact .tup (sqT_ext hs i) (AtL.dp i ds l (by simpa [pur] using p))
  | .lst ds, _, h, p => by
    cases h with
    | lst hs l => exact .lst (.inl (.inl (i _ _ hs))) (AtL.dp i ds l (by simpa [pur] using p))
theorem AtL.dp {G H : Hp} (i : Ext G H) : ∀ (ds : List D) {vs : List V}, AtL K G vs ds → purL ds = true → DpAll K H vs (pyL ds)
  | [], _, h, _ => by cases h; exact .nil
  | d :: ds, _, h, p => by
    cases h with
    | cons hd l =>
      have p' : pur d = true ∧ purL ds = true := by simpa [purL] using p
      exact .cons (At.dp i d hd p'.1) (AtL.dp i ds l p'.2)
end
def okEq (x : D) : Bool := pur x && SeqAt.shaped (py x)
def eqB (x y : D) : Option Bool := match x, y with
  | .str a, .str b => some (decide (a = b))
  | x, y => if okEq x = true ∧ okEq y = true then some (PyData.eqv (py x) (py y)) else none
def eqD (x y : D) : Option D := (eqB x y).map D.bl
def neD (x y : D) : Option D := (eqB x y).map fun b => D.bl !b
def rEqU (K : PySem.W.Frag) : R2 := fun x y H Q => rEq x y H Q ∨ rEqD K x y H Q
def rNeU (K : PySem.W.Frag) : R2 := fun x y H Q => rNe x y H Q ∨ rNeD K x y H Q
theorem op_eqU {X : Cx} (hu : X.A.units + 64 < cLine) : OpR X (compareOp .Eq) (rEqU X.K) := OpR.or op_eq (op_eqD hu)
theorem op_neU {X : Cx} (hu : X.A.units + 64 < cLine) : OpR X (compareOp .NotEq) (rNeU X.K) := OpR.or op_ne (op_neD hu)
theorem okEq_and {x : D} (h : okEq x = true) : pur x = true ∧ SeqAt.shaped (py x) = true := by unfold okEq at h; simpa using h
theorem eqB_cases {x y : D} {b : Bool} (e : eqB x y = some b) : (∃ s t, x = .str s ∧ y = .str t ∧ b = decide (s = t)) ∨ (okEq x = true ∧ okEq y = true ∧ b = PyData.eqv (py x) (py y)) := by
  unfold eqB at e
  split at e
  · cases e; exact .inl ⟨_, _, rfl, rfl, rfl⟩
  · split at e
    · rename_i h; cases e; exact .inr ⟨h.1, h.2, rfl⟩
    · cases e
theorem sim_eq : SimR2 K (rEqU K) eqD := by
  intro x y z e G H u v i hu hv Q q
  have bs := i
  have i := bs.i
  unfold eqD at e
  simp only [Option.map_eq_some_iff] at e
  obtain ⟨b, eb, ez⟩ := e
  subst ez
  rcases eqB_cases eb with ⟨s, t, e1, e2, e3⟩ | ⟨h1, h2, e3⟩
  · subst e1 e2 e3
    cases hu; cases hv
    refine .inl ⟨rfl, ?_⟩
    have : (decide (V.str s = V.str t)) = decide (s = t) := by
      by_cases h : s = t
      · subst h; simp
      · rw [decide_eq_false h, decide_eq_false (fun z => h (by injection z))]
    rw [this]
    exact q _ G H (PG.refl i) (.bl _)
  · obtain ⟨p1, s1⟩ := okEq_and h1
    obtain ⟨p2, s2⟩ := okEq_and h2
    subst e3
    exact .inr ⟨_, _, At.dp i x hu p1, At.dp i y hv p2, s1, s2, q _ G H (PG.refl i) (.bl _)⟩
theorem sim_ne : SimR2 K (rNeU K) neD := by
  intro x y z e G H u v i hu hv Q q
  have bs := i
  have i := bs.i
  unfold neD at e
  simp only [Option.map_eq_some_iff] at e
  obtain ⟨b, eb, ez⟩ := e
  subst ez
  rcases eqB_cases eb with ⟨s, t, e1, e2, e3⟩ | ⟨h1, h2, e3⟩
  · subst e1 e2 e3
    cases hu; cases hv
    refine .inl ⟨rfl, ?_⟩
    have : (decide (V.str s = V.str t)) = decide (s = t) := by
      by_cases h : s = t
      · subst h; simp
      · rw [decide_eq_false h, decide_eq_false (fun z => h (by injection z))]
    rw [this]
    exact q _ G H (PG.refl i) (.bl _)
  · obtain ⟨p1, s1⟩ := okEq_and h1
    obtain ⟨p2, s2⟩ := okEq_and h2
    subst e3
    exact .inr ⟨_, _, At.dp i x hu p1, At.dp i y hv p2, s1, s2, q _ G H (PG.refl i) (.bl _)⟩
/-! ### a[i] -/
theorem atI_of {vs : List V} {ds : List D} (h : AtL K G vs ds) {i : Int} {x : D} (e : atI ds i = some x) : ∃ v, atI vs i = some v ∧ At K G v x := by
  unfold atI at e ⊢
  rw [h.length]
  cases k : ixN ds.length i with
  | none => rw [k] at e; cases e
  | some j => rw [k] at e; exact h.get (j := j) e
def ixD : D → D → Option D
  | .lst ds, .int i => atI ds i
  | .tup ds, .int i => atI ds i
  | .scr ns, .int i => atI (ns.map D.int) i
  | .str z, .int i => if z.length ≤ 16777216 then (atI z.cps.toList i).map chrD else none
  | _, _ => none
theorem sim_ix : SimR2 K (rIx K) ixD := by
  intro x y z e G H u v i hu hv Q q
  have bs := i
  have i := bs.i
  cases hv with
  | int k =>
    cases hu with
    | @lst p vs ds hp l =>
      obtain ⟨w, h1, h2⟩ := atI_of l (show atI ds k = some z from e)
      exact .inl ⟨p, vs, k, w, rfl, rfl, ext_lst i hp, h1, q w G H (PG.refl i) h2⟩
    | @scr p ns hp =>
      obtain ⟨w, h1, h2⟩ := atI_of (atl_ints (K := K) (G := G) ns) (show atI (ns.map D.int) k = some z from e)
      exact .inl ⟨p, _, k, w, rfl, rfl, (hp.ext i).seq, h1, q w G H (PG.refl i) h2⟩
    | @tup p vs ds hp l =>
      obtain ⟨w, h1, h2⟩ := atI_of l (show atI ds k = some z from e)
      exact .inr (.inl ⟨p, vs, k, w, rfl, rfl, sqT_ext hp i, h1, q w G H (PG.refl i) h2⟩)
    | str s =>
      have e : (if s.length ≤ 16777216 then (atI s.cps.toList k).map chrD else none) = some z := e
      split at e
      · rename_i hl
        simp only [Option.map_eq_some_iff] at e
        obtain ⟨c, ec, ez⟩ := e
        subst ez
        exact .inr (.inr ⟨s, k, c, rfl, rfl, by rw [sizeLine_eq]; exact hl, ec, q _ G H (PG.refl i) (.str _)⟩)
      · cases e
    | _ => cases e
  | _ => cases hu <;> cases e
/-! ### slices -/
def cutD (ds : List D) (lo hi : Option Int) : List D := (ds.drop (HT.sIx ds.length 0 lo)).take (HT.sIx ds.length ds.length hi - HT.sIx ds.length 0 lo)
theorem cut_at {vs : List V} {ds : List D} (l : AtL K G vs ds) (lo hi : Option Int) : AtL K G (cutV vs lo hi) (cutD ds lo hi) := by
  unfold cutV cutD
  rw [l.length]
  exact (l.drop _).take _
def fNoPart : FO := FM.pure none
def fPart (a : FE) : FO := FM.bind (fV a) fun | .int i => FM.pure (some i) | _ => fFail
theorem sim_noPart : SimO K W tNoPart fNoPart := fun P σ c G H Γ L s => Run.now (R := eqR (Option Int)) s rfl
theorem sim_part (h : SimE K W te fa) : SimO K W (tPart te) (fPart fa) := fun P σ c G H Γ L s => by
  unfold fPart
  refine Run.bind (R' := eqR (Option Int)) (t2 := fun x H1 Q => ∃ i, x = V.int i ∧ Q (some i) H1) s.iv (sim_val h P σ c G H Γ L s) fun d Γ1 u c1 G1 H1 L1 g1 s1 e1 r1 => ?_
  have r1 : At K G1 u d := r1
  cases r1 with
  | int i =>
    intro r e Q post
    cases e
    exact ⟨i, rfl, post (some i) c1 G1 H1 L1 .refl s1 rfl rfl⟩
  | _ => exact run_fail
def rSlU (K : PySem.W.Frag) : V → Option Int → Option Int → Hp → VK → Prop := fun x lo hi H Q => rSlL K x lo hi H Q ∨ rSlA K x lo hi H Q ∨ rSlS x lo hi H Q
theorem SlR.or {X : Cx} {r r' : V → Option Int → Option Int → Hp → VK → Prop} (h : SlR X r) (h' : SlR X r') : SlR X (fun x lo hi H Q => r x lo hi H Q ∨ r' x lo hi H Q) := by
  intro pins s σ H x v vl vu lo hi sl Q I rx hs pl pu q
  rcases q with q | q
  · exact h pins s σ H x v vl vu lo hi sl Q I rx hs pl pu q
  · exact h' pins s σ H x v vl vu lo hi sl Q I rx hs pl pu q
theorem sl_U {X : Cx} : SlR X (rSlU X.K) := SlR.or sl_list (SlR.or sl_tupA sl_str)
def slD (x : D) (lo hi : Option Int) : Option D := match x with
  | .lst ds => some (.lst (cutD ds lo hi))
  | .scr ns => some (.lst (cutD (ns.map .int) lo hi))
  | .tup ds => some (.tup (cutD ds lo hi))
  | .str z => if z.length ≤ 16777216 then some (.str (cutS z lo hi)) else none
  | _ => none
def fSl (a : FE) (l h : FO) : FE := FM.bind (fV a) fun x => FM.bind l fun lo => FM.bind h fun hi => fR (fOf (slD x lo hi))
theorem cut_all {ds : List D} {lo hi : Option Int} (h : HT.sIx ds.length 0 lo = 0 ∧ HT.sIx ds.length ds.length hi = ds.length) : cutD ds lo hi = ds := by
  unfold cutD
  rw [h.1, h.2]; simp
theorem sim_sl {tl th : TO} {fl fh : FO} (h : SimE K W te fa) (hl : SimO K W tl fl) (hh : SimO K W th fh) : SimE K W (tSl (rSlU K) te tl th) (fSl fa fl fh) := fun P σ c G H Γ L s => by
  unfold fSl
  refine Run.bind (t2 := fun x H1 Q => tl σ H1 fun l H2 => th σ H2 fun u H3 => rSlU K x l u H3 Q) s.iv (sim_val h P σ c G H Γ L s) fun d Γ1 u c1 G1 H1 L1 g1 s1 e1 r1 => ?_
  refine Run.bind (t2 := fun l H2 Q => th σ H2 fun v H3 => rSlU K u l v H3 Q) s1.iv (hl P σ c1 G1 H1 Γ1 L1 s1) fun lo Γ2 lo' c2 G2 H2 L2' g2 s2 e2 r2 => ?_
  have r2 : lo' = lo := r2
  subst r2
  refine Run.bind (t2 := fun v H3 Q => rSlU K u lo' v H3 Q) s2.iv (hh P σ c2 G2 H2 Γ2 L2' s2) fun hi Γ3 hi' c3 G3 H3 L3 g3 s3 e3 r3 => ?_
  have r3 : hi' = hi := r3
  subst r3
  have r1 : At K G3 u d := At.mono g3.g (At.mono g2.g r1)
  refine run_of s3 fun z ez Q q => ?_
  cases r1 with
  | @lst p vs ds hp l =>
    cases ez
    refine .inl ⟨p, vs, rfl, ext_lst s3.iv.i hp, fun np hn => ?_⟩
    have gn := PG.new (G := G3) (o := .lst (cutV vs lo' hi')) s3.iv.i hn
    exact q _ _ _ gn (.lst upd_same ((cut_at l _ _).mono gn.g))
  | @scr p ns hp =>
    cases ez
    refine .inl ⟨p, _, rfl, (hp.ext s3.iv.i).seq, fun np hn => ?_⟩
    have gn := PG.new (G := G3) (o := .lst (cutV (ns.map V.int) lo' hi')) s3.iv.i hn
    exact q _ _ _ gn (.lst upd_same ((cut_at (atl_ints ns) _ _).mono gn.g))
  | @tup p vs ds hp l =>
    cases ez
    refine .inr (.inl ⟨p, vs, rfl, sqT_ext hp s3.iv.i, fun hall => ?_, fun _ np hn => ?_⟩)
    · rw [l.length] at hall
      refine q _ G3 H3 (PG.refl s3.iv.i) (.tup hp ?_)
      rw [cut_all hall]; exact l
    · have gn := PG.new (G := G3) (o := .tup (cutV vs lo' hi')) s3.iv.i hn
      exact q _ _ _ gn (.tup (.inl (.inl upd_same)) ((cut_at l _ _).mono gn.g))
  | str s =>
    have ez : (if s.length ≤ 16777216 then some (D.str (cutS s lo' hi')) else none) = some z := ez
    split at ez
    · rename_i hs
      cases ez
      exact .inr (.inr ⟨s, rfl, by rw [sizeLine_eq]; exact hs, q _ G3 H3 (PG.refl s3.iv.i) (.str _)⟩)
    · cases ez
  | _ => cases ez
end
end DF

set_option linter.all false
set_option maxRecDepth 100000
set_option maxHeartbeats 4000000
namespace DF
open PySem PySem.Spec PyProof.Rows L2
variable [TbC]
/-! ### an own == with any right side; != over it; str of an instance with an own __str__ -/
structure EqC (K : PySem.W.Frag) (C f : Addr) : Prop where
  eqF : PySem.W.findIn K (.ref C) "__eq__" = some (some (.ref f))
  isF : PySem.W.isFn K (.ref f) = true
  cls : ∃ (nm q : Str) (Ns : Addr) (bs : List Value) (hd : Bool) (sn : List Str) (sub : List Value) (ab : Bool) (col : Option Bool) (dd : Option Addr) (k0 k1 k2 k3 k5 : Option Value) (newId : String),
    K.lookup C = some (excClassObj nm q C Ns bs [.type "object"] hd sn sub ab col dd k0 k1 k2 k3 k5 newId) ∧ PySem.W.nsOkIn K Ns = true ∧ PySem.W.nsIn K Ns "__eq__" = some (some (.ref f)) ∧ PySem.W.nsIn K Ns "__ne__" = some none
theorem ns_get {K : PySem.W.Frag} {h : Heap} {B : Addr} {m : Str → Option Value} {x : Str} {v : Value} (X : K.In h) (hm : h.Ns B m) (e : PySem.W.nsIn K B x = some (some v)) : m x = some v := by
  obtain ⟨o, es, ep, ho, hd, _, look⟩ := hm
  unfold PySem.W.nsIn at e
  cases k : K.lookup B with
  | none => rw [k] at e; cases e
  | some ob =>
    have eq := X _ _ k
    rw [ho] at eq
    cases Option.some.inj eq
    obtain ⟨c, dd, dat, sl⟩ := o
    cases hd
    rw [k] at e
    simp only at e
    rw [← look]
    unfold nsFind findBy
    rw [← Array.find?_toList]
    cases z : List.find? (fun en => en.key.isStr x) es.toList with
    | none => rw [z] at e; simp only at e; split at e <;> cases e
    | some en =>
      rw [z] at e
      have := Option.some.inj (Option.some.inj e)
      simp only [Value.isStrOf] at *
      first | (rw [z]; exact congrArg some this) | (simp_all)
section
variable {prog : Program} {w : World} {A : Around} {E : Value → Shared → Prop} {h : Heap} {g : Array GenState} {d : Drawn} {t : Nat} {os : OsState} {C x f : Addr} {B : String} {bm : List Value} {b : Value}
theorem objNeU (X : h.OwnEqNoNe x C f B bm) (hu : A.units < cLine) {Q : Fin → Shared → Prop}
    (hcall : wpAny (model prog w) A (call (.ref f) [.ref x, b]) (fun v s' => ∃ b, v = .bool b ∧ Q (.done (.ret (.bool (!b)))) s') E ⟨h, g, d, t, os⟩) :
    wpAny (model prog w) A (Builtin.«object.__ne__» ⟨[.ref x, b], []⟩) Q E ⟨h, g, d, t, os⟩ := by
  unfold Builtin.«object.__ne__»
  repeat (first
    | with_reducible refine wpAny_cRoomFor hu ?_
    | (refine wpAny_bind (m := callSpecialIfBound? (.ref x) (Str.ofString "__eq__") [b])
        (wpAny_callSpecialIfBound?_own X.ownEq (wpAny_mono hcall (fun r s' hr => by
          obtain ⟨b, rfl, hq⟩ := hr
          repeat (first | exact hq | exact wpAny_pure hq | exact wpAny_truthy_bool hq | (refine wpAny_bind (m := truthy (.bool _)) (wpAny_truthy_bool ?_)) | wp_step)) fun _ _ e => e)))
    | wp_step)
theorem tryNeU (FB : CmpFacts B bm) (X : h.OwnEqNoNe x C f B bm) (hu : A.units + 1 < cLine) {Q : Option Value → Shared → Prop}
    (hcall : wpAny (model prog w) A.in1 (call (.ref f) [.ref x, b]) (fun v s' => ∃ b, v = .bool b ∧ Q (some (.bool (!b))) s') E ⟨h, g, d, t, os⟩) :
    wpAny (model prog w) A (tryCompare (.ref x) "__ne__" b) Q E ⟨h, g, d, t, os⟩ := by
  obtain ⟨o, of, nm, q, N, bs, hdct, sn, sub, ab, col, dd, k0, k1, k2, k3, k5, newId, mN, yv, hx, hc, hC, hn, _, _, _, _, _, hne⟩ := id X
  simp only [tryCompare]
  refine wpAny_bind (wpAny_callSpecialIfBound?_inst hx hc hC hn hne FB.mro FB.ne (wpAny_call (codeAny_call_builtin FB.ne.plain F.cmpEntry_ne
    (wpAny_check_slot_inst F.cmpKind_ne F.cmpSplit_ne (F.cmpArgs_ne _ _) FB.hasObject hx hc hC
      (objNeU (A := A.in1) X hu (wpAny_mono hcall (fun v s' hv => ?_) fun _ _ e => e))))))
  obtain ⟨b, rfl, hq⟩ := hv
  first | exact ⟨b, rfl, wpAny_pure hq⟩ | exact ⟨b, rfl, wpAny_pure (wpAny_pure hq)⟩ | exact ⟨b, rfl, hq⟩
theorem richNeU {K : PySem.W.Frag} {tb : Value} (KI : K.In h) (FB : CmpFacts B bm) (X : h.OwnEqNoNe x C f B bm) (hb : PySem.W.Looks (model prog w) h (typeOf b) tb) (hn : PySem.W.notFirst K C tb = true) (hu : A.units + 1 < cLine) {Q : Value → Shared → Prop}
    (hcall : wpAny (model prog w) A.in1 (call (.ref f) [.ref x, b]) (fun v s' => ∃ b, v = .bool b ∧ Q (.bool (!b)) s') E ⟨h, g, d, t, os⟩) :
    wpAny (model prog w) A (richCompare .NotEq (.ref x) b) Q E ⟨h, g, d, t, os⟩ := by
  have X' := X
  obtain ⟨o, of, nm, q, N, bs, hdct, sn, sub, ab, col, dd, k0, k1, k2, k3, k5, newId, mN, yv, hx, hc, _⟩ := X'
  have one : wpAny (model prog w) A (tryCompare (.ref x) "__ne__" b) (fun r s' => ∃ v, r = some v ∧ Q v s') E ⟨h, g, d, t, os⟩ := by
    refine tryNeU FB X hu (wpAny_mono hcall (fun v s' hv => ?_) fun _ _ e => e)
    obtain ⟨b, rfl, hq⟩ := hv
    exact ⟨b, rfl, _, rfl, hq⟩
  unfold richCompare
  simp only [oneThing_ref]
  refine wpAny_holding ?_
  refine wpAny_bind (wpAny_cRoomFor (Nat.lt_of_succ_lt hu) ?_)
  rw [cmpInfo_NotEq]
  dsimp only
  refine wpAny_bind (wpAny_typeOf_ref hx ?_)
  rw [hc]
  refine wpAny_bind (hb.here ?_)
  split
  · rename_i q
    have e : PySem.W.subIn K tb (.ref C) = some false := by
      rcases Bool.or_eq_true_iff.mp hn with e | e
      · rw [beq_iff_eq.mp e] at q; simp at q
      · exact beq_iff_eq.mp e
    refine wpAny_bind ((PySem.W.looks_subIn KI e).here ?_)
    simp only [Bool.false_eq_true, if_false]
    refine wpAny_bind (wpAny_mono one (fun r s' z => ?_) fun _ _ e => e)
    obtain ⟨v, rfl, hq⟩ := z
    exact wpAny_pure hq
  · refine wpAny_bind (wpAny_pure ?_)
    simp only [Bool.false_eq_true, if_false]
    refine wpAny_bind (wpAny_mono one (fun r s' z => ?_) fun _ _ e => e)
    obtain ⟨v, rfl, hq⟩ := z
    exact wpAny_pure hq
end
section
variable {X : Cx} {n : Nat} {C f : Addr} {fd : FuncData} {ps : List Str} {sp : Sp}
theorem own_run {pins : List (Addr × Obj)} {σ : L2.St} {H : Hp} {s : Shared} {A : Around} {vs : List V} {us : List Value} {Z : V → Hp → Prop} {R : Value → Shared → Prop} (F : FnOk X.prog X.w X.K X.mg X.base CX0 n f fd ps sp) (hb : Binds X.K fd ps []) (hrm : Room n A) (hfr : A.frames = X.A.frames)
    (I : Inv X pins σ H s) (r2 : Vals vs us) (h : sp vs H Z fun _ _ _ => False) (k : ∀ v u s' H', Inv X pins σ H' s' → RelV v u → Z v H' → R u s') : wpAny (model X.prog X.w) A (call (.ref f) us) R X.xe s := by
  have e0 : Env0 X.prog X.w X.K X.mg X.base A X.stack s H := by
    have e := I.env0
    exact ⟨by rw [hfr]; exact e.frames, e.mod, e.bs, e.bsz, e.funs, e.frf, e.hok, e.bare⟩
  have hl := F.len _ _ _ _ h
  have bb : BindsTo s fd ⟨us, []⟩ (ps.zip us) := by
    have := hb s us I.kIn (by rw [List.append_nil, ← r2.length]; exact hl)
    rwa [List.append_nil] at this
  refine wpAny_call (codeAny_mono (F.run A X.stack s H _ _ _ _ _ hrm e0 bb r2 h) fun r s' hq => ?_)
  match r, hq with
  | .error e, hq => exact hq.elim
  | .ok (.ret w), hq =>
    obtain ⟨z, H', I', rz, q⟩ := I.after hq
    exact k z w s' H' I' rz q
/-- what the type of a value is, of those that do not come ahead of the class at C -/
def TyR (K : PySem.W.Frag) (C : Addr) (H : Hp) (y : V) : Prop := ∃ tb, PySem.W.notFirst K C tb = true ∧ TyX K H y tb
def rOwn (K : PySem.W.Frag) (C : Addr) (sp : Sp) (neg : Bool) : R2 := fun x y H Q => ∃ a dx fs, x = .ref a ∧ H a = some (.ins C dx fs) ∧ TyR K C H y ∧ sp [x, y] H (fun v H' => ∃ c, v = .bl c ∧ Q (.bl (neg != c)) H') fun _ _ _ => False
theorem looks_tyR {pins : List (Addr × Obj)} {σ : L2.St} {H : Hp} {s : Shared} {y : V} {u : Value} (I : Inv X pins σ H s) (ry : RelV y u) (h : TyR X.K C H y) : ∃ tb, PySem.W.notFirst X.K C tb = true ∧ PySem.W.Looks (model X.prog X.w) s.heap (typeOf u) tb := by
  obtain ⟨tb, hn, ht⟩ := h
  refine ⟨tb, hn, ?_⟩
  obtain ⟨Pr, kx, hp, _⟩ := kit_of I ry ht
  exact kx.ty _ _ I.kIn hp
theorem op_eqI (T : EqC X.K C f) (F : FnOk X.prog X.w X.K X.mg X.base CX0 n f fd ps sp) (hb : Binds X.K fd ps []) (hr : Room n X.A) : OpR X (compareOp .Eq) (rOwn X.K C sp false) := by
  intro pins s σ H x y v u Q I rx ry h
  obtain ⟨a, dx, fs, rfl, ha, hy, hsp⟩ := h
  cases rx
  obtain ⟨mA, J, _⟩ := ins_get I.hok ha
  obtain ⟨od, J, _⟩ := J.look
  obtain ⟨m, hF⟩ := I.fr
  obtain ⟨tb, hn, hl⟩ := looks_tyR I ry hy
  show wpAny (model X.prog X.w) X.A (richCompare .Eq (.ref a) u) _ _ _
  refine PySem.W.cmp_K (op := .Eq) (tb := tb) hr.units0 hF I.ok.mod.kin J hl hn T.eqF T.isF ?_
  refine own_run F hb hr rfl I (.cons (show RelV (V.ref a) (Value.ref a) from rfl) (.cons ry .nil)) hsp fun w' u' s' H' I' rz ⟨c, ec, q⟩ => ?_
  subst ec
  cases rz
  show EP X pins σ Q (.bool c) s'
  refine ⟨.bl c, H', I', rfl, ?_⟩
  cases c <;> exact q
theorem op_neI (T : EqC X.K C f) (F : FnOk X.prog X.w X.K X.mg X.base CX0 n f fd ps sp) (hb : Binds X.K fd ps []) (hr : Room (n + 1) X.A) : OpR X (compareOp .NotEq) (rOwn X.K C sp true) := by
  intro pins s σ H x y v u Q I rx ry h
  obtain ⟨a, dx, fs, rfl, ha, hy, hsp⟩ := h
  cases rx
  obtain ⟨tb, hnf, hl⟩ := looks_tyR I ry hy
  obtain ⟨nm, q, Ns, bs, hd, sn, sub, ab, col, dd, k0, k1, k2, k3, k5, newId, hC, hok, he, hne⟩ := T.cls
  obtain ⟨hp, g, dr, tk, os⟩ := s
  have KI : X.K.In hp := I.kIn
  have tF := T.isF
  have hf : ∃ of : Obj, hp.get? f = some of ∧ of.cls = .type "function" := by
    have tG : (X.K.lookup f).map (·.cls) = some (.type "function") := by simpa [PySem.W.isFn, PySem.W.typeIn] using tF
    cases e : X.K.lookup f with
    | none => rw [e] at tG; cases tG
    | some o => rw [e] at tG; exact ⟨o, KI _ _ e, Option.some.inj tG⟩
  obtain ⟨of, hfo, hfc⟩ := hf
  obtain ⟨oa, ha1, ha2⟩ : ∃ o : Obj, hp.get? a = some o ∧ o.cls = .ref C := by
    obtain ⟨_, _, _, e, _⟩ := I.hok a _ ha
    exact ⟨_, e, rfl⟩
  have own : hp.OwnEqNoNe a C f "object" [.type "object"] :=
    ⟨oa, of, nm, q, Ns, bs, hd, sn, sub, ab, col, dd, k0, k1, k2, k3, k5, newId, hp.nsMap Ns, _, ha1, ha2, KI _ _ hC, .of_isNs (PySem.W.isNs_of_in KI hok), ns_get KI (.of_isNs (PySem.W.isNs_of_in KI hok)) he, hfo, hfc, PySem.F.mro_object, by rw [typeLookup_type]; rfl, PySem.W.nsMap_none_of_in KI hok hne⟩
  show wpAny (model X.prog X.w) X.A (richCompare .NotEq (.ref a) u) _ _ _
  refine richNeU KI PySem.F.cmp_object own hl hnf (by have := hr.un; omega) ?_
  refine own_run F hb (hr.in1) rfl I (.cons (show RelV (V.ref a) (Value.ref a) from rfl) (.cons ry .nil)) hsp fun w' u' s' H' I' rz ⟨c, ec, q⟩ => ?_
  subst ec
  cases rz
  refine ⟨c, rfl, .bl (!c), H', I', rfl, ?_⟩
  cases c <;> exact q
/-- str(x), x with an own __str__ -/
structure StrC (K : PySem.W.Frag) (C f : Addr) : Prop where
  stF : PySem.W.findIn K (.ref C) "__str__" = some (some (.ref f))
  isF : PySem.W.isFn K (.ref f) = true
def rStrI (C : Addr) (sp : Sp) : List V → Hp → VK → Prop := fun xs H Q => ∃ a dx fs, xs = [.ref a] ∧ H a = some (.ins C dx fs) ∧ sp [.ref a] H (fun v H' => ∃ z, v = .str z ∧ Q (.str z) H') fun _ _ _ => False
end
end DF

set_option linter.all false
set_option maxRecDepth 100000
set_option maxHeartbeats 4000000
namespace DF
open PySem PySem.Spec PyProof.Rows L2
variable [TbC]
section
variable {K : PySem.W.Frag} {G G' H H' H0 H1 G1 : Hp} {P : List Addr} {σ σ' : L2.St} {Γ Γ' Γ1 : EnvF} {L L' L1 : List (Addr × OD)} {c c' c1 : Ow} {W : WX}
variable {ta tb te to ti : TE} {t tr tk : TA} {fa fb fc fe fo fi : FE} {fs fr fk : FA} {tt tu : TT} {ft fu : FT} {E : XK} {ts tw : TS} {fS fT : FS}
/-! ### a look at what is one's own, seen as values -/
def seeO : Sl → Sl
  | .own _ o => match odD o with | some d => .val d | none => .no
  | x => x
def flat : D → Bool
  | .non | .bl _ | .int _ | .str _ | .ty _ | .cls _ => true
  | _ => false
def fPk (f : FE) : FE := fun Γ => match f (Γ.map seeO) with
  | some (.ok (.val d) _) => if flat d = true then some (.ok (.val d) Γ) else none
  | _ => none
def fPkT (f : FT) : FT := fun Γ => match f (Γ.map seeO) with
  | some (.ok b _) => some (.ok b Γ)
  | _ => none
/-! ### lists of one's own -/
def hasOwn {α : Type} (i : Nat) (f : FM α) : FM α := fun Γ => match Γ[i]? with
  | some (.own _ _) => f Γ
  | _ => none
theorem hasOwn_at {α : Type} {i : Nat} {f : FM α} {r : Rt α} (s : Sta K P c G H σ Γ L) (e : hasOwn i f Γ = some r) : f Γ = some r ∧ ∃ p, σ[i]? = some (some (V.ref p)) := by
  unfold hasOwn at e
  cases ei : Γ[i]? with
  | none => rw [ei] at e; cases e
  | some x =>
    rw [ei] at e
    cases x with
    | own k o => obtain ⟨p, q1, _⟩ := s.r.getO ei; exact ⟨e, p, q1⟩
    | _ => cases e
/-- the list in a slot -/
def lstAt (i : Nat) (Γ : EnvF) : Option (Nat × List D) := match Γ[i]? with
  | some (.own k (.lst ds)) => some (k, ds)
  | _ => none
theorem lstAt_at {i k : Nat} {ds : List D} {p : Addr} (s : Sta K P c G H σ Γ L) (hp : σ[i]? = some (some (V.ref p))) (e : lstAt i Γ = some (k, ds)) : Γ[i]? = some (.own k (.lst ds)) ∧ ∃ vs, H p = some (.lst vs) ∧ AtL K G vs ds := by
  unfold lstAt at e
  split at e
  · rename_i k' ds' ei
    cases e
    obtain ⟨p', q1, q2, _⟩ := s.r.getO ei
    have ep : p' = p := by rw [hp] at q1; injection q1 with q1; injection q1 with q1; injection q1 with q1; exact q1.symm
    subst ep
    exact ⟨ei, (s.iv.ow _ _ (s.ow _ q2)).2⟩
  · cases e
/-- x[i] -/
def fIxO (i : Nat) (b : FE) : FE := hasOwn i (FM.bind (fV b) fun y Γ => match lstAt i Γ, y with
  | some (_, ds), .int j => (atI ds j).map fun d => .ok (.val d) Γ
  | _, _ => none)
theorem sim_ixO {i : Nat} (hb : SimE K W tb fb) : SimE K W (tOp (rIx K) (tVar i) tb) (fIxO i fb) := fun P σ c G H Γ L s r e Q post => by
  obtain ⟨e, p, hp⟩ := hasOwn_at s e
  rcases FM.bind_some e with ⟨y, Γ1, e1, e2⟩ | ⟨cn', fl, d, Γ1, e1, er⟩
  · refine ⟨.ref p, hp, sim_val hb P σ c G H Γ L s _ e1 _ ?_⟩
    intro u c1 G1 H1 L1 g1 s1 e1' r1
    have r1 : At K G1 u y := r1
    cases el : lstAt i Γ1 with
    | none => rw [el] at e2; cases e2
    | some kd =>
      obtain ⟨k, ds⟩ := kd
      rw [el] at e2
      obtain ⟨ei, vs, hv, l⟩ := lstAt_at s1 hp el
      cases y with
      | int j =>
        cases r1
        simp only [Option.map_eq_some_iff] at e2
        obtain ⟨d, ed, er⟩ := e2
        subst er
        obtain ⟨w, h1, h2⟩ := atI_of l ed
        exact .inl ⟨p, vs, j, w, rfl, rfl, .inl (.inl hv), h1, post w c1 G1 H1 L1 g1 s1 e1' h2⟩
      | _ => cases e2
  · subst er
    exact ⟨.ref p, hp, sim_val hb P σ c G H Γ L s _ e1 _ post⟩
/-- x.append(e) -/
def fApp (i : Nat) (b : FE) : FE := hasOwn i (FM.bind (fV b) fun y Γ => match lstAt i Γ with
  | some (k, ds) => if ds.length < 16777216 then some (.ok (.val .non) (Γ.set i (.own k (.lst (ds ++ [y]))))) else none
  | none => none)
theorem tyV_lst {p : Addr} {vs : List V} (h : H p = some (.lst vs)) : tyV K "list" (.ref p) H := .inl ⟨rfl, vs, .inl (.inl h)⟩
def hasLst {α : Type} (i : Nat) (f : FM α) : FM α := fun Γ => match lstAt i Γ with
  | some _ => f Γ
  | none => none
theorem hasLst_at {α : Type} {i : Nat} {f : FM α} {r : Rt α} (s : Sta K P c G H σ Γ L) (e : hasLst i f Γ = some r) : f Γ = some r ∧ ∃ p vs, σ[i]? = some (some (V.ref p)) ∧ H p = some (.lst vs) := by
  unfold hasLst at e
  cases el : lstAt i Γ with
  | none => rw [el] at e; cases e
  | some kd =>
    rw [el] at e
    obtain ⟨k, ds⟩ := kd
    have el' := el
    unfold lstAt at el
    split at el
    · rename_i k' ds' ei
      obtain ⟨p, q1, _⟩ := s.r.getO ei
      obtain ⟨_, vs, h1, _⟩ := lstAt_at s q1 el'
      exact ⟨e, p, vs, q1, h1⟩
    · cases el
def fAppend (i : Nat) (b : FE) : FE := hasLst i (FM.bind (fV b) fun y Γ => match lstAt i Γ with
  | some (k, ds) => if ds.length < 16777216 then some (.ok (.val .non) (Γ.set i (.own k (.lst (ds ++ [y]))))) else none
  | none => none)
theorem sim_append {i : Nat} (hb : SimE K W tb fb) : SimE K W (tBM K "list" rAppend (tVar i) (tCons tb tNil)) (fAppend i fb) := fun P σ c G H Γ L s r e Q post => by
  obtain ⟨e, p, vs0, hp, hv0⟩ := hasLst_at s e
  refine ⟨.ref p, hp, tyV_lst hv0, ?_⟩
  rcases FM.bind_some e with ⟨y, Γ1, e1, e2⟩ | ⟨cn', fl, d, Γ1, e1, er⟩
  · refine sim_val hb P σ c G H Γ L s _ e1 _ ?_
    intro u c1 G1 H1 L1 g1 s1 e1' r1
    cases el : lstAt i Γ1 with
    | none => rw [el] at e2; cases e2
    | some kd =>
      obtain ⟨k, ds⟩ := kd
      rw [el] at e2
      obtain ⟨ei, vs, hv, l⟩ := lstAt_at s1 hp el
      have e2 : (if ds.length < 16777216 then some (Rt.ok (Vr.val .non) (Γ1.set i (.own k (.lst (ds ++ [y]))))) else none) = some r := e2
      split at e2
      · rename_i hl
        cases e2
        obtain ⟨L2', g2, s2, n2⟩ := set_own_core (ho := .lst (vs ++ [u])) s1 ei hp (o' := .lst (ds ++ [y])) ⟨_, upd_same, l.append (.cons r1 .nil)⟩
        exact ⟨p, vs, u, rfl, rfl, hv, by rw [l.length, sizeLine_eq]; exact hl, post .non _ _ _ L2' (g1.trans' s.iv g2 (fun _ z => z) fun b z => .inl (by unfold TL at z ⊢; rwa [e1'] at z)) s2 (n2.trans e1') .non⟩
      · cases e2
  · subst er
    exact sim_val hb P σ c G H Γ L s _ e1 _ post
/-- x.pop() -/
def fPop (i : Nat) : FE := fun Γ => match lstAt i Γ with
  | some (k, ds) => (ds[ds.length - 1]?).map fun d => .ok (.val d) (Γ.set i (.own k (.lst ds.dropLast)))
  | none => none
/-- x[i] = .. -/
def pSub (i : Nat) (b : FE) : D → FM Unit := fun d => hasOwn i (FM.bind (fV b) fun y Γ => match lstAt i Γ, y with
  | some (k, ds), .int j => (ixN ds.length j).map fun n => .ok () (Γ.set i (.own k (.lst (ds.set n d))))
  | _, _ => none)
theorem sim_gsub {i : Nat} (hb : SimE K W tb fb) : SimG K W [] (gSub (tVar i) tb rSetL) (pSub i fb) := fun P σ c G H Γ L s u d a r e Q q qx => by
  obtain ⟨e, p, hp⟩ := hasOwn_at s e
  rcases FM.bind_some e with ⟨y, Γ1, e1, e2⟩ | ⟨cn', fl, d', Γ1, e1, er⟩
  · refine ⟨.ref p, hp, sim_val hb P σ c G H Γ L s _ e1 _ ?_⟩
    intro u1 c1 G1 H1 L1 g1 s1 e1' r1
    have r1 : At K G1 u1 y := r1
    cases el : lstAt i Γ1 with
    | none => rw [el] at e2; cases e2
    | some kd =>
      obtain ⟨k, ds⟩ := kd
      rw [el] at e2
      obtain ⟨ei, vs, hv, l⟩ := lstAt_at s1 hp el
      cases y with
      | int j =>
        cases r1
        simp only [Option.map_eq_some_iff] at e2
        obtain ⟨n, en, er⟩ := e2
        subst er
        obtain ⟨L2', g2, s2, n2⟩ := set_own_core (ho := .lst (vs.set n u)) s1 ei hp (o' := .lst (ds.set n d)) ⟨_, upd_same, l.set n (a.mono g1.g)⟩
        exact ⟨p, vs, j, n, rfl, rfl, hv, by rw [l.length]; exact en, q _ rfl σ _ _ _ L2' .refl (g1.trans' s.iv g2 (fun _ z => z) fun b z => .inl (by unfold TL at z ⊢; rwa [e1'] at z)) s2 (tl_of (n2.trans e1'))⟩
      | _ => cases e2
  · subst er
    exact ⟨.ref p, hp, sim_val hb P σ c G H Γ L s _ e1 _ (qx _ _ _ _ rfl)⟩
/-! x += e -/
def fAug (i : Nat) (f : D → D → Option D) (b : FE) : FS := fun Γ => match Γ[i]? with
  | some (.val x) => FM.bind (fV b) (fun y Γ1 => (f x y).map fun z => .ok .nx (Γ1.set i (.val z))) Γ
  | _ => none
def SimIp (K : PySem.W.Frag) (r : TIp) (f : D → D → Option D) : Prop := SimR2 K r f
/-! ### truth -/
def truD : D → Option Bool
  | .non => some false | .bl b => some b | .int i => some (i != 0)
  | .str z => if z.length ≤ 16777216 then some ((z.length : Int) != 0) else none
  | .tup ds => some !ds.isEmpty | .lst ds => some !ds.isEmpty | .dct ds => some !ds.isEmpty | _ => none
abbrev tTru (K : PySem.W.Frag) (ta : TE) : TT := fun σ H Q => ta σ H fun x H' => ∃ k, TruV K x H' k ∧ Q k H'
def fTru (a : FE) : FT := FM.bind (fV a) fun x => fOf (truD x)
theorem sim_tru (ha : SimE K W ta fa) : SimT K W (tTru K ta) (fTru fa) := fun P σ c G H Γ L s => by
  unfold fTru
  refine Run.bind (R' := eqR Bool) (t2 := fun x H1 Q => ∃ k, TruV K x H1 k ∧ Q k H1) s.iv (sim_val ha P σ c G H Γ L s) fun x Γ1 u c1 G1 H1 L1 g1 s1 e1 r1 => ?_
  have r1 : At K G1 u x := r1
  intro r e Q post
  cases ex : truD x with
  | none => rw [ex] at e; cases e
  | some b =>
    rw [ex] at e
    cases e
    refine ⟨b, ?_, post b c1 G1 H1 L1 .refl s1 rfl rfl⟩
    have emp : ∀ {vs : List V} {ds : List D}, AtL K G1 vs ds → (!ds.isEmpty) = !vs.isEmpty := fun l => by cases l <;> rfl
    cases r1 with
    | non => cases ex; rfl
    | bl => cases ex; rfl
    | int => cases ex; rfl
    | str z =>
      have ex : (if z.length ≤ 16777216 then some ((z.length : Int) != 0) else none) = some b := ex
      split at ex
      · rename_i hz; cases ex; exact ⟨by rw [sizeLine_eq]; exact hz, rfl⟩
      · cases ex
    | tup hp l => cases ex; exact .inr (.inl ⟨_, sqT_ext hp s1.iv.i, emp l⟩)
    | lst hp l => cases ex; exact .inl ⟨_, ext_lst s1.iv.i hp, emp l⟩
    | dct hp l => cases ex; exact .inr (.inr ⟨_, s1.iv.i _ _ hp, by cases l <;> rfl⟩)
    | _ => cases ex
end
end DF

set_option linter.all false
set_option maxRecDepth 100000
set_option maxHeartbeats 4000000
namespace DF
open PySem PySem.Spec PyProof.Rows L2
variable [TbC]
section
variable {K : PySem.W.Frag} {G G' H H' H0 H1 G1 : Hp} {P : List Addr} {σ σ' : L2.St} {Γ Γ' Γ1 : EnvF} {L L' L1 : List (Addr × OD)} {c c' c1 : Ow} {W : WX}
variable {ta tb te to ti : TE} {t tr tk : TA} {fa fb fc fe fo fi : FE} {fs fr fk : FA} {tt tu : TT} {ft fu : FT} {E : XK} {ts tw : TS} {fS fT : FS}
theorem SimC.or {r r' : List V → Hp → VK → Prop} {f g : List D → Option D} (h : SimC K r f) (h' : SimC K r' g) : SimC K (fun xs H Q => r xs H Q ∨ r' xs H Q) (fun xs => match f xs with | some z => some z | none => g xs) := by
  intro x z e G H u i hu Q q
  have bs := i
  have i := bs.i
  dsimp only at e
  cases ef : f x with
  | some z' => rw [ef] at e; cases e; exact .inl (h x z ef G H u bs hu Q q)
  | none => rw [ef] at e; exact .inr (h' x z e G H u bs hu Q q)
/-! ### built-ins -/
def lenD : List D → Option D
  | [.str z] => if z.length ≤ 16777216 then some (.int z.length) else none
  | [.lst ds] => some (.int ds.length)
  | [.tup ds] => some (.int ds.length)
  | [.scr ns] => some (.int ns.length)
  | _ => none
abbrev rLen (K : PySem.W.Frag) : List V → Hp → VK → Prop := fun xs H Q => ∃ x n, xs = [x] ∧ LenV K x H n ∧ Q (.int n) H
theorem sim_len : SimC K (rLen K) lenD := by
  intro xs z e G H us i l Q q
  have bs := i
  have i := bs.i
  unfold lenD at e
  split at e
  · split at e
    · rename_i s hs
      cases e
      obtain ⟨u, eu, h⟩ := atl1 l; subst eu; cases h
      exact ⟨_, _, rfl, ⟨by rw [sizeLine_eq]; exact hs, rfl⟩, q _ G H (PG.refl i) (.int _)⟩
    · cases e
  · cases e
    obtain ⟨u, eu, h⟩ := atl1 l; subst eu
    cases h with
    | lst hp l => exact ⟨_, _, rfl, .inl ⟨_, ext_lst i hp, l.length.symm⟩, q _ G H (PG.refl i) (.int _)⟩
  · cases e
    obtain ⟨u, eu, h⟩ := atl1 l; subst eu
    cases h with
    | tup hp l => exact ⟨_, _, rfl, .inr ⟨_, sqT_ext hp i, l.length.symm⟩, q _ G H (PG.refl i) (.int _)⟩
  · cases e
    obtain ⟨u, eu, h⟩ := atl1 l; subst eu
    cases h with
    | scr hp => exact ⟨_, _, rfl, .inl ⟨_, (hp.ext i).seq, by simp⟩, q _ G H (PG.refl i) (.int _)⟩
  · cases e
def absD : List D → Option D
  | [.int i] => some (.int (if i < 0 then -i else i))
  | _ => none
theorem sim_abs : SimC K (fun xs H Q => ∃ i, xs = [.int i] ∧ Q (.int (if i < 0 then -i else i)) H) absD := by
  intro xs z e G H us i l Q q
  have bs := i
  have i := bs.i
  unfold absD at e
  split at e
  · cases e; obtain ⟨u, eu, h⟩ := atl1 l; subst eu; cases h; exact ⟨_, rfl, q _ G H (PG.refl i) (.int _)⟩
  · cases e
/-- int(x) of an int, a bool, a text -/
abbrev rInt : List V → Hp → VK → Prop := fun xs H Q => ((∃ i, xs = [.int i] ∧ Q (.int i) H) ∨ ∃ k, xs = [.bl k] ∧ Q (.int (if k then 1 else 0)) H) ∨ ∃ a n, xs = [.str a] ∧ PySem.intText? a = some n ∧ a.length ≤ 640 ∧ Q (.int n) H
theorem call_int {X : Cx} : CallR X (.type "int") rInt := CallR.or call_int1 call_int_str
def intOf : List D → Option D
  | [.int i] => some (.int i)
  | [.bl b] => some (.int (if b then 1 else 0))
  | [.str a] => if a.length ≤ 640 then (PySem.intText? a).map D.int else none
  | _ => none
theorem sim_int1 : SimC K rInt intOf := by
  intro xs z e G H us i l Q q
  have bs := i
  have i := bs.i
  unfold intOf at e
  split at e
  · cases e; obtain ⟨u, eu, h⟩ := atl1 l; subst eu; cases h; exact .inl (.inl ⟨_, rfl, q _ G H (PG.refl i) (.int _)⟩)
  · cases e; obtain ⟨u, eu, h⟩ := atl1 l; subst eu; cases h; exact .inl (.inr ⟨_, rfl, q _ G H (PG.refl i) (.int _)⟩)
  · split at e
    · rename_i a ha
      simp only [Option.map_eq_some_iff] at e
      obtain ⟨n, en, ez⟩ := e
      subst ez
      obtain ⟨u, eu, h⟩ := atl1 l; subst eu; cases h
      exact .inr ⟨_, _, rfl, en, ha, q _ G H (PG.refl i) (.int _)⟩
    · cases e
  · cases e
/-- str(x) of an int, a text -/
abbrev rStr : List V → Hp → VK → Prop := fun xs H Q => (∃ i, xs = [.int i] ∧ i.natAbs.log2 < 1920 ∧ Q (.str (toString i)) H) ∨ ∃ a, xs = [.str a] ∧ Q (.str a) H
def strOf : List D → Option D
  | [.int i] => if i.natAbs.log2 < 1920 then some (.str (toString i)) else none
  | [.str a] => some (.str a)
  | _ => none
def divmodD : List D → Option D
  | [.int i, .int j] => if 0 < j ∧ j < 1073741824 then some (.tup [.int (i / j), .int (i % j)]) else none
  | _ => none
abbrev rDivmod : List V → Hp → VK → Prop := fun xs H Q => ∃ i j, xs = [.int i, .int j] ∧ CDiv i j ∧ ∀ p, H p = none → Q (.ref p) (upd H p (.tup [.int (i / j), .int (i % j)]))
theorem sim_divmod : SimC K rDivmod divmodD := by
  intro xs z e G H us i l Q q
  have bs := i
  have i := bs.i
  unfold divmodD at e
  split at e
  · split at e
    · rename_i a b hj
      cases e; obtain ⟨u, v, eu, h1, h2⟩ := atl2 l; subst eu; cases h1; cases h2
      refine ⟨_, _, rfl, hj, fun p hp => ?_⟩
      have gn := PG.new (G := G) (o := .tup [.int (a / b), .int (a % b)]) i hp
      exact q _ _ _ gn (.tup (.inl (.inl upd_same)) (.cons (.int _) (.cons (.int _) .nil)))
    · cases e
  · cases e
def min2D : List D → Option D
  | [.int i, .int j] => some (.int (if j < i then j else i))
  | _ => none
def max2D : List D → Option D
  | [.int i, .int j] => some (.int (if j > i then j else i))
  | _ => none
def boolsOf : List D → Option (List Bool)
  | [] => some []
  | .bl b :: ds => (boolsOf ds).map (b :: ·)
  | _ => none
theorem bools_at : ∀ {us : List V} {ds : List D} {bs : List Bool}, AtL K G us ds → boolsOf ds = some bs → us = bs.map V.bl
  | _, _, _, .nil, e => by cases e; rfl
  | _, d :: ds, bs, .cons a l, e => by
    cases d with
    | bl b =>
      have e : (boolsOf ds).map (b :: ·) = some bs := e
      simp only [Option.map_eq_some_iff] at e
      obtain ⟨bs', e1, e2⟩ := e
      subst e2
      cases a
      rw [List.map_cons, bools_at l e1]
    | _ => cases e
def allD : List D → Option D
  | [.lst ds] => (boolsOf ds).map fun bs => .bl (bs.all id)
  | _ => none
theorem sim_all : SimC K (rAll K) allD := by
  intro xs z e G H us i l Q q
  have bs := i
  have i := bs.i
  unfold allD at e
  split at e
  · simp only [Option.map_eq_some_iff] at e
    obtain ⟨bs, eb, ez⟩ := e
    subst ez
    obtain ⟨u, eu, h⟩ := atl1 l; subst eu
    cases h with
    | lst hp l =>
      have := bools_at l eb
      subst this
      exact ⟨_, bs, rfl, ext_lst i hp, q _ G H (PG.refl i) (.bl _)⟩
  · cases e
def anyD : List D → Option D
  | [.lst ds] => (boolsOf ds).map fun bs => .bl (bs.any id)
  | _ => none
def intsOf : List D → Option (List Int)
  | [] => some []
  | .int b :: ds => (intsOf ds).map (b :: ·)
  | _ => none
def sumD : List D → Option D
  | [.lst ds] => (intsOf ds).map fun bs => .int bs.sum
  | _ => none
def gcdD : List D → Option D
  | [.int i, .int j] => some (.int ((Nat.gcd i.natAbs j.natAbs : Nat) : Int))
  | _ => none
abbrev rTupOf (K : PySem.W.Frag) : List V → Hp → VK → Prop := fun xs H Q => ∃ p ys, xs = [.ref p] ∧ ((SqL K H p ys ∧ ∀ l, H l = none → Q (.ref l) (upd H l (.tup ys))) ∨ (SqT K H p ys ∧ Q (.ref p) H))
def tupOf : List D → Option D
  | [.lst ds] => some (.tup ds)
  | [.tup ds] => some (.tup ds)
  | [.scr ns] => some (.tup (ns.map .int))
  | _ => none
theorem sim_tupOf : SimC K (rTupOf K) tupOf := by
  intro xs z e G H us i l Q q
  have bs := i
  have i := bs.i
  unfold tupOf at e
  split at e
  · cases e
    obtain ⟨u, eu, h⟩ := atl1 l; subst eu
    cases h with
    | @lst p vs ds hp l =>
      refine ⟨p, vs, rfl, .inl ⟨ext_lst i hp, fun np hn => ?_⟩⟩
      have gn := PG.new (G := G) (o := .tup vs) i hn
      exact q _ _ _ gn (.tup (.inl (.inl upd_same)) (l.mono gn.g))
  · cases e
    obtain ⟨u, eu, h⟩ := atl1 l; subst eu
    cases h with
    | @tup p vs ds hp l => exact ⟨p, vs, rfl, .inr ⟨sqT_ext hp i, q _ G H (PG.refl i) (.tup hp l)⟩⟩
  · cases e
    obtain ⟨u, eu, h⟩ := atl1 l; subst eu
    rename_i ns
    cases h with
    | @scr p _ hp =>
      refine ⟨p, _, rfl, .inl ⟨(hp.ext i).seq, fun np hn => ?_⟩⟩
      have gn := PG.new (G := G) (o := .tup (ns.map V.int)) i hn
      exact q _ _ _ gn (.tup (.inl (.inl upd_same)) (atl_ints ns))
  · cases e
abbrev rLstOf (K : PySem.W.Frag) : List V → Hp → VK → Prop := fun xs H Q => ∃ p ys, xs = [.ref p] ∧ (SqL K H p ys ∨ SqT K H p ys) ∧ ∀ l, H l = none → Q (.ref l) (upd H l (.lst ys))
def lstOf : List D → Option D
  | [.lst ds] => some (.lst ds)
  | [.tup ds] => some (.lst ds)
  | [.scr ns] => some (.lst (ns.map .int))
  | _ => none
theorem sim_lstOf : SimC K (rLstOf K) lstOf := by
  intro xs z e G H us i l Q q
  have bs := i
  have i := bs.i
  unfold lstOf at e
  split at e
  · cases e
    obtain ⟨u, eu, h⟩ := atl1 l; subst eu
    cases h with
    | @lst p vs ds hp l =>
      refine ⟨p, vs, rfl, .inl (ext_lst i hp), fun np hn => ?_⟩
      have gn := PG.new (G := G) (o := .lst vs) i hn
      exact q _ _ _ gn (.lst upd_same (l.mono gn.g))
  · cases e
    obtain ⟨u, eu, h⟩ := atl1 l; subst eu
    cases h with
    | @tup p vs ds hp l =>
      refine ⟨p, vs, rfl, .inr (sqT_ext hp i), fun np hn => ?_⟩
      have gn := PG.new (G := G) (o := .lst vs) i hn
      exact q _ _ _ gn (.lst upd_same (l.mono gn.g))
  · cases e
    obtain ⟨u, eu, h⟩ := atl1 l; subst eu
    rename_i ns
    cases h with
    | @scr p _ hp =>
      refine ⟨p, _, rfl, .inl (hp.ext i).seq, fun np hn => ?_⟩
      have gn := PG.new (G := G) (o := .lst (ns.map V.int)) i hn
      exact q _ _ _ gn (.lst upd_same (atl_ints ns))
  · cases e
/-! ### repr -/
def rReprU (K : PySem.W.Frag) : List V → Hp → VK → Prop := fun xs H Q => (∃ (b : Addr) (d : PyData), xs = [.ref b] ∧ Dp K H (.ref b) d ∧ d.showable = true ∧ d.hasDict = false ∧ d.depth ≤ 64 ∧ d.shown.length ≤ sizeLine ∧ Q (.str d.shown) H) ∨
  (xs = [.non] ∧ Q (.str "None") H) ∨ (∃ i, xs = [.int i] ∧ i.natAbs.log2 < 1920 ∧ Q (.str (toString i)) H) ∨ (∃ b, xs = [.bl b] ∧ Q (.str (if b then "True" else "False")) H) ∨ (∃ z, xs = [.str z] ∧ (reprText z).length ≤ sizeLine ∧ Q (.str (reprText z)) H)
theorem call_reprU {X : Cx} (hg : X.A.guards = some []) (hu : X.A.units + 128 < cLine) : CallR X (.builtin "repr") (rReprU X.K) := by
  intro pins s σ H xs us Q I r h
  rcases h with ⟨b, d, rfl, hd, hs, hn, hdp, hsz, q⟩ | ⟨e, q⟩ | ⟨i, e, hi, q⟩ | ⟨b, e, q⟩ | ⟨z, e, hz, q⟩
  · obtain ⟨u, rfl, e⟩ := vals1 r
    obtain ⟨as, r1⟩ := Dp.reads I d _ u hd e
    cases e
    refine repr_of_reads' r1 hs (PyData.noDict_hsm hn) hg (by omega) (fun _ _ z => z) (fun h' u tk hk => ?_) hsz
    exact ⟨.str d.shown, H, I.kept hk, ⟨_, rfl⟩, q⟩
  · subst e
    obtain ⟨u, rfl, e⟩ := vals1 r
    cases e
    exact PySem.P.repr_of_none ⟨.str "None", H, I.tok _, ⟨_, rfl⟩, q⟩
  · exact SkE.call_repr_int pins s σ H xs us Q I r ⟨i, e, hi, q⟩
  · subst e
    obtain ⟨u, rfl, e⟩ := vals1 r
    cases e
    exact PySem.P.repr_of_bool ⟨.str _, H, I.tok _, ⟨_, rfl⟩, q⟩
  · subst e
    obtain ⟨u, rfl, t, rfl⟩ := vals1 r
    exact PySem.P.repr_of_str (hsz := hz) ⟨.str _, H, I.tok _, ⟨_, rfl⟩, q⟩
def reprOk (x : D) : Bool := pur x && (py x).showable && !(py x).hasDict && decide ((py x).depth ≤ 64) && decide ((py x).shown.length ≤ 16777216)
def reprD : List D → Option D
  | [.non] => some (.str "None")
  | [.int i] => if i.natAbs.log2 < 1920 then some (.str (toString i)) else none
  | [.bl b] => some (.str (if b then "True" else "False"))
  | [.str z] => if (reprText z).length ≤ 16777216 then some (.str (reprText z)) else none
  | [x] => if reprOk x = true then some (.str (py x).shown) else none
  | _ => none
theorem reprOk_at {x : D} (h : reprOk x = true) : pur x = true ∧ (py x).showable = true ∧ (py x).hasDict = false ∧ (py x).depth ≤ 64 ∧ (py x).shown.length ≤ 16777216 := by
  unfold reprOk at h
  simp only [Bool.and_eq_true, decide_eq_true_eq, Bool.not_eq_true'] at h
  exact ⟨h.1.1.1.1, h.1.1.1.2, h.1.1.2, h.1.2, h.2⟩
theorem sim_repr : SimC K (rReprU K) reprD := by
  intro xs z e G H us i l Q q
  have bs := i
  have i := bs.i
  unfold reprD at e
  split at e
  · cases e; obtain ⟨u, eu, h⟩ := atl1 l; subst eu; cases h; exact .inr (.inl ⟨rfl, q _ G H (PG.refl i) (.str _)⟩)
  · split at e
    · rename_i k hk
      cases e; obtain ⟨u, eu, h⟩ := atl1 l; subst eu; cases h; exact .inr (.inr (.inl ⟨_, rfl, hk, q _ G H (PG.refl i) (.str _)⟩))
    · cases e
  · cases e; obtain ⟨u, eu, h⟩ := atl1 l; subst eu; cases h; exact .inr (.inr (.inr (.inl ⟨_, rfl, q _ G H (PG.refl i) (.str _)⟩)))
  · split at e
    · rename_i k hk
      cases e; obtain ⟨u, eu, h⟩ := atl1 l; subst eu; cases h; exact .inr (.inr (.inr (.inr ⟨_, rfl, by rw [sizeLine_eq]; exact hk, q _ G H (PG.refl i) (.str _)⟩)))
    · cases e
  · rename_i x h1 h2 h3 h4
    split at e
    · rename_i hk
      cases e
      obtain ⟨p1, p2, p3, p4, p5⟩ := reprOk_at hk
      obtain ⟨u, eu, h⟩ := atl1 l; subst eu
      have hd := At.dp i x h p1
      cases h with
      | lst hp l => exact .inl ⟨_, _, rfl, hd, p2, p3, p4, by rw [sizeLine_eq]; exact p5, q _ G H (PG.refl i) (.str _)⟩
      | tup hp l => exact .inl ⟨_, _, rfl, hd, p2, p3, p4, by rw [sizeLine_eq]; exact p5, q _ G H (PG.refl i) (.str _)⟩
      | non => exact (h1 rfl).elim
      | int k => exact (h2 k rfl).elim
      | bl k => exact (h3 k rfl).elim
      | str k => exact (h4 k rfl).elim
      | _ => simp [pur] at p1
    · cases e
  · cases e
end
end DF

set_option linter.all false
set_option maxRecDepth 100000
set_option maxHeartbeats 4000000
namespace DF
open PySem PySem.Spec PyProof.Rows L2
variable [TbC]
section
variable {K : PySem.W.Frag} {G G' H H' H0 H1 G1 : Hp} {P : List Addr} {σ σ' : L2.St} {Γ Γ' Γ1 : EnvF} {L L' L1 : List (Addr × OD)} {c c' c1 : Ow} {W : WX}
variable {ta tb te to ti : TE} {t tr tk : TA} {fa fb fc fe fo fi : FE} {fs fr fk : FA} {tt tu : TT} {ft fu : FT} {E : XK} {ts tw : TS} {fS fT : FS}
/-! ### isinstance -/
inductive Nm where
  | ty (n : String) | cls (c : Str)
  deriving DecidableEq
def NmV (K : PySem.W.Frag) : Nm → Value → Prop
  | .ty n, v => v = .type n
  | .cls c, v => ∃ C, CT K c C ∧ v = .ref C
def nmOf : D → Option Nm
  | .non => some (.ty "NoneType") | .bl _ => some (.ty "bool") | .int _ => some (.ty "int") | .str _ => some (.ty "str") | .tup _ => some (.ty "tuple") | .lst _ => some (.ty "list") | .dct _ => some (.ty "dict")
  | .ins c _ => some (.cls c) | _ => none
structure IsiC (K : PySem.W.Frag) (C : Addr) : Prop where
  cl : Cls K C
  ha : PySem.W.findIn K (.ref C) "__class__" = some (some (.builtin "object.__class__"))
  hn : PySem.W.specialIn K (.builtin "object.__class__") "__get__" = some (some (.builtin "getset_descriptor.__get__"))
  htk : PySem.W.takesIn K (.builtin "object.__class__") = some true
  hm : PySem.W.mroIn K C (.type "object") = some true
abbrev ITab := List (Nm × Nm × Bool)
structure IsiT (K : PySem.W.Frag) (cs : List Str) (tb : ITab) : Prop where
  isi : ∀ c ∈ cs, ∀ C, CT K c C → IsiC K C
  kit : ∀ e ∈ tb, ∀ tv cv, NmV K e.1 tv → NmV K e.2.1 cv → PySem.W.kitOne K tv cv = some e.2.2
def lookI (a b : Nm) : ITab → Option Bool
  | [] => none
  | (x, y, r) :: tb => if x = a ∧ y = b then some r else lookI a b tb
theorem lookI_mem {a b : Nm} {r : Bool} : ∀ {tb : ITab}, lookI a b tb = some r → (a, b, r) ∈ tb
  | [], e => by cases e
  | (x, y, r0) :: tb, e => by
    unfold lookI at e
    split at e
    · rename_i h; cases e; obtain ⟨h1, h2⟩ := h; subst h1 h2; exact List.mem_cons_self
    · exact List.mem_cons_of_mem _ (lookI_mem e)
theorem ty_at {cs : List Str} {tb : ITab} (T : IsiT K cs tb) {u : V} {d : D} {n : Nm} (i : Ext G H) (h : At K G u d) (e : nmOf d = some n) (hc : ∀ c, n = .cls c → c ∈ cs) : ∃ tv, NmV K n tv ∧ TyX K H u tv := by
  cases h with
  | non => cases e; exact ⟨_, rfl, .base .non⟩
  | bl b => cases e; exact ⟨_, rfl, .base (.bl b)⟩
  | int b => cases e; exact ⟨_, rfl, .base (.int b)⟩
  | str b => cases e; exact ⟨_, rfl, .base (.str b)⟩
  | tup hp l =>
    cases e
    refine ⟨_, rfl, ?_⟩
    rcases hp with hp | ⟨o, its, n, h1, h2, _⟩
    · rcases hp with hp | ⟨o, hp⟩
      · exact .base (.tup (i _ _ hp))
      · exact .fTuple (i _ _ hp)
    · exact .kTuple h1 h2
  | lst hp l => cases e; exact ⟨_, rfl, .base (.lst (i _ _ hp))⟩
  | dct hp l => cases e; exact ⟨_, rfl, .base (.dK (i _ _ hp))⟩
  | @ins p C dx c fs gs ct hp l =>
    cases e
    have T1 := T.isi c (hc c rfl) C ct
    exact ⟨.ref C, ⟨C, ct, rfl⟩, .base (.ins (i _ _ hp) T1.cl T1.ha T1.hn T1.htk T1.hm)⟩
  | _ => cases e
def isiD (cs : List Str) (tb : ITab) : List D → Option D
  | [x, .ty n] => match nmOf x with
    | some (.cls c) => if c ∈ cs then (lookI (.cls c) (.ty n) tb).map .bl else none
    | some a => (lookI a (.ty n) tb).map .bl
    | none => none
  | [x, .cls c'] => match nmOf x with
    | some (.cls c) => if c ∈ cs then (lookI (.cls c) (.cls c') tb).map .bl else none
    | some a => (lookI a (.cls c') tb).map .bl
    | none => none
  | _ => none
theorem isi_core {cs : List Str} {tb : ITab} (T : IsiT K cs tb) {u v : V} {cv : Value} {x z : D} {b : Nm} (i : Ext G H) (hu : At K G u x) (hv : ClsV v cv) (hb : NmV K b cv)
    (e : (match nmOf x with
    | some (.cls c) => if c ∈ cs then (lookI (.cls c) b tb).map D.bl else none
    | some a => (lookI a b tb).map D.bl
    | none => none) = some z) {Q : VK} (q : ∀ w G' H', PG G H G' H' → At K G' w z → Q w H') : rIsi K [u, v] H Q := by
  cases en : nmOf x with
  | none => rw [en] at e; cases e
  | some a =>
    rw [en] at e
    have fin : (lookI a b tb).map D.bl = some z → (∀ c, a = .cls c → c ∈ cs) → rIsi K [u, v] H Q := fun e hc => by
      simp only [Option.map_eq_some_iff] at e
      obtain ⟨r, er, ez⟩ := e
      subst ez
      obtain ⟨tv, h1, h2⟩ := ty_at T i hu en hc
      exact ⟨u, v, tv, cv, r, rfl, hv, h2, T.kit _ (lookI_mem er) tv cv h1 hb, q _ G H (PG.refl i) (.bl _)⟩
    cases a with
    | cls c =>
      have e : (if c ∈ cs then (lookI (.cls c) b tb).map D.bl else none) = some z := e
      split at e
      · rename_i hc; exact fin e fun c' z => by cases z; exact hc
      · cases e
    | ty n => exact fin e fun c' z => by cases z
theorem sim_isi {cs : List Str} {tb : ITab} (T : IsiT K cs tb) : SimC K (rIsi K) (isiD cs tb) := by
  intro xs z e G H us i l Q q
  have bs := i
  have i := bs.i
  unfold isiD at e
  split at e
  · obtain ⟨u, v, eu, h1, h2⟩ := atl2 l
    subst eu; cases h2
    exact isi_core T i h1 (.ty _) (show NmV K (.ty _) _ from rfl) e q
  · obtain ⟨u, v, eu, h1, h2⟩ := atl2 l
    subst eu
    cases h2 with
    | cls ct => exact isi_core T i h1 (.own _) (show NmV K (.cls _) _ from ⟨_, ct, rfl⟩) e q
  · cases e
/-! ### methods of values -/
def SimM (K : PySem.W.Frag) (r : V → List V → Hp → VK → Prop) (f : D → List D → Option D) : Prop := ∀ x xs z, f x xs = some z → ∀ G H u us, Bs G H → At K G u x → AtL K G us xs → ∀ Q : VK, (∀ w G' H', PG G H G' H' → At K G' w z → Q w H') → r u us H Q
def tyS : D → Option String
  | .str _ => some "str" | .int _ => some "int" | .lst _ => some "list" | .scr _ => some "list" | .dct _ => some "dict" | _ => none
def fBM (T : String) (f : D → List D → Option D) (a : FE) (b : FA) : FE := FM.bind (fV a) fun x => if tyS x = some T then FM.bind (fVs b) fun xs => fR (fOf (f x xs)) else fFail
def fBM0 (T : String) (f : D → List D → Option D) (a : FE) : FE := FM.bind (fV a) fun x => if tyS x = some T then fR (fOf (f x [])) else fFail
def joinD : D → List D → Option D
  | .str a, [.lst ds] => (strsOf ds).bind fun ys => if (ys.map (·.length)).sum + ys.length * a.length ≤ 16777216 then some (.str (Txt.join a ys)) else none
  | .str a, [.tup ds] => (strsOf ds).bind fun ys => if (ys.map (·.length)).sum + ys.length * a.length ≤ 16777216 then some (.str (Txt.join a ys)) else none
  | _, _ => none
where strsOf : List D → Option (List Str)
  | [] => some []
  | .str b :: ds => (strsOf ds).map (b :: ·)
  | _ => none
abbrev rJoin (K : PySem.W.Frag) : V → List V → Hp → VK → Prop := fun x xs H Q => ∃ a p, ∃ ys : List Str, x = .str a ∧ xs = [.ref p] ∧ (SqL K H p (ys.map V.str) ∨ SqT K H p (ys.map V.str)) ∧ (ys.map (·.length)).sum + ys.length * a.length ≤ 16777216 ∧ Q (.str (Txt.join a ys)) H
abbrev rSplit : V → List V → Hp → VK → Prop := fun x xs H Q => ∃ a b, x = .str a ∧ xs = [.str b] ∧ (b.length == 0) = false ∧ a.length + 2 ≤ sizeLine ∧ rNewStrs (Txt.split a b) H Q
def splitD : D → List D → Option D
  | .str a, [.str b] => if b.length ≠ 0 ∧ a.length + 2 ≤ 16777216 then some (.lst ((Txt.split a b).map .str)) else none
  | _, _ => none
abbrev rS1 (g : Str → Str → V) : V → List V → Hp → VK → Prop := fun x xs H Q => ∃ a b, x = .str a ∧ xs = [.str b] ∧ Q (g a b) H
def s1D (f : Str → Str → D) : D → List D → Option D
  | .str a, [.str b] => some (f a b)
  | _, _ => none
def countD : D → List D → Option D := s1D fun a b => .int (Txt.count a b)
def rmPreD : D → List D → Option D
  | .str a, [.str b] => if a.length ≤ 16777216 then some (.str (Txt.removeprefix a b)) else none
  | _, _ => none
/-! ### f'..' -/
def fmtD : D → Option D
  | .str y => if y.length ≤ 16777216 then some (.str y) else none
  | .int i => if i.natAbs.log2 < 1920 then some (.str (toString i)) else none
  | _ => none
def fFmt (a : FE) : FE := FM.bind (fV a) fun x => fR (fOf (fmtD x))
inductive SimJ (K : PySem.W.Frag) (W : WX) : List TE → List FE → Prop
  | nil : SimJ K W [] []
  | cons {t : TE} {f : FE} {ts : List TE} {fs : List FE} : SimE K W t f → SimJ K W ts fs → SimJ K W (t :: ts) (f :: fs)
def fJs : List FE → Str → FM Str
  | [], acc => FM.pure acc
  | f :: fs, acc => FM.bind (fV f) fun x => match x with
    | .str y => if (acc ++ y).length ≤ 16777216 then fJs fs (acc ++ y) else fFail
    | _ => fFail
def fJoined (fs : List FE) : FE := FM.bind (fJs fs Str.empty) fun z => FM.pure (.val (.str z))
/-! ### module dicts -/
def ixKD (nm : Str) (tb : List (Str × D)) : D → D → Option D
  | .cls n, .str z => if n = nm then tb.lookup z else none
  | _, _ => none
def rInKD (K : PySem.W.Frag) (d : Addr) : R2 := fun x y H Q => ∃ (z : Str) (r : Option Value), x = .str z ∧ y = .ref d ∧ PySem.W.nsIn K d z = some r ∧ Q (.bl r.isSome) H
def inKD (nm : Str) (tb : List (Str × D)) : D → D → Option D
  | .str z, .cls n => if n = nm then (tb.lookup z).map fun _ => .bl true else none
  | _, _ => none
/-! ### x in a text -/
def occ (a b : Str) : Bool := !(Builtin.Str.occurrences a b 0 a.length 1).isEmpty
def inSD : D → D → Option D
  | .str i, .str j => some (.bl (!(Builtin.Str.occurrences j i 0 j.length 1).isEmpty))
  | _, _ => none
/-! ### one's own == -/
def behind (cn : Str) (tb : ITab) (y : D) : Bool := match nmOf y with
  | some (.cls c) => decide (c = cn) || decide (lookI (.cls c) (.cls cn) tb = some false)
  | some a => decide (lookI a (.cls cn) tb = some false)
  | none => false
def inCs (cs : List Str) (y : D) : Bool := match nmOf y with
  | some (.cls c) => decide (c ∈ cs)
  | _ => true
def eqI (cs : List Str) (tb : ITab) (cn : Str) (F : FF) (neg : Bool) : D → D → Option D
  | .ins c gs, y => if c = cn ∧ behind cn tb y = true ∧ inCs cs y = true then (match F [.val (.ins c gs), .val y] with
    | some (.ok (.val (.bl b)) none) => some (.bl (neg != b))
    | _ => none) else none
  | _, _ => none
theorem not_first {C : Addr} {tv : Value} (h : PySem.W.kitOne K tv (.ref C) = some false) : PySem.W.notFirst K C tv = true := by
  unfold PySem.W.kitOne at h
  split at h
  · cases h
  · unfold PySem.W.kitCls at h
    dsimp only at h
    split at h
    · unfold PySem.W.notFirst; rw [h]; simp
    · cases h
theorem tyR_at {cs : List Str} {tb : ITab} (T : IsiT K cs tb) {cn : Str} {C : Addr} (ct : CT K cn C) {y : D} {v : V} (i : Ext G H) (h : At K G v y) (hb : behind cn tb y = true) (hc : inCs cs y = true) : ∃ tv, PySem.W.notFirst K C tv = true ∧ TyX K H v tv := by
  unfold behind at hb
  unfold inCs at hc
  cases en : nmOf y with
  | none => rw [en] at hb; cases hb
  | some a =>
    rw [en] at hb hc
    cases a with
    | ty n =>
      have hb : decide (lookI (.ty n) (.cls cn) tb = some false) = true := hb
      have hb := of_decide_eq_true hb
      obtain ⟨tv, h1, h2⟩ := ty_at T i h en (fun c z => by cases z)
      exact ⟨tv, not_first (T.kit _ (lookI_mem hb) tv (.ref C) h1 ⟨C, ct, rfl⟩), h2⟩
    | cls c =>
      have hc := of_decide_eq_true hc
      obtain ⟨tv, h1, h2⟩ := ty_at T i h en (fun c' z => by cases z; exact hc)
      refine ⟨tv, ?_, h2⟩
      have hb : (decide (c = cn) || decide (lookI (.cls c) (.cls cn) tb = some false)) = true := hb
      rcases Bool.or_eq_true_iff.mp hb with z | z
      · have z := of_decide_eq_true z
        subst z
        obtain ⟨C', ct', e⟩ := h1
        have := ct'.one ct
        subst this e
        unfold PySem.W.notFirst; simp
      · exact not_first (T.kit _ (lookI_mem (of_decide_eq_true z)) tv (.ref C) h1 ⟨C, ct, rfl⟩)
/-- what the right side's type is -/
def rOwnX (K : PySem.W.Frag) (C : Addr) (sp : Sp) (neg : Bool) : R2 := fun x y H Q => ∃ a dx fs, x = .ref a ∧ H a = some (.ins C dx fs) ∧ (∃ tb, PySem.W.notFirst K C tb = true ∧ TyX K H y tb) ∧ sp [x, y] H (fun v H' => ∃ c, v = .bl c ∧ Q (.bl (neg != c)) H') fun _ _ _ => False
theorem sim_eqI {cs : List Str} {tb : ITab} (T : IsiT K cs tb) {cn : Str} {C : Addr} {F : FF} {neg : Bool} (ct : CT K cn C) : SimR2 K (rOwn K C (spF K F) neg) (eqI cs tb cn F neg) := by
  intro x y z e G H u v i hu hv Q q
  have bs := i
  have i := bs.i
  unfold eqI at e
  split at e
  · rename_i c gs
    split at e
    · rename_i hc
      obtain ⟨h1, h2, h3⟩ := hc
      subst h1
      have l : AtL K G [u, v] [D.ins c gs, y] := .cons hu (.cons hv .nil)
      cases hu with
      | @ins p C' dx _ fs _ ct' hp _ =>
        have := ct'.one ct
        subst this
        cases eF : F [.val (.ins c gs), .val y] with
        | none => rw [eF] at e; cases e
        | some rf =>
          rw [eF] at e
          refine ⟨p, dx, fs, rfl, i _ _ hp, tyR_at T ct i hv h2 h3, G, fun _ => none, _, [], rf, bs.iv, arg_vals l, fun e he => (List.not_mem_nil he).elim, eF, ?_⟩
          cases rf with
          | ok w o =>
            cases w with
            | val d =>
              cases d with
              | bl b =>
                cases o with
                | none =>
                  cases e
                  intro u' c' G' H' g' iv' _ hr
                  cases hr
                  refine ⟨b, rfl, q _ G' H' (.ofGrow g' iv') (.bl _)⟩
                | some o => cases e
              | _ => cases e
            | _ => cases e
          | ex _ _ _ _ => cases e
    · cases e
  · cases e
end
section
variable {X : Cx} {n : Nat} {C f : Addr} {fd : FuncData} {ps : List Str} {sp : Sp}
end
end DF

set_option linter.all false
set_option maxRecDepth 100000
set_option maxHeartbeats 4000000
namespace DF
open PySem PySem.Spec PyProof.Rows L2
variable [TbC]
theorem units128 {A : Around} {k : Nat} (hr : Room k A) : A.units + 128 < cLine := by have := hr.un; omega
theorem units64 {A : Around} {k : Nat} (hr : Room k A) : A.units + 64 < cLine := by have := hr.un; omega
/-! ### defs that may ask repr: nothing is being shown around them -/
structure FnG (P : Program) (w : World) (K : PySem.W.Frag) (mg : Str → Option Value) (base : Heap) (CX : CXT) (k : Nat) (f : Addr) (fd : FuncData) (ps : List Str) (sp : Sp) : Prop where
  len : ∀ vs H Q E, sp vs H Q E → vs.length = ps.length
  run : ∀ (A : Around) (out : List Env) (s : Shared) (H : Hp) (ar : Args) (us : List Value) (vs : List V) (Q : VK) (E : XK), Room k A → A.guards = some [] → Env0 P w K mg base A out s H → BindsTo s fd ar (ps.zip us) → Vals vs us → sp vs H Q E →
    codeAny (model P w) A (.call (.ref f) ar) (CR CX out P w H s Q E) s
section
variable {P : Program} {w : World} {K : PySem.W.Frag} {mg : Str → Option Value} {base : Heap}
/-- such a def by its body, as a term of rules and its reading -/
theorem okG {x q : Str} {st : Stmt} {f : Addr} {fd : FuncData} {N ps : List Str} {k : Nat} {sp : Sp} (F : Fun K x q st f fd) (S : FnScope N ps (defScope st)) (len : ∀ vs H Q E, sp vs H Q E → vs.length = ps.length)
    (body : ∀ (cd : Value) (A : Around) (out : List Env) (s : Shared) (H : Hp) (vs : List V) (Q : VK) (E : XK), Room k (A.deeper (envOfC q (defScope st) s.heap.objs.size f cd)) → A.guards = some [] → sp vs H Q E →
      ∃ t, PSs (cxOf CX0 P w K mg base N q (defScope st) f cd A out s H E).nox (defBody st) t ∧ t { nx := fun _ H' => Q .non H', rt := Q } (start N vs) H) : FnG P w K mg base CX0 (k + 1) f fd ps sp := by
  obtain ⟨_, _, _, _, _, _, cd, _, _, rfl, at_f, code⟩ := F.ex
  constructor
  · exact len
  intro A out s H ar us vs Q E room calm e0 bind vals want
  have old : ∀ b o, base.get? b = some o → s.heap.get? b = some o := fun b o e => (e0.bs b o e).1
  have inK := e0.mod.kin.keeps old
  have slots : ∀ y ∈ ps.zip us, (defScope st).names.lookup y.1 = some .local ∨ ((defScope st).names.lookup y.1 = some .cell ∧ ((cellsFrom (s.heap.objs.size + 1) (defScope st).names []).lookup y.1).isSome = true) := by
    rintro ⟨y, v⟩ hy
    exact (S.par y (List.of_mem_zip hy).1).elim .inl fun c => .inr ⟨c, PySem.W.cellsFrom_some _ _ _ (.inl c)⟩
  refine codeAny_call_function room.depth (inK _ _ at_f) rfl S.co S.gen rfl (PySem.W.codeRec_of inK code) (bind _ _ _ _ (wpAny_newFunctionEnv_cells S.kind slots ?_))
  rintro env rfl s1 made
  refine ⟨(e0.mod.nolimit.keeps old).keeps made.toInCall.keep, codeAny_func ?_⟩
  obtain ⟨t, rules, reading⟩ := body cd A out s H vs Q E (room.deeper _) calm want
  have inv := inv_start (CX := CX0) (E := E) S room.hd e0 (len _ _ _ _ want) vals made
  refine wpAny_mono (rules.nox.run [] s1 (start N vs) H _ inv reading) ?_ fun _ _ z => z
  intro fl s2 z
  match fl, z with
  | .ret u, ⟨v, _, H2, J, rel, q⟩ => exact ⟨v, H2, J.os, J.bare, J.base, J.hok, rel, q⟩
  | .next, ⟨_, H2, J, q⟩ => exact ⟨V.non, H2, J.os, J.bare, J.base, J.hok, rfl, q⟩
  | .brk, ⟨_, _, _, q⟩ => exact q.elim
  | .cont, ⟨_, _, _, q⟩ => exact q.elim
end
section
variable {X : Cx} {k : Nat} {f : Addr} {fd : FuncData} {ps : List Str} {sp : Sp} {x : Str} {p pos : Pos} {e : Expr} {es : List Expr} {t : TA}
/-- f(e, ..), every parameter given -/
theorem pe_callG (F : FnG X.prog X.w X.K X.mg X.base CX0 k f fd ps sp) (room : Room k X.A) (calm : X.A.guards = some []) (hg : Gl X x) (hm : X.mg x = some (.ref f)) (hk : PySem.W.keepIn X.K (.ref f) = true) (hb : Binds X.K fd ps [])
    (ha : PA X (e :: es) t) (hdb : (x == ("__debug__" : Str)) = false := by decide) (he : starEach (e :: es) X.env = (false, eval e X.env) :: starEach es X.env := by rfl) (hpl : (backTo pos (starEach es X.env)).any (·.1) = false := by rfl) :
    PE X (.Call (.Name x p) (e :: es) [] pos) (tCall sp [] E0 t) := by
  constructor
  intro pins s σ H Q I reading
  refine wpAny_Call_Name_kw (ld_glob I hg hm (PySem.W.callWith_K (h₀ := X.base) I.ok.mod.kin hk (thn (ha.run pos pins s σ H _ I reading) ?_) he hpl) hdb)
  rintro us s1 ⟨vs, H1, I1, vals, want⟩
  refine ⟨I1.kIn, ?_⟩
  rw [List.append_nil] at want
  have bind : BindsTo s1 fd ⟨us, []⟩ (ps.zip us) := by
    have := hb s1 us I1.kIn (by rw [List.append_nil, ← vals.length]; exact F.len _ _ _ _ want)
    rwa [List.append_nil] at this
  refine wpAny_call (codeAny_mono (F.run X.A X.stack s1 H1 _ _ _ Q E0 room calm I1.env0 bind vals want) ?_)
  intro r s2 z
  match r, z with
  | .error _, z => exact z.elim
  | .ok (.ret _), z => exact I1.after z
end
/-- f(k = v, ..): keywords alone -/
theorem pe_callN0 {X : Cx} {CX : CXT} {k : Nat} {f : Addr} {fd : FuncData} {ps ks : List Str} {sp : Sp} {E : XK} {x : Str} {p pos : Pos} {kws : List Keyword} {tk : TA} {g : List Value → List Value → List Value} {gV : List V → List V → List V}
    (F : FnOk X.prog X.w X.K X.mg X.base CX k f fd ps sp) (hr : Room k X.A) (hg : Gl X x) (hm : X.mg x = some (.ref f)) (hk : PySem.W.keepIn X.K (.ref f) = true) (hb : KBn X.K fd ps 0 ks g gV) (hx : Passes CX X E)
    (hkw : PK X kws tk) (hall : (backToKw pos (keywordEach kws X.env)).all (·.1.isSome) = true := by rfl) (hks : (backToKw pos (keywordEach kws X.env)).filterMap (·.1) = ks := by rfl)
    (hdb : (x == ("__debug__" : Str)) = false := by decide)
    (hpl : ((backTo pos (starEach [] X.env)).any (·.1) || (backToKw pos (keywordEach kws X.env)).any (·.1.isNone)) = false := by rfl) :
    PE X (.Call (.Name x p) [] kws pos) (tCallN 0 ks.length sp gV E tNil tk) := by
  refine ⟨fun pins s σ H Q I h => ?_⟩
  refine wpAny_Call_Name_kw (ld_glob I hg hm ?_ hdb)
  refine PySem.W.callWith_KW0 (h₀ := X.base) I.ok.mod.kin hk hall ?_ hpl
  refine thn (hkw.run pos pins s σ H _ I h) fun ws s2 ⟨zs, H2, I2, rz, l1, l2, q2⟩ => ⟨I2.kIn, ?_⟩
  rw [hks]
  exact run_fnN (us := []) (vs := []) F hr hb hx I2 .nil rz rfl l2 q2


/-! rules with K told, for nested comprehensions -/
section
variable {X : Cx} {K : PySem.W.Frag}
theorem pi_anyK (hK : X.K = K) {tg l : Expr} {tl : TE} (hl : PE X l tl) : PI X tg l (iAny K tl) := by subst hK; exact pi_any hl
theorem pe_bmK (hK : X.K = K) {T id : String} {name : Str} {o e : Expr} {es : List Expr} {to : TE} {t : TA} {apos cpos : Pos} {r : V → List V → Hp → VK → Prop} (pa : PlainAttrs T) (slot : Slot T name id) (hty : typeOf (.builtin id) = pure (.type "method_descriptor")) (hm : MtR X id r) (ho : PE X o to) (ha : PA X (e :: es) t)
    (hbase : attributeBase o name X.env (eval o X.env) = eval o X.env := by rfl)
    (hfew : ((backTo cpos (starEach (e :: es) X.env)).all (fun x => !x.1) && (backToKw cpos (keywordEach [] X.env)).all (fun x => x.1.isSome)
      && decide ((e :: es).length + ([] : List Keyword).length + (if ([] : List Keyword).isEmpty then 0 else 1) < 30)) = true := by rfl)
    (hline : (apos.endLine == cpos.line) = true := by rfl) (hs : starEach (e :: es) X.env = (false, eval e X.env) :: starEach es X.env := by rfl) (hplain : (backTo cpos (starEach es X.env)).any (·.1) = false := by rfl) :
    PE X (.Call (.Attribute o name apos) (e :: es) [] cpos) (tBM K T r to t) := by subst hK; exact pe_bm pa slot hty hm ho ha hbase hfew hline hs hplain
theorem pt_truthK (hK : X.K = K) {a : Expr} {ta : TE} (ha : PE X a ta) (he : ∀ whole, isTrue a X.env whole = (do let v ← whole; standAt a.pos; holding [v] (truthy v))) : PT X a (tTru K ta) := by subst hK; exact pt_truth ha he
theorem pe_fldK (hK : X.K = K) {o : Expr} {to : TE} {f : Str} {pos : Pos} (ho : PE X o to) (hb : attributeBase o f X.env (eval o X.env) = eval o X.env) : PE X (.Attribute o f pos) (tFld K to f) := by subst hK; exact pe_fld ho hb
theorem isi_K (hK : X.K = K) : CallR X (.builtin "isinstance") (rIsi K) := by subst hK; exact call_isi
theorem len_K (hK : X.K = K) : CallR X (.builtin "len") (rLen K) := by subst hK; exact call_len
theorem tupOf_K (hK : X.K = K) : CallR X (.type "tuple") (rTupOf K) := by subst hK; exact call_tuple_of
theorem lstOf_K (hK : X.K = K) : CallR X (.type "list") (rLstOf K) := by subst hK; exact call_list_of
theorem all_K (hK : X.K = K) (hc : X.calm = true) : CallR X (.builtin "all") (rAll K) := by subst hK; exact cr_all hc
theorem repr_K (hK : X.K = K) (hg : X.A.guards = some []) (hu : X.A.units + 128 < cLine) : CallR X (.builtin "repr") (rReprU K) := by subst hK; exact call_reprU hg hu
theorem add_K (hK : X.K = K) : OpR X (binaryOp .Add) (rAddU K) := by subst hK; exact op_addU
theorem mul_K (hK : X.K = K) : OpR X (binaryOp .Mult) (rMulU K) := by subst hK; exact op_mulU
theorem eq_K (hK : X.K = K) (hu : X.A.units + 64 < cLine) : OpR X (compareOp .Eq) (rEqU K) := by subst hK; exact op_eqU hu
theorem ne_K (hK : X.K = K) (hu : X.A.units + 64 < cLine) : OpR X (compareOp .NotEq) (rNeU K) := by subst hK; exact op_neU hu
theorem sl_K (hK : X.K = K) : SlR X (rSlU K) := by subst hK; exact sl_U
theorem ix_K (hK : X.K = K) : IxR X (rIx K) := by subst hK; exact ix_seq
theorem eqI_K {n : Nat} {C f : Addr} {fd : FuncData} {ps : List Str} {sp : Sp} (hK : X.K = K) (T : EqC X.K C f) (F : FnOk X.prog X.w X.K X.mg X.base CX0 n f fd ps sp) (hb : Binds X.K fd ps []) (hr : Room n X.A) : OpR X (compareOp .Eq) (rOwn K C sp false) := by subst hK; exact op_eqI T F hb hr
theorem neI_K {n : Nat} {C f : Addr} {fd : FuncData} {ps : List Str} {sp : Sp} (hK : X.K = K) (T : EqC X.K C f) (F : FnOk X.prog X.w X.K X.mg X.base CX0 n f fd ps sp) (hb : Binds X.K fd ps []) (hr : Room (n + 1) X.A) : OpR X (compareOp .NotEq) (rOwn K C sp true) := by subst hK; exact op_neI T F hb hr
end
/-! ### the end -/
section
variable {P : Program} {w : World} {K : PySem.W.Frag} {mg mb : Str → Option Value} {k : Nat} {fa a : Addr} {fd : FuncData} {x : Str} {s : Shared} {vs : List Value} {ns : List Int}
end
end DF

set_option linter.all false
set_option maxRecDepth 100000
set_option maxHeartbeats 4000000
namespace DF
open PySem PySem.Spec PyProof.Rows L2
variable [TbC]
/-- only what ends well -/
def okF (F : FF) : FF := fun as => match F as with
  | some (.ok v o) => some (.ok v o)
  | _ => none
abbrev W0 : WX := fun _ _ _ _ => False
theorem hE0 {E : XK} : ∀ cls d σ H, W0 cls d σ H → E cls d H := fun _ _ _ _ h => h.elim
section
variable {K : PySem.W.Frag} {G G' H H' H0 H1 G1 : Hp} {P : List Addr} {σ σ' : L2.St} {Γ Γ' Γ1 : EnvF} {L L' L1 : List (Addr × OD)} {c c' c1 : Ow} {W : WX}
variable {ta tb te to ti : TE} {t tr tk : TA} {fa fb fc fe fo fi : FE} {fs fr fk : FA} {tt tu : TT} {ft fu : FT} {E : XK} {ts tw : TS} {fS fT : FS}
theorem okF_some {F : FF} {as : List Sl} {r : RF} (e : okF F as = some r) : ∃ v o, r = .ok v o ∧ F as = some (.ok v o) := by
  unfold okF at e
  cases eF : F as with
  | none => rw [eF] at e; cases e
  | some x =>
    rw [eF] at e
    cases x with
    | ok v o => cases e; exact ⟨v, o, rfl, rfl⟩
    | ex _ _ _ _ => cases e
theorem body_O {k : Nat} {fS : FS} {ts : TS} {Ns : List Str} {vs : List V} {Q : VK} {E : XK} (h : spF K (okF (defF k Ns.length fS)) vs H Q E) (sim : SimS K W0 ts fS) : ts { nx := fun _ H' => Q .non H', rt := Q } (start Ns vs) H := by
  obtain ⟨G, c, as, L, r, iv, ar, ow, er, post⟩ := h
  obtain ⟨v0, o0, er0, er1⟩ := okF_some er
  clear er
  subst er0
  have er := er1
  clear er1
  have hnd : (L.map (·.1)).Nodup := by
    rcases ar.one with ⟨h, _⟩ | ⟨p, o, h, _⟩ <;> subst h <;> simp
  have hP : ∀ e ∈ L, (L.map (·.1))[0]? = some e.1 := by
    rcases ar.one with ⟨h, _⟩ | ⟨p, o, h, _⟩ <;> subst h <;> simp
  have s0 : Sta K (L.map (·.1)) c G H (start Ns vs) (as ++ List.replicate (Ns.length - as.length) .no) L := by
    refine ⟨?_, hnd, ow, iv, fun p hp => ?_⟩
    · unfold L2.start
      rw [ar.length]
      exact ar.env _ hP
    · obtain ⟨e, he, ee⟩ := List.mem_map.mp hp
      rw [← ee]; exact (iv.ow _ _ (ow e he)).2.some
  unfold defF at er
  split at er
  · have hs := sim _ _ _ _ _ _ _ s0
    unfold RunS at hs
    cases ef : fS (as ++ List.replicate (Ns.length - as.length) .no) with
    | none => rw [ef] at er; cases er
    | some r0 =>
      rw [ef] at er
      refine hs r0 ef _ ?_
      cases r0 with
      | ok fl Γ' =>
        cases fl with
        | nx =>
          simp only [Option.map_eq_some_iff] at er
          obtain ⟨oo, eo, e2⟩ := er
          cases e2
          refine ⟨fun Γ2 e2 σ' c' G' H' L' g s n => ?_, fun _ e2 => (by cases e2), fun _ e2 => (by cases e2), fun _ _ e2 => (by cases e2), fun _ _ _ _ e2 => (by cases e2)⟩
          cases e2
          exact post .non c' G' H' g s.iv (endO_at ar s eo) .non
        | rt v =>
          cases v with
          | val d =>
            simp only [Option.map_eq_some_iff] at er
            obtain ⟨oo, eo, e2⟩ := er
            cases e2
            refine ⟨fun _ e2 => (by cases e2), fun _ e2 => (by cases e2), fun _ e2 => (by cases e2), fun v Γ2 e2 u σ' c' G' H' L' g s n t => ?_, fun _ _ _ _ e2 => (by cases e2)⟩
            cases e2
            exact post u c' G' H' g s.iv (endO_at ar s eo) t
          | own x =>
            simp only [Option.map_eq_some_iff] at er
            obtain ⟨oo, eo, e2⟩ := er
            cases e2
            refine ⟨fun _ e2 => (by cases e2), fun _ e2 => (by cases e2), fun _ e2 => (by cases e2), fun v Γ2 e2 u σ' c' G' H' L' g s n t => ?_, fun _ _ _ _ e2 => (by cases e2)⟩
            cases e2
            obtain ⟨p, h1, h2, h3, h4⟩ := t
            refine post u c' G' H' g s.iv (endO_at ar s eo) ⟨p, h1, h2, fun z => ?_, h4⟩
            obtain ⟨e, he, ee⟩ := List.mem_map.mp z
            have := (iv.ow _ _ (ow e he)).2.some
            rw [ee] at this
            exact this h4
          | slot i => cases er
        | bk => cases er
        | ct => cases er
      | ex cn f d Γ' =>
        simp only [Option.map_eq_some_iff] at er
        obtain ⟨oo, eo, e2⟩ := er
        cases e2
  · cases er
theorem len_O {k n : Nat} {fS : FS} {vs : List V} {Q : VK} {E : XK} (h : spF K (okF (defF k n fS)) vs H Q E) : vs.length = k := by
  obtain ⟨G, c, as, L, r, iv, ar, ow, er, post⟩ := h
  obtain ⟨v0, o0, er0, er1⟩ := okF_some er
  clear er
  have er := er1
  unfold defF at er
  split at er
  · rename_i hk; rw [ar.length]; exact hk
  · cases er
/-- str of an instance -/
def strI (cn : Str) (F : FF) : FE → FE := fun a => FM.bind (fV a) fun x => match x with
  | .ins c gs => if c = cn then (match F [.val (.ins c gs)] with
    | some (.ok (.val (.str z)) none) => FM.pure (.val (.str z))
    | _ => fFail) else fFail
  | _ => fFail
def strID (cn : Str) (F : FF) : List D → Option D
  | [.ins c gs] => if c = cn then (match F [.val (.ins c gs)] with
    | some (.ok (.val (.str z)) none) => some (.str z)
    | _ => none) else none
  | _ => none
end
end DF

set_option linter.all false
set_option maxRecDepth 100000
set_option maxHeartbeats 4000000
namespace DF
open PySem PySem.Spec PyProof.Rows L2
variable [TbC]
abbrev orD (f g : D → D → Option D) : D → D → Option D := fun x y => match f x y with | some z => some z | none => g x y
abbrev orC (f g : List D → Option D) : List D → Option D := fun xs => match f xs with | some z => some z | none => g xs
/-! ### texts backwards -/
def revS (z : Str) : Str := ⟨z.cps.toList.reverse.toArray⟩
def repS (z : Str) (k : Int) : Str := ⟨(List.replicate k.toNat z.cps).foldl (· ++ ·) #[]⟩
def tRevS (te : TE) : TE := fun σ H Q => te σ H fun x H1 => ∃ z, x = .str z ∧ z.length ≤ sizeLine ∧ Q (.str (revS z)) H1
section
variable {X : Cx}
end
section
variable {K : PySem.W.Frag} {G G' H H' H0 H1 G1 : Hp} {P : List Addr} {σ σ' : L2.St} {Γ Γ' Γ1 : EnvF} {L L' L1 : List (Addr × OD)} {c c' c1 : Ow} {W : WX}
variable {ta tb te to ti : TE} {t tr tk : TA} {fa fb fc fe fo fi : FE} {fs fr fk : FA} {tt tu : TT} {ft fu : FT} {E : XK} {ts tw : TS} {fS fT : FS}
def mulSD : D → D → Option D
  | .str z, .int k => if 2 ≤ k ∧ k ≤ 1000 ∧ z.length ≤ 4000 then some (.str (repS z k)) else none
  | _, _ => none
abbrev rMulS : R2 := fun x y H Q => ∃ z k, x = .str z ∧ y = .int k ∧ 2 ≤ k ∧ k ≤ 1000 ∧ z.length ≤ 4000 ∧ Q (.str (repS z k)) H
/-! ### [::-1] -/
def fRevS (a : FE) : FE := FM.bind (fV a) fun x => match x with
  | .str z => if z.length ≤ 16777216 then FM.pure (.val (.str (revS z))) else fFail
  | _ => fFail
def fRevL (a : FE) : FE := FM.bind (fV a) fun x => fR (fOf (match x with
  | .lst ds => some (.lst ds.reverse)
  | .scr ns => some (.lst (ns.map D.int).reverse)
  | _ => none))
/-! ### a = b = c = e, names -/
def fAsg3 (i j l : Nat) (f : FE) : FS := FM.bind (fV f) fun d Γ => some (.ok .nx (((Γ.set i (.val d)).set j (.val d)).set l (.val d)))
/-! ### what never runs -/
end
end DF

set_option linter.all false
set_option maxRecDepth 100000
set_option maxHeartbeats 4000000
namespace DF
open PySem PySem.Spec PyProof.Rows L2
variable [TbC]
open PySem.Sem (wp)
/-! ### bool of an instance without __bool__ and __len__ -/
structure BoC (K : PySem.W.Frag) (C : Addr) : Prop where
  b : PySem.W.findIn K (.ref C) "__bool__" = some none
  l : PySem.W.findIn K (.ref C) "__len__" = some none
section
variable {X : Cx}
def rBoI (C : Addr) : List V → Hp → VK → Prop := fun xs H Q => ∃ a dx fs, xs = [.ref a] ∧ H a = some (.ins C dx fs) ∧ Q (.bl true) H
/-! ### classmethods with keywords alone -/
/-- C.m(k = v, ..) -/
def tCMethN (C : Addr) (m : Nat) (sp : Sp) (gV : List V → List V → List V) (E : XK) (ta : TE) (tk : TA) : TE := fun σ H Q => ta σ H fun x H1 => x = .ref C ∧ tk σ H1 fun zs H2 => zs.length = m ∧ sp (gV [.ref C] zs) H2 Q E
/-! ### a class in a local name -/
def tMakeL (i : Nat) (C : Addr) (sp : Sp) (E : XK) (t : TA) : TE := fun σ H Q => σ[i]? = some (some (.ref C)) ∧ tMake C sp [] E t σ H Q
end
section
variable {K : PySem.W.Frag} {G G' H H' H0 H1 G1 : Hp} {P : List Addr} {σ σ' : L2.St} {Γ Γ' Γ1 : EnvF} {L L' L1 : List (Addr × OD)} {c c' c1 : Ow} {W : WX}
variable {ta tb te to ti : TE} {t tr tk : TA} {fa fb fc fe fo fi : FE} {fs fr fk : FA} {tt tu : TT} {ft fu : FT} {E : XK} {ts tw : TS} {fS fT : FS}
def boolI (cn : Str) : List D → Option D
  | [.ins c _] => if c = cn then some (.bl true) else none
  | _ => none
def fCMeth (cn : Str) (F : FF) (a : FA) : FE := FM.bind a fun vs => callF F (.val (.cls cn) :: vs)
def fCMethN (cn : Str) (F : FF) (l : Nat) (ix : List Nat) (a : FA) : FE := FM.bind a fun vs => if vs.length = l then callF F (permR ix (.val (.cls cn) :: vs)) else fFail
def fMakeL (cn : Str) (F : FF) (i : Nat) (a : FA) : FE := fun Γ => match Γ[i]? with
  | some (.val (.cls x)) => if x = cn then fMake cn F a Γ else none
  | _ => none
end
end DF

set_option linter.all false
set_option maxRecDepth 100000
set_option maxHeartbeats 4000000
namespace DF
open PySem PySem.Spec PyProof.Rows L2
variable [TbC]
/-! ### what a function on data ends in -/
def X {α : Type} (f : FM α) (Γ : EnvF) (Φ : α → EnvF → Prop) : Prop := ∃ v Γ', f Γ = some (.ok v Γ') ∧ Φ v Γ'
def Fp (F : FF) (as : List Sl) (Φ : Vr → Option OD → Prop) : Prop := ∃ v o, F as = some (.ok v o) ∧ Φ v o
def SeqK (b : FS) (Φ : Fl → EnvF → Prop) : Fl → EnvF → Prop
  | .nx, Γ => X b Γ Φ
  | r, Γ => Φ r Γ
def AsgK (i : Nat) (Φ : Fl → EnvF → Prop) : Vr → EnvF → Prop
  | .val d, Γ => ∃ Γ2, Γ.set i (.val d) = Γ2 ∧ Φ .nx Γ2
  | .own o, Γ => ∃ Γ2, Γ.set i (.own 0 o) = Γ2 ∧ Φ .nx Γ2
  | _, _ => False
def ValK (Φ : D → EnvF → Prop) : Vr → EnvF → Prop
  | .val d, Γ => Φ d Γ
  | _, _ => False
def RetK (Φ : Fl → EnvF → Prop) : Vr → EnvF → Prop
  | .val d, Γ => Φ (.rt (.val d)) Γ
  | .own o, Γ => Φ (.rt (.own o)) Γ
  | .slot i, Γ => ∃ o d Γ2, Γ[i]? = some (.own 0 o) ∧ odD o = some d ∧ Γ.set i (.val d) = Γ2 ∧ Φ (.rt (.val d)) Γ2
def BackK (b : Ob) (Φ : Vr → EnvF → Prop) (Γ : EnvF) (v : Vr) (o : Option OD) : Prop := match b, o with
  | .none, _ => Φ v Γ
  | .tmp, _ => Φ v Γ
  | .slot i, some o => ∃ k o0 Γ2, Γ[i]? = some (.own k o0) ∧ Γ.set i (.own k o) = Γ2 ∧ Φ v Γ2
  | .slot _, none => False
def ForK (I : EnvF → Prop) (Φ : Fl → EnvF → Prop) : Fl → EnvF → Prop
  | .nx, Γ => I Γ
  | .ct, Γ => I Γ
  | .bk, Γ => Φ .nx Γ
  | .rt v, Γ => Φ (.rt v) Γ
def EndK (as : List Sl) (Φ : Vr → Option OD → Prop) : Fl → EnvF → Prop
  | .rt (.val d), Γ => ∃ o, endO as Γ = some o ∧ Φ (.val d) o
  | .rt (.own x), Γ => ∃ o, endO as Γ = some o ∧ Φ (.own x) o
  | .nx, Γ => ∃ o, endO as Γ = some o ∧ Φ (.val .non) o
  | _, _ => False
section
variable {α β : Type} {Γ Γ' Γ1 Γ2 : EnvF} {Φ : D → EnvF → Prop} {ΦV : Vr → EnvF → Prop} {ΦS : Fl → EnvF → Prop} {ΦB : Bool → EnvF → Prop} {ΦU : Unit → EnvF → Prop} {ΦA : List Vr → EnvF → Prop} {ΦL : List D → EnvF → Prop} {ΦO : Option Int → EnvF → Prop}
variable {fa fb fc : FE} {fs fr : FA} {ft fu : FT} {fS fT : FS}
theorem X.imp {f : FM α} {Φ Φ' : α → EnvF → Prop} (h : X f Γ Φ) (i : ∀ v Γ', Φ v Γ' → Φ' v Γ') : X f Γ Φ' := let ⟨v, g, e, p⟩ := h; ⟨v, g, e, i _ _ p⟩
theorem x_bind {f : FM α} {k : α → FM β} {Φ : β → EnvF → Prop} (h : X f Γ fun v Γ' => X (k v) Γ' Φ) : X (FM.bind f k) Γ Φ := by
  obtain ⟨v, g, e, w, g2, e2, p⟩ := h
  exact ⟨w, g2, by unfold FM.bind; rw [e]; exact e2, p⟩
theorem x_pure {v : α} {Φ : α → EnvF → Prop} (h : Φ v Γ) : X (FM.pure v) Γ Φ := ⟨v, Γ, rfl, h⟩
theorem x_of {o : Option α} {Φ : α → EnvF → Prop} (h : ∃ z, o = some z ∧ Φ z Γ) : X (fOf o) Γ Φ := by
  obtain ⟨z, e, p⟩ := h; subst e; exact ⟨z, Γ, rfl, p⟩
theorem x_V (h : X fa Γ (ValK Φ)) : X (fV fa) Γ Φ := by
  obtain ⟨v, g, e, p⟩ := h
  refine x_bind ⟨v, g, e, ?_⟩
  cases v with
  | val d => exact ⟨d, g, rfl, p⟩
  | _ => exact p.elim
theorem x_ofV (h : X (fV fa) Γ fun d Γ' => ΦV (.val d) Γ') : X fa Γ ΦV := by
  obtain ⟨d, g, e, p⟩ := h
  rcases FM.bind_some e with ⟨v, Γ1, e1, e2⟩ | ⟨_, _, _, _, _, er⟩
  · cases v with
    | val d' => cases e2; exact ⟨_, _, e1, p⟩
    | _ => cases e2
  · cases er
theorem x_R {f : FM D} (h : X f Γ Φ) : X (fV (fR f)) Γ Φ := x_V (x_bind (h.imp fun v g p => x_pure p))
/-! statements -/
theorem x_seq (h : X fS Γ (SeqK fT ΦS)) : X (fSeq fS fT) Γ ΦS := x_bind (h.imp fun v g p => by cases v <;> first | exact p | exact x_pure p)
theorem k_nx (h : X fT Γ ΦS) : SeqK fT ΦS .nx Γ := h
theorem k_rt {v : Vr} (h : ΦS (.rt v) Γ) : SeqK fT ΦS (.rt v) Γ := h
theorem x_nx (h : ΦS .nx Γ) : X fNx Γ ΦS := ⟨_, _, rfl, h⟩
theorem x_asgK {i : Nat} (h : X fa Γ (AsgK i ΦS)) : X (fAsg i fa) Γ ΦS := x_bind (h.imp fun v g p => by
  cases v with
  | val d => obtain ⟨_, e, p⟩ := p; subst e; exact ⟨_, _, rfl, p⟩
  | own o => obtain ⟨_, e, p⟩ := p; subst e; exact ⟨_, _, rfl, p⟩
  | slot j => exact p.elim)
theorem x_asg {i : Nat} (h : X (fV fa) Γ fun d Γ' => ∃ Γ2, Γ'.set i (.val d) = Γ2 ∧ ΦS .nx Γ2) : X (fAsg i fa) Γ ΦS := x_asgK (x_ofV h)
theorem x_drop (h : X (fV fa) Γ fun _ Γ' => ΦS .nx Γ') : X (fDrop fa) Γ ΦS := x_bind ((x_ofV (ΦV := fun _ g => ΦS .nx g) h).imp fun _ _ p => x_nx p)
theorem x_ret (h : X (fV fa) Γ fun d Γ' => ΦS (.rt (.val d)) Γ') : X (fRet fa) Γ ΦS := x_bind ((x_ofV (ΦV := RetK ΦS) h).imp fun v g p => by
  cases v with
  | val d => exact ⟨_, _, rfl, p⟩
  | own o => exact ⟨_, _, rfl, p⟩
  | slot i => obtain ⟨o, d, Γ2, e1, e2, e3, p⟩ := p; subst e3; exact ⟨_, _, by simp only [frz, e1, e2, Option.map_some], p⟩)
theorem x_retK (h : X fa Γ (RetK ΦS)) : X (fRet fa) Γ ΦS := x_bind (h.imp fun v g p => by
  cases v with
  | val d => exact ⟨_, _, rfl, p⟩
  | own o => exact ⟨_, _, rfl, p⟩
  | slot i => obtain ⟨o, d, Γ2, e1, e2, e3, p⟩ := p; subst e3; exact ⟨_, _, by simp only [frz, e1, e2, Option.map_some], p⟩)
theorem x_ifS (h : X ft Γ fun k Γ' => (k = true → X fS Γ' ΦS) ∧ (k = false → X fT Γ' ΦS)) : X (fIfS ft fS fT) Γ ΦS := x_bind (h.imp fun v g p => by cases v with | true => exact p.1 rfl | false => exact p.2 rfl)
theorem x_asgG {g : D → FM Unit} (h : X (fV fa) Γ fun d Γ' => X (g d) Γ' fun _ Γ2 => ΦS .nx Γ2) : X (fAsgG fa g) Γ ΦS := x_bind (h.imp fun d g p => x_bind (p.imp fun _ _ p => x_nx p))
theorem x_par {i j : Nat} (h : X (fVs fs) Γ fun ds Γ' => ∃ x y, ds = [x, y] ∧ ∃ Γ2, (Γ'.set i (.val x)).set j (.val y) = Γ2 ∧ ΦS .nx Γ2) : X (fPar i j fs) Γ ΦS := x_bind (h.imp fun d g p => by
  obtain ⟨x, y, e, Γ2, e2, p⟩ := p; subst e e2; exact ⟨_, _, rfl, p⟩)
theorem x_par3 {i j l : Nat} (h : X (fVs fs) Γ fun ds Γ' => ∃ x y z, ds = [x, y, z] ∧ ∃ Γ2, ((Γ'.set i (.val x)).set j (.val y)).set l (.val z) = Γ2 ∧ ΦS .nx Γ2) : X (fPar3 i j l fs) Γ ΦS := x_bind (h.imp fun d g p => by
  obtain ⟨x, y, z, e, Γ2, e2, p⟩ := p; subst e e2; exact ⟨_, _, rfl, p⟩)
theorem x_asg3 {i j l : Nat} (h : X (fV fa) Γ fun d Γ' => ∃ Γ2, ((Γ'.set i (.val d)).set j (.val d)).set l (.val d) = Γ2 ∧ ΦS .nx Γ2) : X (fAsg3 i j l fa) Γ ΦS := x_bind (h.imp fun d g p => by
  obtain ⟨Γ2, e2, p⟩ := p; subst e2; exact ⟨_, _, rfl, p⟩)
theorem x_aug {i : Nat} {f : D → D → Option D} (h : ∃ x, Γ[i]? = some (.val x) ∧ X (fV fa) Γ fun y Γ' => ∃ z, f x y = some z ∧ ∃ Γ2, Γ'.set i (.val z) = Γ2 ∧ ΦS .nx Γ2) : X (fAug i f fa) Γ ΦS := by
  obtain ⟨x, ex, y, g, e, z, ez, Γ2, e2, p⟩ := h
  subst e2
  exact ⟨_, _, by unfold fAug FM.bind; rw [ex]; simp only [e, ez, Option.map_some], p⟩
theorem x_for {w : FW} {g : D → FM Unit} (h : X w Γ fun ds Γ' => X (forL g fS ds) Γ' ΦS) : X (fFor w g fS) Γ ΦS := x_bind h
/-- a loop, by what holds when the items ds are left -/
theorem x_forL {g : D → FM Unit} (I : List D → EnvF → Prop) {ds : List D} (h : I ds Γ) (step : ∀ d ds Γ, I (d :: ds) Γ → X (g d) Γ fun _ Γ1 => X fS Γ1 (ForK (I ds) ΦS)) (fin : ∀ Γ, I [] Γ → ΦS .nx Γ) : X (forL g fS ds) Γ ΦS := by
  induction ds generalizing Γ with
  | nil => exact ⟨_, _, rfl, fin _ h⟩
  | cons d ds ih =>
    refine x_bind ((step d ds Γ h).imp fun _ g1 p => x_bind (p.imp fun v g2 p => ?_))
    cases v with
    | nx => exact ih p
    | ct => exact ih p
    | bk => exact ⟨_, _, rfl, p⟩
    | rt v => exact ⟨_, _, rfl, p⟩
theorem fk_nx {I : EnvF → Prop} (h : I Γ) : ForK I ΦS .nx Γ := h
theorem fk_rt {I : EnvF → Prop} {v : Vr} (h : ΦS (.rt v) Γ) : ForK I ΦS (.rt v) Γ := h
/-- while, by what holds when at most n turns are left -/
theorem x_while {n : Nat} (I : Nat → EnvF → Prop) (h : ∃ m, m < n ∧ I m Γ) (step : ∀ m Γ, I m Γ → X ft Γ fun k Γ' => (k = true → X fS Γ' (ForK (fun Γ2 => ∃ l, l < m ∧ I l Γ2) ΦS)) ∧ (k = false → ΦS .nx Γ')) : X (fWhile n ft fS) Γ ΦS := by
  unfold fWhile
  obtain ⟨m, hm, h⟩ := h
  induction n generalizing Γ m with
  | zero => omega
  | succ n ih =>
    refine x_bind ((step m Γ h).imp fun k g1 p => ?_)
    cases k with
    | false => exact ⟨_, _, rfl, p.2 rfl⟩
    | true =>
      refine x_bind ((p.1 rfl).imp fun v g2 p => ?_)
      cases v with
      | nx => obtain ⟨l, hl, hi⟩ := p; exact ih l (by omega) hi
      | ct => obtain ⟨l, hl, hi⟩ := p; exact ih l (by omega) hi
      | bk => exact ⟨_, _, rfl, p⟩
      | rt v => exact ⟨_, _, rfl, p⟩
theorem x_while0 {n : Nat} (h : X ft Γ fun k Γ' => k = false ∧ ΦS .nx Γ') : X (fWhile (n + 1) ft fS) Γ ΦS := x_bind (h.imp fun k g p => by obtain ⟨e, p⟩ := p; subst e; exact ⟨_, _, rfl, p⟩)
/-! expressions -/
theorem xv_c {d : D} (h : Φ d Γ) : X (fV (fC d)) Γ Φ := ⟨_, _, rfl, h⟩
theorem xv_var {i : Nat} {d : D} (e : Γ[i]? = some (.val d)) (h : Φ d Γ) : X (fV (fVar i)) Γ Φ := ⟨_, _, by unfold fV FM.bind fVar; rw [e]; rfl, h⟩
theorem x_varO {i k : Nat} {o : OD} (e : Γ[i]? = some (.own k o)) (h : ΦV (.slot i) Γ) : X (fVar i) Γ ΦV := ⟨_, _, by unfold fVar; rw [e], h⟩
theorem x_varV {i : Nat} {d : D} (e : Γ[i]? = some (.val d)) (h : ΦV (.val d) Γ) : X (fVar i) Γ ΦV := ⟨_, _, by unfold fVar; rw [e], h⟩
theorem xv_op {f : D → D → Option D} (h : X (fV fa) Γ fun x Γ1 => X (fV fb) Γ1 fun y Γ2 => ∃ z, f x y = some z ∧ Φ z Γ2) : X (fV (fOp f fa fb)) Γ Φ := x_R (x_bind (h.imp fun _ _ p => x_bind (p.imp fun _ _ p => x_of p)))
theorem xv_un {f : D → Option D} (h : X (fV fa) Γ fun x Γ1 => ∃ z, f x = some z ∧ Φ z Γ1) : X (fV (fUn f fa)) Γ Φ := x_R (x_bind (h.imp fun _ _ p => x_of p))
theorem xv_cb {f : List D → Option D} (h : X (fVs fs) Γ fun x Γ1 => ∃ z, f x = some z ∧ Φ z Γ1) : X (fV (fCB f fs)) Γ Φ := x_R (x_bind (h.imp fun _ _ p => x_of p))
theorem xs_nil (h : ΦL [] Γ) : X (fVs fNil) Γ ΦL := ⟨_, _, rfl, h⟩
theorem xs_cons (h : X (fV fa) Γ fun d Γ1 => X (fVs fr) Γ1 fun ds Γ2 => ΦL (d :: ds) Γ2) : X (fVs (fCons fa fr)) Γ ΦL := by
  obtain ⟨d, g, e, ds, g2, e2, p⟩ := h
  obtain ⟨v, g1, e3, p3⟩ := x_ofV (ΦV := fun v g' => v = .val d ∧ g' = g) ⟨d, g, e, rfl, rfl⟩
  obtain ⟨ev, eg⟩ := p3
  subst ev eg
  rcases FM.bind_some e2 with ⟨vs, g4, e4, e5⟩ | ⟨_, _, _, _, _, er⟩
  · cases ev : valsOf vs with
    | none => rw [ev] at e5; cases e5
    | some ds' =>
      rw [ev] at e5
      cases e5
      refine x_bind (x_bind ⟨_, _, e3, x_bind ⟨_, _, e4, x_pure (x_of ⟨_, ?_, p⟩)⟩⟩)
      simp only [valsOf, ev, Option.map_some]
  · cases er
theorem xa_nil (h : ΦA [] Γ) : X fNil Γ ΦA := ⟨_, _, rfl, h⟩
theorem xa_cons (h : X fa Γ fun d Γ1 => X fr Γ1 fun ds Γ2 => ΦA (d :: ds) Γ2) : X (fCons fa fr) Γ ΦA := x_bind (h.imp fun _ _ p => x_bind (p.imp fun _ _ p => x_pure p))
theorem xv_tup (h : X (fVs fs) Γ fun ds Γ' => ds.length ≤ 16777216 ∧ Φ (.tup ds) Γ') : X (fV (fTup fs)) Γ Φ := x_R (x_bind (h.imp fun ds g p => by rw [if_pos p.1]; exact x_pure p.2))
theorem xv_lst (h : X (fVs fs) Γ fun ds Γ' => ds.length ≤ 16777216 ∧ Φ (.lst ds) Γ') : X (fV (fLst fs)) Γ Φ := x_R (x_bind (h.imp fun ds g p => by rw [if_pos p.1]; exact x_pure p.2))
theorem x_lstO (h : X (fVs fs) Γ fun ds Γ' => ds.length ≤ 16777216 ∧ ΦV (.own (.lst ds)) Γ') : X (fLstO fs) Γ ΦV := x_bind (h.imp fun ds g p => by rw [if_pos p.1]; exact x_pure p.2)
theorem xv_if (h : X ft Γ fun k Γ' => (k = true → X (fV fa) Γ' Φ) ∧ (k = false → X (fV fb) Γ' Φ)) : X (fV (fIf ft fa fb)) Γ Φ := by
  obtain ⟨k, g, e, p⟩ := h
  refine x_V (x_bind ⟨k, g, e, ?_⟩)
  cases k with
  | true => exact x_ofV (p.1 rfl)
  | false => exact x_ofV (p.2 rfl)
theorem xv_andV (h : X (fV fa) Γ fun x Γ' => ∃ k, boolOf x = some k ∧ (k = true → X (fV fb) Γ' Φ) ∧ (k = false → Φ (.bl false) Γ')) : X (fV (fAndV fa fb)) Γ Φ := x_V (x_bind (h.imp fun x g p => by
  obtain ⟨k, e, p1, p2⟩ := p
  rw [e]
  cases k with
  | true => exact x_ofV (p1 rfl)
  | false => exact ⟨_, _, rfl, p2 rfl⟩))
theorem xv_orV (h : X (fV fa) Γ fun x Γ' => ∃ k, boolOf x = some k ∧ (k = true → Φ (.bl true) Γ') ∧ (k = false → X (fV fb) Γ' Φ)) : X (fV (fOrV fa fb)) Γ Φ := x_V (x_bind (h.imp fun x g p => by
  obtain ⟨k, e, p1, p2⟩ := p
  rw [e]
  cases k with
  | true => exact ⟨_, _, rfl, p1 rfl⟩
  | false => exact x_ofV (p2 rfl)))
theorem xv_notV (h : X (fV fa) Γ fun x Γ' => ∃ k, boolOf x = some k ∧ Φ (.bl !k) Γ') : X (fV (fNotV fa)) Γ Φ := x_V (x_bind (h.imp fun x g p => by obtain ⟨k, e, p⟩ := p; rw [e]; exact ⟨_, _, rfl, p⟩))
theorem xv_isN (h : X (fV fa) Γ fun x Γ' => Φ (.bl (isNon x)) Γ') : X (fV (fIsN fa)) Γ Φ := x_V (x_bind (h.imp fun x g p => x_pure p))
theorem xv_notN (h : X (fV fa) Γ fun x Γ' => Φ (.bl !(isNon x)) Γ') : X (fV (fNotN fa)) Γ Φ := x_V (x_bind (h.imp fun x g p => x_pure p))
theorem xt_test (h : X (fV fa) Γ fun x Γ' => ∃ k, boolOf x = some k ∧ ΦB k Γ') : X (fTest fa) Γ ΦB := x_bind (h.imp fun _ _ p => x_of p)
theorem xt_tru (h : X (fV fa) Γ fun x Γ' => ∃ k, truD x = some k ∧ ΦB k Γ') : X (fTru fa) Γ ΦB := x_bind (h.imp fun _ _ p => x_of p)
theorem xt_not (h : X ft Γ fun k Γ' => ΦB (!k) Γ') : X (fNot ft) Γ ΦB := x_bind (h.imp fun _ _ p => x_pure p)
theorem xt_and (h : X ft Γ fun k Γ' => (k = true → X fu Γ' ΦB) ∧ (k = false → ΦB false Γ')) : X (fAnd ft fu) Γ ΦB := x_bind (h.imp fun k g p => by cases k with | true => exact p.1 rfl | false => exact ⟨_, _, rfl, p.2 rfl⟩)
theorem xt_or (h : X ft Γ fun k Γ' => (k = true → ΦB true Γ') ∧ (k = false → X fu Γ' ΦB)) : X (fOr ft fu) Γ ΦB := x_bind (h.imp fun k g p => by cases k with | true => exact ⟨_, _, rfl, p.1 rfl⟩ | false => exact p.2 rfl)
theorem xt_yes (h : ΦB true Γ) : X fYes Γ ΦB := ⟨_, _, rfl, h⟩
/-! calls -/
theorem x_callF {F : FF} {vs : List Vr} {as : List Sl} {b : Ob} (e : argsOf vs Γ = some (as, b)) (h : Fp F as (BackK b ΦV Γ)) : X (callF F vs) Γ ΦV := by
  obtain ⟨v, o, ef, p⟩ := h
  cases b with
  | none => exact ⟨v, Γ, by unfold callF; rw [e]; simp only [ef]; rfl, p⟩
  | tmp => exact ⟨v, Γ, by unfold callF; rw [e]; simp only [ef]; rfl, p⟩
  | slot i =>
    cases o with
    | none => exact p.elim
    | some o =>
      obtain ⟨k, o0, Γ2, e1, e2, p⟩ := p
      subst e2
      exact ⟨v, _, by unfold callF; rw [e]; simp only [ef, putBack, e1, Option.map_some], p⟩
theorem x_call {F : FF} (h : X fs Γ fun vs Γ' => X (callF F vs) Γ' ΦV) : X (fCall F fs) Γ ΦV := x_bind h
theorem xv_call {F : FF} (h : X fs Γ fun vs Γ' => X (callF F vs) Γ' (ValK Φ)) : X (fV (fCall F fs)) Γ Φ := x_V (x_bind h)
theorem xv_callN {F : FF} {j l : Nat} {ix : List Nat} (h : X fs Γ fun vs Γ' => X fr Γ' fun ws Γ2 => vs.length = j ∧ ws.length = l ∧ X (callF F (permR ix (vs ++ ws))) Γ2 (ValK Φ)) : X (fV (fCallN F j l ix fs fr)) Γ Φ :=
  x_V (x_bind (x_bind (h.imp fun _ _ p => x_bind (p.imp fun _ _ p => x_pure (by rw [if_pos ⟨p.1, p.2.1⟩]; exact p.2.2)))))
theorem xv_cmeth {F : FF} {cn : Str} (h : X fs Γ fun vs Γ' => X (callF F (.val (.cls cn) :: vs)) Γ' (ValK Φ)) : X (fV (fCMeth cn F fs)) Γ Φ := x_V (x_bind h)
theorem xv_cmethN {F : FF} {cn : Str} {l : Nat} {ix : List Nat} (h : X fs Γ fun vs Γ' => vs.length = l ∧ X (callF F (permR ix (.val (.cls cn) :: vs))) Γ' (ValK Φ)) : X (fV (fCMethN cn F l ix fs)) Γ Φ := x_V (x_bind (h.imp fun _ _ p => by rw [if_pos p.1]; exact p.2))
theorem bk_none {v : Vr} {o : Option OD} (h : ΦV v Γ) : BackK .none ΦV Γ v o := h
theorem bk_tmp {v : Vr} {o : Option OD} (h : ΦV v Γ) : BackK .tmp ΦV Γ v o := h
theorem bk_slot {v : Vr} {o : OD} {i k : Nat} {o0 : OD} (e : Γ[i]? = some (.own k o0)) (h : ∃ Γ2, Γ.set i (.own k o) = Γ2 ∧ ΦV v Γ2) : BackK (.slot i) ΦV Γ v (some o) := let ⟨Γ2, e2, p⟩ := h; ⟨k, o0, Γ2, e, e2, p⟩
theorem vk_val {d : D} (h : Φ d Γ) : ValK Φ (.val d) Γ := h
theorem ak_val {i : Nat} {d : D} (h : ∃ Γ2, Γ.set i (.val d) = Γ2 ∧ ΦS .nx Γ2) : AsgK i ΦS (.val d) Γ := h
theorem ak_own {i : Nat} {o : OD} (h : ∃ Γ2, Γ.set i (.own 0 o) = Γ2 ∧ ΦS .nx Γ2) : AsgK i ΦS (.own o) Γ := h
theorem rk_val {d : D} (h : ΦS (.rt (.val d)) Γ) : RetK ΦS (.val d) Γ := h
theorem rk_own {o : OD} (h : ΦS (.rt (.own o)) Γ) : RetK ΦS (.own o) Γ := h
/-- a def's promise, by its body -/
theorem f_def {k n : Nat} {b : FS} {as : List Sl} {Φ : Vr → Option OD → Prop} (hk : as.length = k) (h : X b (as ++ List.replicate (n - as.length) .no) (EndK as Φ)) : Fp (okF (defF k n b)) as Φ := by
  obtain ⟨fl, g, e, p⟩ := h
  cases fl with
  | nx => obtain ⟨o, eo, p⟩ := p; exact ⟨_, o, by unfold okF defF; rw [if_pos hk, e]; simp only [eo, Option.map_some], p⟩
  | bk => exact p.elim
  | ct => exact p.elim
  | rt v =>
    cases v with
    | val d => obtain ⟨o, eo, p⟩ := p; exact ⟨_, o, by unfold okF defF; rw [if_pos hk, e]; simp only [eo, Option.map_some], p⟩
    | own x => obtain ⟨o, eo, p⟩ := p; exact ⟨_, o, by unfold okF defF; rw [if_pos hk, e]; simp only [eo, Option.map_some], p⟩
    | slot i => exact p.elim
theorem en_val {as : List Sl} {o : Option OD} {d : D} {Φ : Vr → Option OD → Prop} (e : endO as Γ = some o) (p : Φ (.val d) o) : EndK as Φ (.rt (.val d)) Γ := ⟨o, e, p⟩
theorem en_own {as : List Sl} {o : Option OD} {d : OD} {Φ : Vr → Option OD → Prop} (e : endO as Γ = some o) (p : Φ (.own d) o) : EndK as Φ (.rt (.own d)) Γ := ⟨o, e, p⟩
theorem en_nx {as : List Sl} {o : Option OD} {Φ : Vr → Option OD → Prop} (e : endO as Γ = some o) (p : Φ (.val .non) o) : EndK as Φ .nx Γ := ⟨o, e, p⟩
theorem Fp.eq {F : FF} {as : List Sl} {v : Vr} {o : Option OD} (h : Fp F as fun v' o' => v' = v ∧ o' = o) : F as = some (.ok v o) := by obtain ⟨v', o', e, h1, h2⟩ := h; subst h1 h2; exact e
theorem fp_of {F : FF} {as : List Sl} {v : Vr} {o : Option OD} {Φ : Vr → Option OD → Prop} (e : F as = some (.ok v o)) (h : Φ v o) : Fp F as Φ := ⟨v, o, e, h⟩
theorem Fp.imp {F : FF} {as : List Sl} {Φ Φ' : Vr → Option OD → Prop} (h : Fp F as Φ) (i : ∀ v o, Φ v o → Φ' v o) : Fp F as Φ' := let ⟨v, o, e, p⟩ := h; ⟨v, o, e, i _ _ p⟩
/-! instances -/
theorem xv_fld {cn f : Str} (h : X fa Γ fun v Γ' => ∃ gs d, fieldsOf cn v Γ' = some gs ∧ gs.lookup f = some d ∧ Φ d Γ') : X (fV (fFld cn f fa)) Γ Φ := x_V (x_bind (h.imp fun v g p => by
  obtain ⟨gs, d, e1, e2, p⟩ := p
  exact ⟨.val d, g, by simp only [e1, e2, Option.map_some], p⟩))
theorem xv_prop {cn : Str} {F : FF} (h : X fa Γ fun v Γ' => ∃ gs, fieldsOf cn v Γ' = some gs ∧ X (callF F [v]) Γ' (ValK Φ)) : X (fV (fProp cn F fa)) Γ Φ := x_V (x_bind (h.imp fun v g p => by
  obtain ⟨gs, e, v2, g2, e2, p⟩ := p
  exact ⟨v2, g2, by simp only [e]; exact e2, p⟩))
theorem x_setF {cn f : Str} {i : Nat} (h : X (fV fa) Γ fun d Γ' => ∃ k gs Γ2, Γ'[i]? = some (.own k (.ins cn gs)) ∧ gs.length < 1000 ∧ Γ'.set i (.own k (.ins cn (putD f d gs))) = Γ2 ∧ ΦS .nx Γ2) : X (fSetF cn f i fa) Γ ΦS := x_bind (h.imp fun d g p => by
  obtain ⟨k, gs, Γ2, e1, e2, e3, p⟩ := p
  subst e3
  exact ⟨_, _, by simp [e1, e2], p⟩)
theorem xv_make {cn : Str} {F : FF} (h : X (fVs fs) Γ fun ds Γ' => Fp F (.own 1 (.ins cn []) :: ds.map .val) fun v o => v = .val .non ∧ ∃ c gs, o = some (.ins c gs) ∧ Φ (.ins c gs) Γ') : X (fV (fMake cn F fs)) Γ Φ := x_V (x_bind (h.imp fun ds g p => by
  obtain ⟨v, o, e, e1, c, gs, e2, p⟩ := p
  subst e1 e2
  rw [e]
  exact ⟨_, _, rfl, p⟩))
theorem xv_makeN {cn : Str} {F : FF} {j l : Nat} {ix : List Nat} (h : X (fVs fs) Γ fun vs Γ1 => X (fVs fr) Γ1 fun ws Γ' => vs.length = j ∧ ws.length = l ∧ Fp F (.own 1 (.ins cn []) :: (ix.map fun i => (vs ++ ws).getD i .non).map .val) fun v o => v = .val .non ∧ ∃ c gs, o = some (.ins c gs) ∧ Φ (.ins c gs) Γ') : X (fV (fMakeN cn F j l ix fs fr)) Γ Φ := x_V (x_bind (x_bind (h.imp fun vs g p => x_bind (p.imp fun ws g p => x_pure (by
  obtain ⟨h1, h2, v, o, e, e1, c, gs, e2, p⟩ := p
  subst e1 e2
  rw [if_pos ⟨h1, h2⟩]
  dsimp only
  rw [e]
  exact ⟨_, _, rfl, p⟩)))))
theorem xv_makeL {cn : Str} {F : FF} {i : Nat} (e : Γ[i]? = some (.val (.cls cn))) (h : X (fV (fMake cn F fs)) Γ Φ) : X (fV (fMakeL cn F i fs)) Γ Φ := by
  obtain ⟨v, g, e1, p⟩ := x_ofV (ΦV := ValK Φ) h
  exact x_V ⟨v, g, by unfold fMakeL; simp only [e, if_pos]; exact e1, p⟩
/-! targets -/
theorem xg_name {i : Nat} {d : D} (h : ∃ Γ2, Γ.set i (.val d) = Γ2 ∧ ΦU () Γ2) : X (pName i d) Γ ΦU := by obtain ⟨_, e, p⟩ := h; subst e; exact ⟨_, _, rfl, p⟩
theorem xg_nil (h : ΦU () Γ) : X (pNil []) Γ ΦU := ⟨_, _, rfl, h⟩
theorem xg_cons {f : D → FM Unit} {g : List D → FM Unit} {d : D} {ds : List D} (h : X (f d) Γ fun _ Γ1 => X (g ds) Γ1 ΦU) : X (pCons f g (d :: ds)) Γ ΦU := x_bind h
theorem xg_tup {k : Nat} {f : List D → FM Unit} {ds : List D} (hk : ds.length = k) (h : X (f ds) Γ ΦU) : X (pTup k f (.tup ds)) Γ ΦU := by unfold pTup; simp only [hk, if_pos]; exact h
theorem xg_unl {k : Nat} {f : List D → FM Unit} {ds : List D} (hk : ds.length = k) (h : X (f ds) Γ ΦU) : X (pUnl k f (.lst ds)) Γ ΦU := by unfold pUnl; simp only [hk, if_pos]; exact h
theorem xg_sub {i k0 : Nat} {o0 : OD} {d : D} (e0 : Γ[i]? = some (.own k0 o0)) (h : X (fV fb) Γ fun y Γ' => ∃ k ds j n Γ2, lstAt i Γ' = some (k, ds) ∧ y = .int j ∧ ixN ds.length j = some n ∧ Γ'.set i (.own k (.lst (ds.set n d))) = Γ2 ∧ ΦU () Γ2) : X (pSub i fb d) Γ ΦU := by
  obtain ⟨y, g, e, k, ds, j, n, Γ2, e1, e2, e3, e4, p⟩ := h
  subst e2 e4
  exact ⟨_, _, by unfold pSub hasOwn FM.bind; simp only [e0, e, e1, e3, Option.map_some], p⟩
theorem xv_ixO {i k0 : Nat} {o0 : OD} (e0 : Γ[i]? = some (.own k0 o0)) (h : X (fV fb) Γ fun y Γ' => ∃ k ds j d, lstAt i Γ' = some (k, ds) ∧ y = .int j ∧ atI ds j = some d ∧ Φ d Γ') : X (fV (fIxO i fb)) Γ Φ := by
  obtain ⟨y, g, e, k, ds, j, d, e1, e2, e3, p⟩ := h
  subst e2
  exact x_V ⟨.val d, g, by unfold fIxO hasOwn FM.bind; simp only [e0, e, e1, e3, Option.map_some], p⟩
theorem xv_append {i k : Nat} {ds : List D} (e0 : lstAt i Γ = some (k, ds)) (h : X (fV fb) Γ fun y Γ' => ∃ k ds Γ2, lstAt i Γ' = some (k, ds) ∧ ds.length < 16777216 ∧ Γ'.set i (.own k (.lst (ds ++ [y]))) = Γ2 ∧ Φ .non Γ2) : X (fV (fAppend i fb)) Γ Φ := by
  obtain ⟨y, g, e, k, ds, Γ2, e1, e2, e3, p⟩ := h
  subst e3
  exact x_V ⟨.val .non, _, by unfold fAppend hasLst FM.bind; simp only [e0, e, e1, e2, if_pos], p⟩
theorem xv_pk {Γs : EnvF} (hs : Γ.map seeO = Γs) (h : X (fV fa) Γs fun d _ => flat d = true ∧ Φ d Γ) : X (fV (fPk fa)) Γ Φ := by
  subst hs
  obtain ⟨v, g, e, p⟩ := x_ofV (ΦV := ValK fun d _ => flat d = true ∧ Φ d Γ) h
  cases v with
  | val d => exact x_V ⟨.val d, Γ, by unfold fPk; rw [e]; simp only [p.1, if_pos], p.2⟩
  | _ => exact p.elim
theorem xt_pk {Γs : EnvF} (hs : Γ.map seeO = Γs) (h : X ft Γs fun k _ => ΦB k Γ) : X (fPkT ft) Γ ΦB := by
  subst hs
  obtain ⟨k, g, e, p⟩ := h
  exact ⟨k, Γ, by unfold fPkT; rw [e], p⟩
/-! methods, slices, f-strings -/
theorem xv_bm {T : String} {f : D → List D → Option D} (h : X (fV fa) Γ fun x Γ1 => tyS x = some T ∧ X (fVs fs) Γ1 fun xs Γ2 => ∃ z, f x xs = some z ∧ Φ z Γ2) : X (fV (fBM T f fa fs)) Γ Φ := x_V (x_bind (h.imp fun x g p => by
  rw [if_pos p.1]
  exact x_bind (p.2.imp fun _ _ p => x_ofV (x_R (x_of p)))))
theorem xv_bm0 {T : String} {f : D → List D → Option D} (h : X (fV fa) Γ fun x Γ1 => tyS x = some T ∧ ∃ z, f x [] = some z ∧ Φ z Γ1) : X (fV (fBM0 T f fa)) Γ Φ := x_V (x_bind (h.imp fun x g p => by
  rw [if_pos p.1]
  exact x_ofV (x_R (x_of p.2))))
theorem xv_sl {fl fh : FO} (h : X (fV fa) Γ fun x Γ1 => X fl Γ1 fun lo Γ2 => X fh Γ2 fun hi Γ3 => ∃ z, slD x lo hi = some z ∧ Φ z Γ3) : X (fV (fSl fa fl fh)) Γ Φ := x_V (x_bind (h.imp fun x g p => x_bind (p.imp fun lo g p => x_bind (p.imp fun hi g p => x_ofV (x_R (x_of p))))))
theorem xo_no (h : ΦO none Γ) : X fNoPart Γ ΦO := ⟨_, _, rfl, h⟩
theorem xo_some (h : X (fV fa) Γ fun x Γ1 => ∃ i, x = .int i ∧ ΦO (some i) Γ1) : X (fPart fa) Γ ΦO := x_bind (h.imp fun x g p => by obtain ⟨i, e, p⟩ := p; subst e; exact ⟨_, _, rfl, p⟩)
theorem xv_revS (h : X (fV fa) Γ fun x Γ1 => ∃ z, x = .str z ∧ z.length ≤ 16777216 ∧ Φ (.str (revS z)) Γ1) : X (fV (fRevS fa)) Γ Φ := x_V (x_bind (h.imp fun x g p => by obtain ⟨z, e, e2, p⟩ := p; subst e; simp only [e2, if_pos]; exact ⟨_, _, rfl, p⟩))
theorem xv_revL (h : X (fV fa) Γ fun x Γ1 => ∃ z, (match x with | .lst ds => some (.lst ds.reverse) | .scr ns => some (.lst (ns.map D.int).reverse) | _ => none) = some z ∧ Φ z Γ1) : X (fV (fRevL fa)) Γ Φ := x_V (x_bind (h.imp fun x g p => x_ofV (x_R (x_of p))))
theorem xv_fmt (h : X (fV fa) Γ fun x Γ1 => ∃ z, fmtD x = some z ∧ Φ z Γ1) : X (fV (fFmt fa)) Γ Φ := x_V (x_bind (h.imp fun x g p => x_ofV (x_R (x_of p))))
theorem xv_joined {l : List FE} (h : X (fJs l Str.empty) Γ fun z Γ1 => Φ (.str z) Γ1) : X (fV (fJoined l)) Γ Φ := x_V (x_bind (h.imp fun _ _ p => x_pure p))
theorem xj_nil {acc : Str} {ΦT : Str → EnvF → Prop} (h : ΦT acc Γ) : X (fJs [] acc) Γ ΦT := ⟨_, _, rfl, h⟩
theorem xj_cons {l : List FE} {acc : Str} {ΦT : Str → EnvF → Prop} (h : X (fV fa) Γ fun x Γ1 => ∃ y, x = .str y ∧ (acc ++ y).length ≤ 16777216 ∧ X (fJs l (acc ++ y)) Γ1 ΦT) : X (fJs (fa :: l) acc) Γ ΦT := x_bind (h.imp fun x g p => by obtain ⟨y, e, e2, p⟩ := p; subst e; simp only [e2, if_pos]; exact p)
/-! what is walked; comprehensions -/
theorem xw_any {Φ : List D → EnvF → Prop} (h : X (fV fa) Γ fun d Γ' => ∃ ds, itemsOf d = some ds ∧ Φ ds Γ') : X (wAny fa) Γ Φ := x_bind (h.imp fun _ _ p => x_of p)
theorem xw_rng1 {Φ : List D → EnvF → Prop} (h : X (fVs fs) Γ fun ds Γ' => ∃ j, ds = [.int j] ∧ (-(2 ^ 62) ≤ j ∧ j < 2 ^ 62) ∧ Φ (rangeD 0 j) Γ') : X (wRng1 fs) Γ Φ := x_bind (h.imp fun _ _ p => by obtain ⟨j, e, e2, p⟩ := p; subst e; simp only [e2, and_self, if_pos]; exact ⟨_, _, rfl, p⟩)
theorem xw_rng2 {Φ : List D → EnvF → Prop} (h : X (fVs fs) Γ fun ds Γ' => ∃ i j, ds = [.int i, .int j] ∧ (-(2 ^ 62) ≤ i ∧ i < 2 ^ 62 ∧ -(2 ^ 62) ≤ j ∧ j < 2 ^ 62) ∧ Φ (rangeD i j) Γ') : X (wRng2 fs) Γ Φ := x_bind (h.imp fun _ _ p => by obtain ⟨i, j, e, e2, p⟩ := p; subst e; simp only [e2, and_self, if_pos]; exact ⟨_, _, rfl, p⟩)
theorem xv_lc {w : FW} {g : D → FM Unit} {vs : List Nat} (h : X w Γ fun ds Γ' => ds.length < 16777216 ∧ X (lcL g ft fa vs ds []) Γ' fun acc Γ2 => Φ (.lst acc) Γ2) : X (fV (fLc w g ft fa vs)) Γ Φ := x_V (x_bind (h.imp fun ds g p => by rw [if_pos p.1]; exact x_bind (p.2.imp fun _ _ p => x_pure p)))
/-- a comprehension, by what holds when the items ds are left and acc is made -/
theorem x_lcL {g : D → FM Unit} {vs : List Nat} (I : List D → List D → EnvF → Prop) {ds acc : List D} (h : I ds acc Γ)
    (step : ∀ d ds acc Γ, I (d :: ds) acc Γ → ∃ Γw, wipeF Γ vs = Γw ∧ (vs.all fun v => !isOwn (Γ.getD v .no)) = true ∧ X (g d) Γw fun _ Γ1 => X ft Γ1 fun k Γ2 => (k = true → X (fV fa) Γ2 fun y Γ3 => (backF Γ Γ3 vs).map isOwn = Γ.map isOwn ∧ I ds (acc ++ [y]) (backF Γ Γ3 vs)) ∧ (k = false → (backF Γ Γ2 vs).map isOwn = Γ.map isOwn ∧ I ds acc (backF Γ Γ2 vs)))
    (fin : ∀ acc Γ, I [] acc Γ → ΦL acc Γ) : X (lcL g ft fa vs ds acc) Γ ΦL := by
  induction ds generalizing Γ acc with
  | nil => exact ⟨_, _, rfl, fin _ _ h⟩
  | cons d ds ih =>
    obtain ⟨Γw, ew, ho, p⟩ := step d ds acc Γ h
    subst ew
    have t : X (lcTurn g ft fa d acc) (wipeF Γ vs) fun acc' Γ3 => (backF Γ Γ3 vs).map isOwn = Γ.map isOwn ∧ I ds acc' (backF Γ Γ3 vs) := x_bind (p.imp fun _ _ p => x_bind (p.imp fun k g2 p => by
      cases k with
      | true => rw [if_pos rfl]; exact x_bind ((p.1 rfl).imp fun _ _ p => x_pure p)
      | false => rw [if_neg (by simp)]; exact x_pure (p.2 rfl)))
    obtain ⟨acc', Γ3, e, e2, hi⟩ := t
    obtain ⟨r, Γe, e3, pe⟩ := ih hi
    exact ⟨r, Γe, by unfold lcL; rw [e]; simp only [ho, e2, and_self, if_pos]; exact e3, pe⟩
end
end DF

set_option linter.all false
set_option maxRecDepth 100000
set_option maxHeartbeats 4000000
namespace DF
open PySem PySem.Spec PyProof.Rows L2
variable [TbC]
section
variable {x y z : D} {b : Bool} {xs : List D} {Φ : D → Prop} {ΦB : Bool → Prop} {ΦE : EnvF → Prop} {ΦL : List D → Prop}
theorem e_addD (e : addD x y = some z) (p : Φ z) : ∃ z, addD x y = some z ∧ Φ z := ⟨z, e, p⟩
theorem e_subD (e : subD x y = some z) (p : Φ z) : ∃ z, subD x y = some z ∧ Φ z := ⟨z, e, p⟩
theorem e_ltD (e : ltD x y = some z) (p : Φ z) : ∃ z, ltD x y = some z ∧ Φ z := ⟨z, e, p⟩
theorem e_leD (e : leD x y = some z) (p : Φ z) : ∃ z, leD x y = some z ∧ Φ z := ⟨z, e, p⟩
theorem e_gtD (e : gtD x y = some z) (p : Φ z) : ∃ z, gtD x y = some z ∧ Φ z := ⟨z, e, p⟩
theorem e_geD (e : geD x y = some z) (p : Φ z) : ∃ z, geD x y = some z ∧ Φ z := ⟨z, e, p⟩
theorem e_ixD (e : ixD x y = some z) (p : Φ z) : ∃ z, ixD x y = some z ∧ Φ z := ⟨z, e, p⟩
theorem e_negD (e : negD x = some z) (p : Φ z) : ∃ z, negD x = some z ∧ Φ z := ⟨z, e, p⟩
theorem e_lenD (e : lenD xs = some z) (p : Φ z) : ∃ z, lenD xs = some z ∧ Φ z := ⟨z, e, p⟩
theorem e_absD (e : absD xs = some z) (p : Φ z) : ∃ z, absD xs = some z ∧ Φ z := ⟨z, e, p⟩
theorem e_intOf (e : intOf xs = some z) (p : Φ z) : ∃ z, intOf xs = some z ∧ Φ z := ⟨z, e, p⟩
theorem e_allD (e : allD xs = some z) (p : Φ z) : ∃ z, allD xs = some z ∧ Φ z := ⟨z, e, p⟩
theorem e_tupOf (e : tupOf xs = some z) (p : Φ z) : ∃ z, tupOf xs = some z ∧ Φ z := ⟨z, e, p⟩
theorem e_lstOf (e : lstOf xs = some z) (p : Φ z) : ∃ z, lstOf xs = some z ∧ Φ z := ⟨z, e, p⟩
theorem e_boolOf (e : boolOf x = some b) (p : ΦB b) : ∃ b, boolOf x = some b ∧ ΦB b := ⟨b, e, p⟩
theorem e2_boolOf {P Q : Bool → Prop} (e : boolOf x = some b) (p : P b) (q : Q b) : ∃ b, boolOf x = some b ∧ P b ∧ Q b := ⟨b, e, p, q⟩
theorem e_truD (e : truD x = some b) (p : ΦB b) : ∃ b, truD x = some b ∧ ΦB b := ⟨b, e, p⟩
theorem e_itemsOf (e : itemsOf x = some xs) (p : ΦL xs) : ∃ z, itemsOf x = some z ∧ ΦL z := ⟨xs, e, p⟩
theorem e_slD {lo hi : Option Int} (e : slD x lo hi = some z) (p : Φ z) : ∃ z, slD x lo hi = some z ∧ Φ z := ⟨z, e, p⟩
theorem e_isiD {cs : List Str} {tb : ITab} (e : isiD cs tb xs = some z) (p : Φ z) : ∃ z, isiD cs tb xs = some z ∧ Φ z := ⟨z, e, p⟩
theorem e_intD {f : Int → Int → D} (e : intD f x y = some z) (p : Φ z) : ∃ z, intD f x y = some z ∧ Φ z := ⟨z, e, p⟩
theorem e_boolI {n : Str} (e : boolI n xs = some z) (p : Φ z) : ∃ z, boolI n xs = some z ∧ Φ z := ⟨z, e, p⟩
theorem e_ixO {Γ : EnvF} {i k : Nat} {ds : List D} {j : Int} {d : D} (e1 : lstAt i Γ = some (k, ds)) (e2 : atI ds j = some d) (p : Φ d) : ∃ k ds j' d, lstAt i Γ = some (k, ds) ∧ D.int j = .int j' ∧ atI ds j' = some d ∧ Φ d := ⟨k, ds, j, d, e1, rfl, e2, p⟩
theorem e_sub {Γ Γ2 : EnvF} {i k n : Nat} {ds : List D} {j : Int} {d : D} (e1 : lstAt i Γ = some (k, ds)) (e3 : ixN ds.length j = some n) (e4 : Γ.set i (.own k (.lst (ds.set n d))) = Γ2) (p : ΦE Γ2) : ∃ k ds j' n Γ2, lstAt i Γ = some (k, ds) ∧ D.int j = .int j' ∧ ixN ds.length j' = some n ∧ Γ.set i (.own k (.lst (ds.set n d))) = Γ2 ∧ ΦE Γ2 := ⟨k, ds, j, n, Γ2, e1, rfl, e3, e4, p⟩
theorem e_set {Γ Γ2 : EnvF} {ΦE : EnvF → Prop} (e : Γ = Γ2) (p : ΦE Γ2) : ∃ Γ2, Γ = Γ2 ∧ ΦE Γ2 := ⟨Γ2, e, p⟩
theorem e_some {i : Int} {ΦI : Int → Prop} (p : ΦI i) : ∃ j, D.int i = .int j ∧ ΦI j := ⟨i, rfl, p⟩
theorem e_fields {c : Str} {v : Vr} {Γ : EnvF} {gs : List (Str × D)} {f : Str} {d : D} (e : fieldsOf c v Γ = some gs) (e2 : gs.lookup f = some d) (p : Φ d) : ∃ gs d, fieldsOf c v Γ = some gs ∧ gs.lookup f = some d ∧ Φ d := ⟨gs, d, e, e2, p⟩
theorem e_has {c : Str} {v : Vr} {Γ : EnvF} {gs : List (Str × D)} {P : Prop} (e : fieldsOf c v Γ = some gs) (p : P) : ∃ gs, fieldsOf c v Γ = some gs ∧ P := ⟨gs, e, p⟩
theorem e_rng {j : Int} {ΦI : Int → Prop} (h : -(2 ^ 62) ≤ j ∧ j < 2 ^ 62) (p : ΦI j) : ∃ i, [D.int j] = [.int i] ∧ (-(2 ^ 62) ≤ i ∧ i < 2 ^ 62) ∧ ΦI i := ⟨j, rfl, h, p⟩
theorem e_par {Γ Γ2 : EnvF} {i j : Nat} (e : (Γ.set i (.val x)).set j (.val y) = Γ2) (p : ΦE Γ2) : ∃ u v, [x, y] = [u, v] ∧ ∃ Γ2, (Γ.set i (.val u)).set j (.val v) = Γ2 ∧ ΦE Γ2 := ⟨x, y, rfl, Γ2, e, p⟩
theorem e_par3 {Γ Γ2 : EnvF} {i j l : Nat} (e : ((Γ.set i (.val x)).set j (.val y)).set l (.val z) = Γ2) (p : ΦE Γ2) : ∃ u v w, [x, y, z] = [u, v, w] ∧ ∃ Γ2, ((Γ.set i (.val u)).set j (.val v)).set l (.val w) = Γ2 ∧ ΦE Γ2 := ⟨x, y, z, rfl, Γ2, e, p⟩
theorem e_setF {Γ Γ2 : EnvF} {i k : Nat} {c f : Str} {d : D} {gs : List (Str × D)} (e1 : Γ[i]? = some (.own k (.ins c gs))) (e2 : gs.length < 1000) (e3 : Γ.set i (.own k (.ins c (putD f d gs))) = Γ2) (p : ΦE Γ2) : ∃ k gs Γ2, Γ[i]? = some (.own k (.ins c gs)) ∧ gs.length < 1000 ∧ Γ.set i (.own k (.ins c (putD f d gs))) = Γ2 ∧ ΦE Γ2 := ⟨k, gs, Γ2, e1, e2, e3, p⟩
theorem e_str {z : Str} {ΦZ : Str → Prop} (p : ΦZ z) : ∃ y, D.str z = .str y ∧ ΦZ y := ⟨z, rfl, p⟩
theorem e_rev {ds : List D} (p : Φ (.lst ds.reverse)) : ∃ z, (match D.lst ds with | .lst ds => some (D.lst ds.reverse) | .scr ns => some (.lst (ns.map D.int).reverse) | _ => none) = some z ∧ Φ z := ⟨_, rfl, p⟩
theorem mulOk_r {i j : Int} (h : -(2 ^ 64) < j) (h2 : j < 2 ^ 64) : mulOk i j = true := by unfold mulOk; simp only [h, h2, decide_true, Bool.and_self, Bool.or_true, Bool.true_or]
theorem mulOk_l {i j : Int} (h : -(2 ^ 64) < i) (h2 : i < 2 ^ 64) : mulOk i j = true := by unfold mulOk; simp only [h, h2, decide_true, Bool.and_self, Bool.or_true, Bool.true_or]
theorem r_mul {i j : Int} (h : mulOk i j = true) (p : Φ (.int (i * j))) : ∃ z, mulD (.int i) (.int j) = some z ∧ Φ z := ⟨_, by unfold mulD; simp only [h, if_pos], p⟩
theorem r_mod {i j : Int} (h : 0 < j) (p : Φ (.int (i % j))) : ∃ z, modD (.int i) (.int j) = some z ∧ Φ z := ⟨_, by unfold modD intC; simp only [h, decide_true, if_pos], p⟩
theorem r_fdiv {i j : Int} (h : 0 < j) (h2 : j.natAbs.log2 < 9000) (p : Φ (.int (i / j))) : ∃ z, fdivD (.int i) (.int j) = some z ∧ Φ z := ⟨_, by unfold fdivD intC; simp only [h, h2, decide_true, Bool.and_self, if_pos], p⟩
theorem r_divmod {i j : Int} (h : 0 < j) (h2 : j < 1073741824) (p : Φ (.tup [.int (i / j), .int (i % j)])) : ∃ z, divmodD [.int i, .int j] = some z ∧ Φ z := ⟨_, by unfold divmodD; simp only [h, h2, and_self, if_pos], p⟩
theorem r_addL {i j : List D} (h : i.length + j.length ≤ 16777216) (p : Φ (.lst (i ++ j))) : ∃ z, addD (.lst i) (.lst j) = some z ∧ Φ z := ⟨_, by unfold addD; simp only [h, if_pos], p⟩
end
end DF

set_option linter.all false
set_option maxRecDepth 100000
set_option maxHeartbeats 4000000
namespace DF
open PySem PySem.Spec PyProof.Rows L2 TL NumText
variable [TbC]
/-! ### the signs of a number -/
def tlI (i : Int) : List Nat := if i < 0 then 45 :: numL i.natAbs else numL i.natAbs
end DF

set_option linter.all false
set_option maxRecDepth 100000
set_option maxHeartbeats 4000000
namespace DF
open PySem PySem.Spec PyProof.Rows L2 TL NumText
variable [TbC]
/-! ### repr and == of plain data: bounds -/
mutual
def big : D → Nat
  | .int _ => 1921 | .non => 4 | .bl _ => 5 | .tup ds => bigL ds + 3 | .lst ds => bigL ds + 3
  | .str z => 10 * z.length + 2 | .cls _ => 0 | .ty _ => 0 | .scr _ => 0 | .ins _ _ => 0 | .dct _ => 0
def bigL : List D → Nat
  | [] => 0 | d :: ds => big d + 2 + bigL ds
end
mutual
def okD : D → Prop
  | .int i => i.natAbs < 10 ^ 200 | .non => True | .bl _ => True | .tup ds => okL ds | .lst ds => okL ds
  | .str z => ∀ c ∈ tl z, c < 1114112 | .cls _ => False | .ty _ => False | .scr _ => False | .ins _ _ => False | .dct _ => False
def okL : List D → Prop
  | [] => True | d :: ds => okD d ∧ okL ds
end
mutual
def dep : D → Nat
  | .int _ => 0 | .non => 0 | .bl _ => 0 | .tup ds => depL ds + 1 | .lst ds => depL ds + 1
  | .str _ => 0 | .cls _ => 0 | .ty _ => 0 | .scr _ => 0 | .ins _ _ => 0 | .dct _ => 0
def depL : List D → Nat
  | [] => 0 | d :: ds => max (dep d) (depL ds)
end
set_option exponentiation.threshold 3000 in
theorem log_lt {x : Nat} (h : x < 10 ^ 200) : x.log2 < 700 := by
  by_cases h0 : x = 0
  · subst h0; decide
  · rw [Nat.log2_lt h0]
    exact Nat.lt_trans h (by decide)
structure ShD (d : D) (p : PyData) (b k : Nat) : Prop where
  sh : p.showable = true
  ln : p.shown.length ≤ b
  nd : p.hasDict = false
  pu : pur d = true
  dp : p.depth = k
structure ShL (ds : List D) (ps : List PyData) (b k : Nat) : Prop where
  sh : PyData.showableAll ps = true
  ln : ((PyData.shownAll ps).map (·.length)).sum + 2 * (PyData.shownAll ps).length ≤ b
  nd : PyData.hasDictAll ps = false
  pu : purL ds = true
  dp : PyData.depthAll ps = k
mutual
theorem shown_le : ∀ d : D, okD d → ShD d (py d) (big d) (dep d)
  | .int i, h => by
    have h' : i.natAbs < 10 ^ 200 := h
    refine ⟨?_, ?_, rfl, rfl, rfl⟩
    · show decide (i.natAbs.log2 < 1920) = true
      exact decide_eq_true (Nat.lt_trans (log_lt h') (by decide))
    · exact int_text_len_1921 (Nat.lt_trans (log_lt h') (by decide))
  | .non, _ => ⟨rfl, (by show (Str.ofString "None").length ≤ 4; decide +kernel), rfl, rfl, rfl⟩
  | .bl b, _ => ⟨rfl, (by cases b; (show (Str.ofString "False").length ≤ 5; decide +kernel); (show (Str.ofString "True").length ≤ 5; decide +kernel)), rfl, rfl, rfl⟩
  | .tup ds, h => by
    obtain ⟨h1, h2, h3, h4, h5⟩ := shownL_le ds h
    refine ⟨h1, ?_, h3, h4, by show PyData.depthAll (pyL ds) + 1 = depL ds + 1; rw [h5]⟩
    exact Nat.le_trans (tupleText_len_le _) (Nat.add_le_add_right h2 3)
  | .lst ds, h => by
    obtain ⟨h1, h2, h3, h4, h5⟩ := shownL_le ds h
    refine ⟨h1, ?_, h3, h4, by show PyData.depthAll (pyL ds) + 1 = depL ds + 1; rw [h5]⟩
    exact Nat.le_trans (listText_len_le _) (Nat.add_le_add_right h2 3)
  | .str z, h => by
    have h' : ∀ c ∈ z.cps.toList, c < 1114112 := h
    refine ⟨rfl, ?_, rfl, rfl, rfl⟩
    show (PyData.str z).shown.length ≤ _
    rw [PyData.shown_str]
    exact StrLaws.reprText_len z fun c hc => Nat.lt_trans (h' c hc) (by decide)
  | .cls _, h => h.elim
  | .ty _, h => h.elim
  | .scr _, h => h.elim
  | .ins _ _, h => h.elim
  | .dct _, h => h.elim
theorem shownL_le : ∀ ds : List D, okL ds → ShL ds (pyL ds) (bigL ds) (depL ds)
  | [], _ => ⟨rfl, Nat.le_refl _, rfl, rfl, rfl⟩
  | d :: ds, h => by
    obtain ⟨h1, h2, h3, h4, h5⟩ := shown_le d h.1
    obtain ⟨k1, k2, k3, k4, k5⟩ := shownL_le ds h.2
    refine ⟨?_, ?_, ?_, ?_, ?_⟩
    · show (PyData.showable (py d) && PyData.showableAll (pyL ds)) = true
      rw [h1, k1]; rfl
    · show (((py d).shown :: PyData.shownAll (pyL ds)).map (·.length)).sum + 2 * ((py d).shown :: PyData.shownAll (pyL ds)).length ≤ big d + 2 + bigL ds
      rw [List.map_cons, List.sum_cons, List.length_cons]
      omega
    · show (PyData.hasDict (py d) || PyData.hasDictAll (pyL ds)) = false
      rw [h3, k3]; rfl
    · show (pur d && purL ds) = true
      rw [h4, k4]; rfl
    · show max (PyData.depth (py d)) (PyData.depthAll (pyL ds)) = max (dep d) (depL ds)
      rw [h5, k5]
end
theorem r_repr {x : D} {Φ : D → Prop} (ho : okD x) (hr : ∃ ds, x = .tup ds ∨ x = .lst ds) (hb : big x ≤ 16777216) (hd : dep x ≤ 64) (p : Φ (.str (py x).shown)) : ∃ z, reprD [x] = some z ∧ Φ z := by
  refine ⟨_, ?_, p⟩
  obtain ⟨h1, h2, h3, h4, h5⟩ := shown_le x ho
  have : reprOk x = true := by
    unfold reprOk
    rw [h4, h1, h3, decide_eq_true (show (py x).depth ≤ 64 by rw [h5]; exact hd), decide_eq_true (Nat.le_trans h2 hb)]
    rfl
  obtain ⟨ds, e | e⟩ := hr
  · subst e; show (if reprOk _ = true then _ else none) = _; rw [if_pos this]
  · subst e; show (if reprOk _ = true then _ else none) = _; rw [if_pos this]
/-! == -/
mutual
theorem canLay_ok : ∀ d : D, okD d → (py d).canLay0 = true
  | .int _, _ => rfl
  | .non, _ => rfl
  | .bl _, _ => rfl
  | .str z, h => by
    have h' : ∀ c ∈ z.cps.toList, c < 1114112 := h
    show (z.cps.all fun c => decide (c < 1114112)) = true
    rw [← Array.all_toList]
    exact List.all_eq_true.mpr fun c hc => decide_eq_true (h' c hc)
  | .tup ds, h => canLayL_ok ds h
  | .lst ds, h => canLayL_ok ds h
  | .cls _, h => h.elim
  | .ty _, h => h.elim
  | .scr _, h => h.elim
  | .ins _ _, h => h.elim
  | .dct _, h => h.elim
theorem canLayL_ok : ∀ ds : List D, okL ds → PyData.canLayAll0 (pyL ds) = true
  | [], _ => rfl
  | d :: ds, h => by
    show (PyData.canLay0 (py d) && PyData.canLayAll0 (pyL ds)) = true
    rw [canLay_ok d h.1, canLayL_ok ds h.2]; rfl
end
theorem eq_okD {x : D} (ho : okD x) (hd : dep x ≤ 64) : okEq x = true := by
  obtain ⟨h1, h2, h3, h4, h5⟩ := shown_le x ho
  unfold okEq SeqAt.shaped
  rw [h4, canLay_ok x ho, decide_eq_true (show (py x).depth ≤ 64 by rw [h5]; exact hd)]
  rfl
theorem eqB_ok {x y : D} (hx : okEq x = true) (hy : okEq y = true) : eqB x y = some (PyData.eqv (py x) (py y)) := by
  unfold eqB
  split
  · rename_i a b
    show _ = some (a == b)
    congr 1
  · rw [if_pos ⟨hx, hy⟩]
section
variable {x y : D} {b : Bool} {Φ : D → Prop} {i j : Int}
theorem r_eq (hx : okEq x = true) (hy : okEq y = true) (e : PyData.eqv (py x) (py y) = b) (p : Φ (.bl b)) : ∃ z, eqD x y = some z ∧ Φ z := ⟨_, by unfold eqD; rw [eqB_ok hx hy, e]; rfl, p⟩
theorem r_ne (hx : okEq x = true) (hy : okEq y = true) (e : PyData.eqv (py x) (py y) = b) (p : Φ (.bl !b)) : ∃ z, neD x y = some z ∧ Φ z := ⟨_, by unfold neD; rw [eqB_ok hx hy, e]; rfl, p⟩
theorem eqv_int : PyData.eqv (.int i) (.int j) = decide (i = j) := by
  show (i == j) = _
  rfl
theorem r_eqI (p : Φ (.bl (decide (i = j)))) : ∃ z, eqD (.int i) (.int j) = some z ∧ Φ z := r_eq rfl rfl eqv_int p
theorem r_neI (p : Φ (.bl !(decide (i = j)))) : ∃ z, neD (.int i) (.int j) = some z ∧ Φ z := r_ne rfl rfl eqv_int p
theorem r_eqS {a b : Str} (p : Φ (.bl (decide (a = b)))) : ∃ z, eqD (.str a) (.str b) = some z ∧ Φ z := ⟨_, rfl, p⟩
theorem r_neS {a b : Str} (p : Φ (.bl !(decide (a = b)))) : ∃ z, neD (.str a) (.str b) = some z ∧ Φ z := ⟨_, rfl, p⟩
theorem r_addI (p : Φ (.int (i + j))) : ∃ z, addD (.int i) (.int j) = some z ∧ Φ z := ⟨_, rfl, p⟩
theorem r_sub (p : Φ (.int (i - j))) : ∃ z, subD (.int i) (.int j) = some z ∧ Φ z := ⟨_, rfl, p⟩
theorem r_lt (p : Φ (.bl (decide (i < j)))) : ∃ z, ltD (.int i) (.int j) = some z ∧ Φ z := ⟨_, rfl, p⟩
theorem r_gt (p : Φ (.bl (decide (j < i)))) : ∃ z, gtD (.int i) (.int j) = some z ∧ Φ z := ⟨_, rfl, p⟩
theorem r_le (p : Φ (.bl (decide (i ≤ j)))) : ∃ z, leD (.int i) (.int j) = some z ∧ Φ z := ⟨_, rfl, p⟩
theorem r_ge (p : Φ (.bl (decide (j ≤ i)))) : ∃ z, geD (.int i) (.int j) = some z ∧ Φ z := ⟨_, rfl, p⟩
theorem r_pow {v : Int} (h : (decide (0 ≤ j) && decide (j ≤ 1000000) && decide (i.natAbs < 2 ^ 64)) = true) (e : i ^ j.toNat = v) (p : Φ (.int v)) : ∃ z, powD (.int i) (.int j) = some z ∧ Φ z := ⟨_, by unfold powD intC; simp only [h, if_pos, e], p⟩
theorem r_int (p : Φ (.int i)) : ∃ z, intOf [.int i] = some z ∧ Φ z := ⟨_, rfl, p⟩
theorem r_intB {b : Bool} (p : Φ (.int (if b then 1 else 0))) : ∃ z, intOf [.bl b] = some z ∧ Φ z := ⟨_, rfl, p⟩
theorem r_abs (p : Φ (.int (if i < 0 then -i else i))) : ∃ z, absD [.int i] = some z ∧ Φ z := ⟨_, rfl, p⟩
theorem r_bool {ΦB : Bool → Prop} (p : ΦB b) : ∃ k, boolOf (.bl b) = some k ∧ ΦB k := ⟨_, rfl, p⟩
theorem r_truB {ΦB : Bool → Prop} (p : ΦB b) : ∃ k, truD (.bl b) = some k ∧ ΦB k := ⟨_, rfl, p⟩
theorem r_len {xs : List D} (p : Φ (.int xs.length)) : ∃ z, lenD [.lst xs] = some z ∧ Φ z := ⟨_, rfl, p⟩
theorem r_lenS {ns : List Int} (p : Φ (.int ns.length)) : ∃ z, lenD [.scr ns] = some z ∧ Φ z := ⟨_, rfl, p⟩
theorem ix_scr {ns : List Int} {t : Int} (h0 : 0 ≤ t) (h : t < ns.length) : ∃ k, ixD (.scr ns) (.int t) = some (.int k) := by
  show ∃ k, atI (ns.map D.int) t = some (.int k)
  unfold atI ixN
  rw [List.length_map, if_pos h0, if_pos h]
  have hl : t.toNat < ns.length := by omega
  exact ⟨ns[t.toNat], by simp [List.getElem?_map, List.getElem?_eq_getElem hl]⟩
theorem cut_ints {ns : List Int} {lo hi : Option Int} : ∃ ms : List Int, cutD (ns.map .int) lo hi = ms.map .int ∧ ms.length ≤ ns.length := by
  unfold cutD
  rw [← List.map_drop, ← List.map_take]
  exact ⟨_, rfl, by rw [List.length_take, List.length_drop]; omega⟩
/-! comprehensions, one turn -/
theorem r_dec2 {p : Prop} [Decidable p] {A B : Prop} (hp : p → A) (hn : ¬ p → B) : ∃ k, boolOf (.bl (decide p)) = some k ∧ (k = true → A) ∧ (k = false → B) := ⟨_, rfl, fun h => hp (of_decide_eq_true h), fun h => hn (of_decide_eq_false h)⟩
theorem r_decN2 {p : Prop} [Decidable p] {A B : Prop} (hp : p → B) (hn : ¬ p → A) : ∃ k, boolOf (.bl !(decide p)) = some k ∧ (k = true → A) ∧ (k = false → B) := ⟨_, rfl, fun h => hn (by simpa using h), fun h => hp (by simpa using h)⟩
theorem r_decM2 {p : Prop} [Decidable p] {A B : Prop} (hp : p → B) (hn : ¬ p → A) : ∃ k, boolOf (.bl (decide p)) = some k ∧ ((!k) = true → A) ∧ ((!k) = false → B) := ⟨_, rfl, fun h => hn (by simpa using h), fun h => hp (by simpa using h)⟩
theorem nnf_intro {P Q : Prop} (q : Q) : ((!!false) = true → P) ∧ ((!!false) = false → Q) := ⟨fun h => (nomatch h), fun _ => q⟩
theorem nnt_intro {P Q : Prop} (p : P) : ((!!true) = true → P) ∧ ((!!true) = false → Q) := ⟨fun _ => p, fun h => (nomatch h)⟩
theorem nt_intro {P Q : Prop} (q : Q) : ((!true) = true → P) ∧ ((!true) = false → Q) := ⟨fun h => (nomatch h), fun _ => q⟩
theorem nf_intro {P Q : Prop} (p : P) : ((!false) = true → P) ∧ ((!false) = false → Q) := ⟨fun _ => p, fun h => (nomatch h)⟩
theorem r_orL {f g : D → D → Option D} (h : ∃ z, f x y = some z ∧ Φ z) : ∃ z, orD f g x y = some z ∧ Φ z := by
  obtain ⟨z, e, p⟩ := h
  exact ⟨z, by show (match f x y with | some z => some z | none => g x y) = _; rw [e], p⟩
theorem r_orR {f g : D → D → Option D} (n : f x y = none) (h : ∃ z, g x y = some z ∧ Φ z) : ∃ z, orD f g x y = some z ∧ Φ z := by
  obtain ⟨z, e, p⟩ := h
  exact ⟨z, by show (match f x y with | some z => some z | none => g x y) = _; rw [n]; exact e, p⟩
theorem r_orEqS {g : D → D → Option D} {a b : Str} (p : Φ (.bl (decide (a = b)))) : ∃ z, orD eqD g (.str a) (.str b) = some z ∧ Φ z := r_orL (r_eqS p)
theorem r_orNeS {g : D → D → Option D} {a b : Str} (p : Φ (.bl !(decide (a = b)))) : ∃ z, orD neD g (.str a) (.str b) = some z ∧ Φ z := r_orL (r_neS p)
theorem r_orEqI {g : D → D → Option D} (p : Φ (.bl (decide (i = j)))) : ∃ z, orD eqD g (.int i) (.int j) = some z ∧ Φ z := r_orL (r_eqI p)
theorem r_orNeI {g : D → D → Option D} (p : Φ (.bl !(decide (i = j)))) : ∃ z, orD neD g (.int i) (.int j) = some z ∧ Φ z := r_orL (r_neI p)
theorem r_eqIns {cs : List Str} {tb : ITab} {c : Str} {F : FF} {neg : Bool} {gs : List (Str × D)} (h1 : behind c tb y = true) (h2 : inCs cs y = true) (e : F [.val (.ins c gs), .val y] = some (.ok (.val (.bl b)) none)) (p : Φ (.bl (neg != b))) : ∃ z, eqI cs tb c F neg (.ins c gs) y = some z ∧ Φ z :=
  ⟨_, by unfold eqI; dsimp only; rw [if_pos ⟨rfl, h1, h2⟩, e], p⟩
theorem eqB_ins {c : Str} {gs : List (Str × D)} : eqB (.ins c gs) y = none := by
  show (if okEq (.ins c gs) = true ∧ okEq y = true then some (PyData.eqv (py (.ins c gs)) (py y)) else none) = none
  exact if_neg fun h => by cases h.1
theorem r_orIns {cs : List Str} {tb : ITab} {c : Str} {F : FF} {gs : List (Str × D)} (h1 : behind c tb y = true) (h2 : inCs cs y = true) (e : F [.val (.ins c gs), .val y] = some (.ok (.val (.bl b)) none)) (p : Φ (.bl b)) : ∃ z, orD eqD (eqI cs tb c F false) (.ins c gs) y = some z ∧ Φ z :=
  r_orR (by unfold eqD; rw [eqB_ins]; rfl) (r_eqIns h1 h2 e (by cases b <;> exact p))
theorem r_orInsN {cs : List Str} {tb : ITab} {c : Str} {F : FF} {gs : List (Str × D)} (h1 : behind c tb y = true) (h2 : inCs cs y = true) (e : F [.val (.ins c gs), .val y] = some (.ok (.val (.bl b)) none)) (p : Φ (.bl !b)) : ∃ z, orD neD (eqI cs tb c F true) (.ins c gs) y = some z ∧ Φ z :=
  r_orR (by unfold neD; rw [eqB_ins]; rfl) (r_eqIns h1 h2 e (by cases b <;> exact p))
theorem boolsOf_true : ∀ {acc : List D}, (∀ b ∈ acc, b = .bl true) → boolsOf acc = some (acc.map fun _ => true)
  | [], _ => rfl
  | d :: ds, h => by
    rw [h d List.mem_cons_self]
    show (boolsOf ds).map _ = _
    rw [boolsOf_true fun b hb => h b (List.mem_cons_of_mem _ hb)]; rfl
theorem allD_true {acc : List D} (h : ∀ b ∈ acc, b = .bl true) : allD [.lst acc] = some (.bl true) := by
  show (boolsOf acc).map _ = _
  rw [boolsOf_true h]
  show some (D.bl _) = _
  congr 2
  rw [List.all_eq_true]
  intro b hb
  obtain ⟨_, _, e⟩ := List.mem_map.mp hb
  exact e.symm
theorem mem_snoc {α : Type} {acc : List α} {y : α} {P : α → Prop} (h : ∀ b ∈ acc, P b) (hy : P y) : ∀ b ∈ acc ++ [y], P b := fun b hb => by
  rcases List.mem_append.mp hb with h' | h'
  · exact h b h'
  · rw [List.mem_singleton.mp h']; exact hy
theorem tt_intro {P Q : Prop} (p : P) : (true = true → P) ∧ (true = false → Q) := ⟨fun _ => p, fun h => (nomatch h)⟩
theorem ff_intro {P Q : Prop} (q : Q) : (false = true → P) ∧ (false = false → Q) := ⟨fun h => (nomatch h), fun _ => q⟩
variable {Γ Γw : EnvF} {ΦL : List D → EnvF → Prop} {fa : FE} {ft : FT} {g : D → FM Unit} {vs : List Nat} {d : D} {ds acc : List D}
theorem xl_nil (h : ΦL acc Γ) : X (lcL g ft fa vs [] acc) Γ ΦL := ⟨_, _, rfl, h⟩
theorem xl_cons (ho : (vs.all fun v => !isOwn (Γ.getD v .no)) = true) (h : ∃ Γw, wipeF Γ vs = Γw ∧ X (g d) Γw fun _ Γ1 => X ft Γ1 fun k Γ2 =>
    (k = true → X (fV fa) Γ2 fun y Γ3 => ∃ Γ4, backF Γ Γ3 vs = Γ4 ∧ Γ4.map isOwn = Γ.map isOwn ∧ X (lcL g ft fa vs ds (acc ++ [y])) Γ4 ΦL) ∧
    (k = false → ∃ Γ4, backF Γ Γ2 vs = Γ4 ∧ Γ4.map isOwn = Γ.map isOwn ∧ X (lcL g ft fa vs ds acc) Γ4 ΦL)) : X (lcL g ft fa vs (d :: ds) acc) Γ ΦL := by
  obtain ⟨_, ew, p⟩ := h
  subst ew
  have t : X (lcTurn g ft fa d acc) (wipeF Γ vs) fun acc' Γ3 => (backF Γ Γ3 vs).map isOwn = Γ.map isOwn ∧ X (lcL g ft fa vs ds acc') (backF Γ Γ3 vs) ΦL := x_bind (p.imp fun _ _ p => x_bind (p.imp fun k g2 p => by
    cases k with
    | true =>
      rw [if_pos rfl]
      exact x_bind ((p.1 rfl).imp fun y g3 p => by obtain ⟨_, e, p⟩ := p; subst e; exact x_pure p)
    | false =>
      obtain ⟨_, e, p⟩ := p.2 rfl
      subst e
      rw [if_neg (by simp)]; exact x_pure p))
  obtain ⟨acc', Γ3, e, e2, r, Γe, e3, pe⟩ := t
  exact ⟨r, Γe, by unfold lcL; rw [e]; simp only [ho, e2, and_self, if_pos]; exact e3, pe⟩
end
end DF

set_option linter.all false
set_option maxRecDepth 100000
set_option maxHeartbeats 4000000
namespace DF
open PySem PySem.Spec PyProof.Rows L2 TL NumText
variable [TbC]
section
variable {X : Cx}
/-! ### more methods of texts -/
end
abbrev rM0 (C : Str → Prop) (g : Str → V) : V → List V → Hp → VK → Prop := fun x xs H Q => ∃ a, x = .str a ∧ xs = [] ∧ C a ∧ Q (g a) H
def lowerD : D → List D → Option D := fun x xs => match x, xs with | .str a, [] => if decide (a.length ≤ 5592405) = true then some (.str (Txt.lower a)) else none | _, _ => none
def upperD : D → List D → Option D := fun x xs => match x, xs with | .str a, [] => if decide (a.length ≤ 5592405) = true then some (.str (Txt.upper a)) else none | _, _ => none
def swapD : D → List D → Option D := fun x xs => match x, xs with | .str a, [] => if (!Builtin.Str.tooLong (Txt.swapcase a).length) = true then some (.str (Txt.swapcase a)) else none | _, _ => none
def islowD : D → List D → Option D := fun x xs => match x, xs with | .str a, [] => if true = true then some (.bl (Txt.islower a)) else none | _, _ => none
section
variable {K : PySem.W.Frag} {G G' H H' H0 H1 G1 : Hp} {P : List Addr} {σ σ' : L2.St} {Γ Γ' Γ1 : EnvF} {L L' L1 : List (Addr × OD)} {c c' c1 : Ow} {W : WX}
variable {ta tb te to ti : TE} {t tr tk : TA} {fa fb fc fe fo fi : FE} {fs fr fk : FA} {tt tu : TT} {ft fu : FT} {E : XK} {ts tw : TS} {fS fT : FS}
/-! ### or, and on values that are no truth values -/
def fOrU (a b : FE) : FE := FM.bind (fV a) fun x => match truD x with
  | some true => FM.pure (.val x)
  | some false => b
  | none => fFail
def fAndU (a b : FE) : FE := FM.bind (fV a) fun x => match truD x with
  | some true => b
  | some false => FM.pure (.val x)
  | none => fFail
/-! ### x in a list -/
def anyIn (x : D) (ds : List D) : Option Bool := if okEq x = true ∧ okEq (.lst ds) = true then some ((pyL ds).any fun z => PyData.eqv z (py x)) else none
def inLD : D → D → Option D
  | x, .lst ds => (anyIn x ds).map D.bl
  | _, _ => none
def notInLD : D → D → Option D
  | x, .lst ds => (anyIn x ds).map fun b => D.bl !b
  | _, _ => none
/-! ### len and bool by one's own methods -/
structure LenC (K : PySem.W.Frag) (C f : Addr) : Prop where
  lnF : PySem.W.findIn K (.ref C) "__len__" = some (some (.ref f))
  isF : PySem.W.isFn K (.ref f) = true
def rLenI (C : Addr) (sp : Sp) : List V → Hp → VK → Prop := fun xs H Q => ∃ a dx fs, xs = [.ref a] ∧ H a = some (.ins C dx fs) ∧ sp [.ref a] H (fun v H' => ∃ n : Int, v = .int n ∧ (0 ≤ n ∧ n < 2 ^ 63) ∧ Q (.int n) H') fun _ _ _ => False
end
end DF

set_option linter.all false
set_option maxRecDepth 100000
set_option maxHeartbeats 4000000
namespace DF
open PySem PySem.Spec PyProof.Rows L2 TL NumText
variable [TbC]
section
variable {X : Cx} {K : PySem.W.Frag}
theorem pi_enumK (hK : X.K = K) {e : Expr} {ta : TA} {p pos tpos : Pos} {elts : List Expr} {kk : Nat} (hg : Gl X "enumerate") (hm : X.mg "enumerate" = none) (ha : PA X [e] ta) (hs : starEach [e] X.env = [(false, eval e X.env)] := by rfl) :
    PI X (.Tuple elts kk tpos) (.Call (.Name "enumerate" p) [e] [] pos) (iEnum K ta) := by subst hK; exact pi_enum hg hm ha hs
theorem pi_zipK (hK : X.K = K) {e e2 : Expr} {ta : TA} {p pos tpos : Pos} {elts : List Expr} {kk : Nat} (hg : Gl X "zip") (hm : X.mg "zip" = none) (ha : PA X [e, e2] ta)
    (hs : starEach [e, e2] X.env = (false, eval e X.env) :: starEach [e2] X.env := by rfl) (hpl : (backTo pos (starEach [e2] X.env)).any (·.1) = false := by rfl) :
    PI X (.Tuple elts kk tpos) (.Call (.Name "zip" p) [e, e2] [] pos) (iZip K ta) := by subst hK; exact pi_zip hg hm ha hs hpl
end
section
variable {K : PySem.W.Frag} {G G' H H' H0 H1 G1 : Hp} {P : List Addr} {σ σ' : L2.St} {Γ Γ' Γ1 : EnvF} {L L' L1 : List (Addr × OD)} {c c' c1 : Ow} {W : WX}
variable {ta tb te to ti : TE} {t tr tk : TA} {fa fb fc fe fo fi : FE} {fs fr fk : FA} {tt tu : TT} {ft fu : FT} {E : XK} {ts tw : TS} {fS fT : FS}
def enumD (ds : List D) : List D := (List.range ds.length).map fun i => .tup [.int (i : Nat), ds.getD i .non]
def zipD (as bs : List D) : List D := (as.zip bs).map fun p => .tup [p.1, p.2]
/-- a list, a value -/
def lstOfD : D → Option (List D)
  | .lst ds => some ds
  | .scr ns => some (ns.map .int)
  | _ => none
theorem lst_at {u : V} {x : D} {ds : List D} (r : At K G u x) (e : lstOfD x = some ds) : ∃ a vs, u = .ref a ∧ (∀ H, Ext G H → SqL K H a vs) ∧ AtL K G vs ds := by
  cases r with
  | @lst p vs ds' hp l => cases e; exact ⟨p, vs, rfl, fun H e => ext_lst e hp, l⟩
  | @scr p ns hp => cases e; exact ⟨p, _, rfl, fun H e => (hp.ext e).seq, atl_ints ns⟩
  | _ => cases e
def wEnum (f : FA) : FW := FM.bind (fVs f) fun | [x] => fOf ((lstOfD x).map enumD) | _ => fFail
def wZip (f : FA) : FW := FM.bind (fVs f) fun | [x, y] => fOf ((lstOfD x).bind fun a => (lstOfD y).map fun b => zipD a b) | _ => fFail
theorem enum_w {a : Addr} {vs : List V} {ds : List D} (hs : ∀ H, Ext G H → SqL K H a vs) (l : AtL K G vs ds) : IsW K (Ite K a) (enumD ds) G := by
  have hl := l.length
  have hn : (enumD ds).length = vs.length := by unfold enumD; rw [List.length_map, List.length_range, hl]
  refine ⟨_, _, (by rw [hn]; exact walk_enum (xs := vs)), hs, fun i H' x H2 G' hi e1 e2 y => ?_⟩
  obtain ⟨T, u, v, ex, hT, eH, e3, e4⟩ := y
  subst ex eH
  cases e3
  obtain ⟨d, k1, k2⟩ := l.get' e4
  have gn := PG.new (G := G') (o := .tup [V.int (i : Nat), v]) e2 hT
  refine ⟨_, .tup [.int (i : Nat), d], gn, ?_, .tup (.inl (.inl upd_same)) (.cons (.int _) (.cons ((k2.mono e1).mono gn.g) .nil))⟩
  unfold enumD
  have hi' : i < ds.length := by rw [hn, hl] at hi; exact hi
  rw [List.getElem?_map, List.getElem?_range hi']
  simp [k1]
theorem zip_w {a b : Addr} {vs ws : List V} {ds es : List D} (hs : ∀ H, Ext G H → SqL K H a vs) (hs2 : ∀ H, Ext G H → SqL K H b ws) (l : AtL K G vs ds) (l2 : AtL K G ws es) : IsW K (Itz K a b) (zipD ds es) G := by
  have hl := l.length
  have hl2 := l2.length
  have hn : (zipD ds es).length = min vs.length ws.length := by unfold zipD; rw [List.length_map, List.length_zip, hl, hl2]
  refine ⟨_, _, walk_zip (xs := vs) (ys := ws) hn, fun H e => ⟨hs H e, hs2 H e⟩, fun i H' x H2 G' hi e1 e2 y => ?_⟩
  obtain ⟨T, u, v, ex, hT, eH, e3, e4⟩ := y
  subst ex eH
  obtain ⟨d, k1, k2⟩ := l.get' e3
  obtain ⟨d2, k3, k4⟩ := l2.get' e4
  have gn := PG.new (G := G') (o := .tup [u, v]) e2 hT
  refine ⟨_, .tup [d, d2], gn, ?_, .tup (.inl (.inl upd_same)) (.cons ((k2.mono e1).mono gn.g) (.cons ((k4.mono e1).mono gn.g) .nil))⟩
  unfold zipD
  rw [List.getElem?_map, show (ds.zip es)[i]? = some (d, d2) from List.getElem?_zip_eq_some.mpr ⟨k1, k3⟩]; rfl
theorem sim_wEnum (h : SimA K W t fs) : SimW K W (iEnum K t) (wEnum fs) := fun P σ c G H Γ L s => by
  unfold wEnum
  refine Run.bind (t2 := fun vs H1 R => ∃ a xs, vs = [V.ref a] ∧ SqL K H1 a xs ∧ R (Ite K a) H1) s.iv (sim_vals h P σ c G H Γ L s) fun ds Γ1 us c1 G1 H1 L1 g1 s1 e1 r1 => ?_
  have r1 : AtL K G1 us ds := r1
  intro r e Q post
  match ds, r1, e with
  | [x], r1, e =>
    obtain ⟨u, eu, hu⟩ := atl1 r1
    subst eu
    have e : fOf ((lstOfD x).map enumD) Γ1 = some r := e
    cases el : lstOfD x with
    | none => rw [el] at e; cases e
    | some ds =>
      rw [el] at e
      cases e
      obtain ⟨a, vs, eu, hs, l⟩ := lst_at hu el
      subst eu
      exact ⟨a, vs, rfl, hs _ s1.iv.i, post _ c1 G1 H1 L1 .refl s1 rfl (enum_w hs l)⟩
  | [], _, e => cases e
  | _ :: _ :: _, _, e => cases e
theorem sim_wZip (h : SimA K W t fs) : SimW K W (iZip K t) (wZip fs) := fun P σ c G H Γ L s => by
  unfold wZip
  refine Run.bind (t2 := fun vs H1 R => ∃ a b xs ys, vs = [V.ref a, V.ref b] ∧ SqL K H1 a xs ∧ SqL K H1 b ys ∧ R (Itz K a b) H1) s.iv (sim_vals h P σ c G H Γ L s) fun ds Γ1 us c1 G1 H1 L1 g1 s1 e1 r1 => ?_
  have r1 : AtL K G1 us ds := r1
  intro r e Q post
  match ds, r1, e with
  | [x, y], r1, e =>
    obtain ⟨u, v, eu, hu, hv⟩ := atl2 r1
    subst eu
    have e : fOf ((lstOfD x).bind fun a => (lstOfD y).map fun b => zipD a b) Γ1 = some r := e
    cases el : lstOfD x with
    | none => rw [el] at e; cases e
    | some ds =>
      cases el2 : lstOfD y with
      | none => rw [el, el2] at e; cases e
      | some es =>
        rw [el, el2] at e
        cases e
        obtain ⟨a, vs, eu, hs, l⟩ := lst_at hu el
        obtain ⟨b, ws, ev, hs2, l2⟩ := lst_at hv el2
        subst eu ev
        exact ⟨a, b, vs, ws, rfl, hs _ s1.iv.i, hs2 _ s1.iv.i, post _ c1 G1 H1 L1 .refl s1 rfl (zip_w hs hs2 l l2)⟩
  | [], _, e => cases e
  | [_], _, e => cases e
  | _ :: _ :: _ :: _, _, e => cases e
end
end DF

set_option linter.all false
set_option maxRecDepth 100000
set_option maxHeartbeats 4000000
namespace DF
open PySem PySem.Spec PyProof.Rows L2 TL NumText
variable [TbC]
open PySem.Sem (wp)
/-! ### bool by one's own __bool__ -/
structure BoOC (K : PySem.W.Frag) (C f : Addr) : Prop where
  b : PySem.W.findIn K (.ref C) "__bool__" = some (some (.ref f))
  isF : PySem.W.isFn K (.ref f) = true
section
variable {X : Cx}
def rBoO (C : Addr) (sp : Sp) : List V → Hp → VK → Prop := fun xs H Q => ∃ a dx fs, xs = [.ref a] ∧ H a = some (.ins C dx fs) ∧ sp [.ref a] H (fun v H' => ∃ b, v = .bl b ∧ Q (.bl b) H') fun _ _ _ => False
end
section
variable {K : PySem.W.Frag} {G G' H H' H0 H1 G1 : Hp} {P : List Addr} {σ σ' : L2.St} {Γ Γ' Γ1 : EnvF} {L L' L1 : List (Addr × OD)} {c c' c1 : Ow} {W : WX}
def lenI (cn : Str) (F : FF) : List D → Option D
  | [.ins c gs] => if c = cn then (match F [.val (.ins c gs)] with
    | some (.ok (.val (.int n)) none) => if 0 ≤ n ∧ n < 2 ^ 63 then some (.int n) else none
    | _ => none) else none
  | _ => none
def boolO (cn : Str) (F : FF) : List D → Option D
  | [.ins c gs] => if c = cn then (match F [.val (.ins c gs)] with
    | some (.ok (.val (.bl b)) none) => some (.bl b)
    | _ => none) else none
  | _ => none
/-! ### a text in a tuple of texts -/
def inTD : D → D → Option D
  | .str a, .tup ds => (joinD.strsOf ds).map fun bs => .bl (decide (a ∈ bs))
  | .str a, .lst ds => (joinD.strsOf ds).map fun bs => .bl (decide (a ∈ bs))
  | _, _ => none
end
section
variable {X : Cx} {K : PySem.W.Frag}
end
end DF

set_option linter.all false
set_option maxRecDepth 100000
set_option maxHeartbeats 4000000
namespace DF
open PySem PySem.Spec PyProof.Rows L2 TL NumText
variable [TbC]
/-! ### a text so many times, none or once too -/
section
variable {X : Cx}
end
section
variable {K : PySem.W.Frag}
def mulSA : D → D → Option D
  | .str z, .int k => if 0 ≤ k ∧ k ≤ 1000 ∧ z.length ≤ 4000 then some (.str (repS z k)) else none
  | _, _ => none
abbrev rMulSA : R2 := fun x y H Q => ∃ z k, x = .str z ∧ y = .int k ∧ 0 ≤ k ∧ k ≤ 1000 ∧ z.length ≤ 4000 ∧ Q (.str (repS z k)) H
variable {x y z : D} {Φ : D → Prop}
end
end DF

set_option linter.all false
set_option maxRecDepth 100000
set_option maxHeartbeats 4000000
namespace DF
open PySem PySem.Spec PyProof.Rows L2 TL NumText
variable [TbC]
/-! ### != of lists and tuples whose items are equal by an own == -/
section
open PySem.SeqAt AutoSeq1 MeetsSeq MeetsSeq2 MeetsSeq3 SeqRoads2
variable {prog : Program} {w : World} {A : Around} {R : Result → Shared → Prop}
end
section
open PySem.SeqAt AutoSeq1 MeetsSeq MeetsSeq2 MeetsSeq3 SeqRoads2
variable {prog : Program} {w : World} {A : Around} {E : Value → Shared → Prop} {s : Shared}
end
/-! ### data that is equal item by item, instances by their own == -/
def flatD : D → Option V
  | .non => some .non | .bl b => some (.bl b) | .int i => some (.int i) | .str z => some (.str z) | _ => none
def flatE (x y : D) : Bool := match flatD x, flatD y with
  | some a, some b => L2.flatV a && L2.flatV b && L2.eqV a b
  | _, _ => false
def insE (cn : Str) (F : FF) (x y : D) : Bool := match x, y with
  | .ins c gs, .ins c' gs' => decide (c = cn) && decide (c' = cn) && (match F [.val (.ins c gs), .val (.ins c' gs')] with
    | some (.ok (.val (.bl true)) none) => true
    | _ => false)
  | _, _ => false
def allE (f : D → D → Bool) : List D → List D → Bool
  | [], [] => true
  | x :: xs, y :: ys => f x y && allE f xs ys
  | _, _ => false
def deepS (f : D → D → Bool) (x y : D) : Bool := match x, y with
  | .lst xs, .lst ys => allE f xs ys
  | .tup xs, .tup ys => allE f xs ys
  | _, _ => false
def deepE (cn : Str) (F : FF) : Nat → D → D → Bool
  | 0, x, y => flatE x y || insE cn F x y
  | m + 1, x, y => deepE cn F m x y || deepS (deepE cn F m) x y
/-- == and != where all is equal -/
def eqS (cn : Str) (F : FF) (neg : Bool) (x y : D) : Option D := match x, y with
  | .lst xs, .lst ys => if allE (deepE cn F 2) xs ys = true then some (.bl !neg) else none
  | .tup xs, .tup ys => if allE (deepE cn F 2) xs ys = true then some (.bl !neg) else none
  | _, _ => none
section
variable {K : PySem.W.Frag} {G G' H H' H0 H1 G1 : Hp}
def insR (K : PySem.W.Frag) (cn : Str) (F : FF) (a b : Addr) (H : Hp) : Prop := ∃ G gs gs', Ext G H ∧ NoT G ∧ At K G (.ref a) (.ins cn gs) ∧ At K G (.ref b) (.ins cn gs') ∧ F [.val (.ins cn gs), .val (.ins cn gs')] = some (.ok (.val (.bl true)) none)
def EqvD (K : PySem.W.Frag) (C : Addr) (cn : Str) (F : FF) : Nat → Eqv
  | 0 => fun x y H => DFlat x y H ∨ DIns C (insR K cn F) x y H
  | m + 1 => fun x y H => EqvD K C cn F m x y H ∨ (DList (EqvD K C cn F m) x y H ∨ DTup K (EqvD K C cn F m) x y H)
abbrev rEqS (K : PySem.W.Frag) (C : Addr) (cn : Str) (F : FF) (neg : Bool) : R2 := fun x y H Q => (DList (EqvD K C cn F 2) x y H ∨ DTup K (EqvD K C cn F 2) x y H) ∧ ∀ H', Ext H H' → Q (.bl !neg) H'
end
section
variable {X : Cx} {n : Nat} {D' : Eqv}
theorem RcG.or {D1 D2 : Eqv} (h : RcG X n D1) (k : RcG X n D2) : RcG X n (fun x y H => D1 x y H ∨ D2 x y H) := fun A pins s σ H x y u v sb I rx ry d => by
  rcases d with d | d
  · exact h A pins s σ H x y u v sb I rx ry d
  · exact k A pins s σ H x y u v sb I rx ry d
/-- != gives False -/
def RnG (X : Cx) (n : Nat) (D : Eqv) : Prop :=
  ∀ (A : Around) (pins : List (Addr × Obj)) (s : Shared) (σ : L2.St) (H : Hp) (x y : V) (u v : Value), Sub X n A → Inv X pins σ H s → RelV x u → RelV y v → D x y H →
    wpAny (model X.prog X.w) A (richCompare .NotEq u v) (fun r s' => r = .bool false ∧ ∃ H', Inv X pins σ H' s' ∧ Ext H H') X.xe s
theorem RnG.or {D1 D2 : Eqv} (h : RnG X n D1) (k : RnG X n D2) : RnG X n (fun x y H => D1 x y H ∨ D2 x y H) := fun A pins s σ H x y u v sb I rx ry d => by
  rcases d with d | d
  · exact h A pins s σ H x y u v sb I rx ry d
  · exact k A pins s σ H x y u v sb I rx ry d
variable {C f : Addr} {fd : FuncData} {ps : List Str} {F : FF} {cn : Str}
end
end DF

set_option linter.all false
set_option maxRecDepth 100000
set_option maxHeartbeats 4000000
namespace DF
open PySem PySem.Spec PyProof.Rows L2 TL NumText
variable [TbC]
section
variable {K : PySem.W.Frag} {G G' H H' H0 H1 G1 : Hp} {P : List Addr} {σ σ' : L2.St} {Γ Γ' Γ1 : EnvF} {L L' L1 : List (Addr × OD)} {c c' c1 : Ow} {W : WX}
variable {t : TA} {fs : FA}
/-! ### x, y = a, [..]: the second one's own -/
def fParO (i j : Nat) (f : FA) : FS := FM.bind f fun vs Γ => match vs with
  | [.val x, .own o] => some (.ok .nx ((Γ.set i (.val x)).set j (.own 0 o)))
  | _ => none
/-! ### min of a list, sorted texts, find -/
def minL : List Int → Int
  | [] => 0
  | [a] => a
  | a :: b :: r => min a (minL (b :: r))
def minOf : List D → Option D
  | [.lst ds] => (intsOf ds).bind fun bs => if bs = [] then none else some (.int (minL bs))
  | _ => none
/-- texts in order -/
def leS (a b : Str) : Bool := !(decide (b.cps.toList < a.cps.toList))
def sortS (l : List Str) : List Str := l.mergeSort leS
def sortSD : List D → Option D
  | [.lst ds] => (joinD.strsOf ds).bind fun bs => if bs.length < 64 then some (.lst ((sortS bs).map .str)) else none
  | _ => none
def findD : D → List D → Option D := s1D fun a b => .int (Txt.find a b)
end
/-! ### texts in lists: equal, in -/
/-! ### steps -/
section
variable {Γ : EnvF} {fa : FE} {fs : FA} {fS : FS} {ΦS : Fl → EnvF → Prop} {Φ : D → Prop}
theorem x_frz {i : Nat} {Γ' : EnvF} (e : frz i Γ = some Γ') (h : X fS Γ' ΦS) : X (fFrz i fS) Γ ΦS := by
  obtain ⟨v, g, e2, p⟩ := h
  exact ⟨v, g, by unfold fFrz; rw [e]; exact e2, p⟩
end
end DF

set_option linter.all false
set_option maxRecDepth 100000
set_option maxHeartbeats 4000000
/-! except (A, B, ..) as e: clauses that name several classes, several such clauses -/
namespace TX
open PySem PySem.Spec PyProof.Rows L2
inductive EachX (K : PySem.W.Frag) (cls : Value) : List Value → List Bool → Prop
  | nil : EachX K cls [] []
  | cons {c : Value} {b : Bool} {cs : List Value} {bs : List Bool} : PySem.W.exmOne K cls c = some b → EachX K cls cs bs → EachX K cls (c :: cs) (b :: bs)
section
variable {M : Model} {A : Around} {E : Value → Shared → Prop} {s : Shared} {K : PySem.W.Frag} {h : Heap} {cls : Value}
end
/-- the expressions of clauses: a name, or a tuple of names -/
inductive NamesL (X : Cx) : List Expr → List Value → Prop
  | nil : NamesL X [] []
  | cons {x : Str} {c : Value} {np : Pos} {es : List Expr} {cs : List Value} : Names X x c → NamesL X es cs → NamesL X (.Name x np :: es) (c :: cs)
inductive ClsE (X : Cx) : Expr → List Value → Prop
  | one {x : Str} {c : Value} {np : Pos} : Names X x c → ClsE X (.Name x np) [c]
  | tup {es : List Expr} {cs : List Value} {k : Nat} {pos : Pos} : NamesL X es cs → cs.length ≤ 100 → ClsE X (.Tuple es k pos) cs
section
variable {X : Cx}
end
/-! ### clauses -/
abbrev Hd := List Value × Nat × (Addr → Value → Option Addr → TS)
def wHd (K : PySem.W.Frag) (Wout : WX) (D : Ends) : List Hd → WX
  | [] => Wout
  | (cs, i, ts) :: r => fun cls d σ H => ∃ bs, EachX K cls cs bs ∧
    (bs.any id = true → ∀ a, H a = none → ts a cls d { nx := fun σ' H' => D.nx (List.set σ' i none) H', rt := D.rt, bk := fun σ' H' => D.bk (List.set σ' i none) H', ct := fun σ' H' => D.ct (List.set σ' i none) H' } (List.set σ i (some (V.ref a))) H) ∧
    (bs.any id = false → wHd K Wout D r cls d σ H)
inductive HdT (X : Cx) : List ExceptHandler → List Hd → Prop
  | nil : HdT X [] []
  | cons {e : Expr} {cs : List Value} {n : Str} {i : Nat} {ts : Addr → Value → Option Addr → TS} {b₀ : Stmt} {suite : List Stmt} {pos' : Pos} {hds : List ExceptHandler} {l : List Hd} :
      ClsE X e cs → X.N[i]? = some n → X.env.kindOf n = some .local →
      (∀ (a : Addr) (oe : Obj) (cls : Value) (d : Option Addr) (pn : List (Addr × Obj)), Zc cls d oe → (∃ vs, oe.data = Data.fields vs) → X.base.get? a = none → PSs (X.suite a ((a, oe) :: pn)) (b₀ :: suite) (ts a cls d)) →
      HdT X hds l → HdT X (ExceptHandler.ExceptHandler (some e) (some n) (b₀ :: suite) pos' :: hds) ((cs, i, ts) :: l)
section
variable {X : Cx} {Wout : WX} {D : Ends} {pins : List (Addr × Obj)} {σ : L2.St} {H : Hp} {sI : Shared} {B : Heap} {a : Addr} {cls : Value} {d : Option Addr}
end
end TX

set_option linter.all false
set_option maxRecDepth 100000
set_option maxHeartbeats 4000000
namespace TX
open PySem PySem.Spec PyProof.Rows L2
section
variable {X : Cx}
end
end TX

set_option linter.all false
set_option maxRecDepth 100000
set_option maxHeartbeats 4000000
/-! exceptions of one's own over ValueError, LookupError or ArithmeticError, made with an __init__ that stores -/
namespace TX
open PySem PySem.Spec PyProof.Rows L2
/-- over which built-in class an exception stands -/
inductive TlE : String → String → String → List Value → Prop
  | ve : TlE "ValueError" "ValueError.__new__" "ValueError.__init__" [.type "ValueError", .type "Exception", .type "BaseException", .type "object"]
  | le : TlE "LookupError" "LookupError.__new__" "LookupError.__init__" [.type "LookupError", .type "Exception", .type "BaseException", .type "object"]
  | ae : TlE "ArithmeticError" "ArithmeticError.__new__" "ArithmeticError.__init__" [.type "ArithmeticError", .type "Exception", .type "BaseException", .type "object"]
section
variable {B n i : String} {tl : List Value}
theorem TlE.base (h : TlE B n i tl) : ExcBaseFacts B n i tl := match h with
  | .ve => F.excBase_ValueError
  | .le => F.excBase_LookupError
  | .ae => F.excBase_ArithmeticError
theorem TlE.store (h : TlE B n i tl) : StoreFacts B tl "object.__setattr__" "object" := match h with
  | .ve => F.store_ValueError
  | .le => F.store_LookupError
  | .ae => F.store_ArithmeticError
end
structure OexT (K : PySem.W.Frag) (C : Addr) : Prop where
  t : ∃ B n i tl, TlE B n i tl ∧ PySem.W.excInitIn K C tl n = true ∧ PySem.W.excOver K C tl = true
  dct : PySem.W.hasDictIn K C = true
  set : PySem.W.findIn K (.ref C) "__setattr__" = some (some (.builtin "object.__setattr__"))
  sub : PySem.W.subIn K (.ref C) (.type "BaseException") = some true
  typ : PySem.W.typeIn K (.ref C) = some (.type "type")
  kept : PySem.W.keepIn K (.ref C) = true
section
variable {X : Cx} {pins : List (Addr × Obj)} {σ : L2.St} {H : Hp} {s : Shared} {a C : Addr} {f : Str} {y : V} {u : Value} {Q : Unit → Shared → Prop} {E : Value → Shared → Prop} {A : Around}
/-- the abstract heap behind the first store into the exception at a -/
def xo1 (H : Hp) (a C dx : Addr) (f : Str) (y : V) : Hp := upd (upd H dx (exd dx [(f, y)])) a (exo a C (some dx))
end
/-- what an __init__ that stores its one argument under f does -/
def spIni (K : PySem.W.Frag) (f : Str) : Sp := fun vs H Q _ => ∃ a C y, vs = [.ref a, y] ∧ OexT K C ∧ PySem.W.takerIn K C f = some none ∧ H a = some (exo a C none) ∧ ∀ dx, H dx = none → dx ≠ a → Q .non (xo1 H a C dx f y)
/-- .. and the statement in it -/
def tOstT (K : PySem.W.Frag) (f : Str) (to te : TE) : TS := fun D σ H => te σ H fun y H1 => to σ H1 fun x H2 => ∃ a C : Addr, x = .ref a ∧ OexT K C ∧ PySem.W.takerIn K C f = some none ∧
  H2 a = some (exo a C none) ∧ ∀ dx, H2 dx = none → dx ≠ a → D.nx σ (xo1 H2 a C dx f y)
section
variable {X : Cx} {o e : Expr} {to te : TE} {f : Str} {p' pos : Pos}
end
/-- C(e), and what the exception then is -/
def tMkT (C : Addr) (f : Str) (te : TE) : L2.St → Hp → XK → Prop := fun σ H Q => te σ H fun y H1 => ∀ dx, H1 dx = none → Q (.ref C) (some dx) (upd H1 dx (.xd [(f, y)]))
section
variable {X : Cx} {x : Str} {C fI : Addr} {k : Nat} {fd : FuncData} {ps : List Str} {f : Str} {p pos : Pos} {e : Expr} {te : TE}
end
end TX

set_option linter.all false
set_option maxRecDepth 100000
set_option maxHeartbeats 4000000
/-! f(lambda: e), f a def of one parameter: what stays of the heap is told, tables too -/
namespace TX
open PySem PySem.Spec PyProof.Rows L2 LamX
/-- all stays; tables stay tables -/
def ExtY (H H1 : Hp) : Prop := ∀ b o, H b = some o → H1 b = some o ∨ ∃ ps more, o = .tbl ps ∧ H1 b = some (.tbl more)
abbrev lamQ (X : Cx) : Str := X.env.qual ++ "<lambda>"
abbrev lamO (X : Cx) (params : Arguments) (body : Expr) (scope : Scope) (pm : Value) (c' : Addr) (ctv : Value) : Obj := PySem.W.kla_obj "<lambda>" (lamQ X) params body scope (cloFrom X.env.cells scope.names []) pm c' ctv
section
variable {X : Cx} {pins : List (Addr × Obj)} {σ : L2.St} {H : Hp} {s : Shared} {T : List (Addr × Str)} {c P : Addr} {params : Arguments} {body : Expr} {scope : Scope} {pos : Pos} {E Q : Value → Shared → Prop}
theorem far_frs (I : Inv X pins σ H s) {f : Addr} (far : s.heap.objs.size ≤ f) : f ∉ frs X.stack := fun z =>
  (List.mem_cons.mp (I.stkSub _ z)).elim (fun e => absurd (Nat.lt_of_lt_of_le I.lt far) (by rw [e]; exact Nat.lt_irrefl _)) fun e => I.nofs far e
theorem lam_makeY (I : Inv X pins σ H s) (TB : TabB X.base X.mg c P) (code : X.env.code = .ref c) (mem : (P, lamQ X) ∈ T) (one : ∀ p ∈ T, p.1 = P → p.2 = lamQ X) (tabs : Tabs T H)
    (nodef : defaultsOf params X.env = ([], [])) (caught : ∀ y ∈ scope.names, y.2 = .free → ∃ c, X.env.cells.lookup y.1 = some c)
    (h : ∀ (f c' : Addr) (pm ctv : Value) (H1 : Hp) (s1 : Shared), Inv X pins σ H1 s1 → ExtY H H1 → Tabs T H1 → s1.heap.get? f = some (lamO X params body scope pm c' ctv) → H1 f = none → f ∉ frs X.stack → H1 c' = some (CodeO c' (lamQ X)) → Q (.ref f) s1) :
    wpAny (model X.prog X.w) X.A (eval (.Lambda params body scope pos) X.env) Q E s := by
  obtain ⟨ps, at_P, triples, known⟩ := tabs _ mem
  have real : s.heap.get? P = some (PySem.W.tabObj ps) := I.hok P _ at_P
  have blt : s.heap.BuiltinsAt X.mg P := TB.bm.keeps I.bk
  have glb : s.heap.Ns mainGlobals X.mg := I.mod.glob.keeps I.bk
  have hd := TB.code.keeps I.bk
  refine PySem.W.kla_eval nodef ?_
  match hit : codeAmong pos ps.toList with
  | some cv =>
    obtain ⟨c', rfl, at_c⟩ := known pos cv hit
    refine PySem.W.kla_makeFunctionHit (mg := X.mg) (closure_ok caught) I.ok.glob glb code hd real triples hit blt ?_
    intro ctv h1 tk grows size
    have J : Inv X pins σ H { s with heap := h1.push (lamO X params body scope ((X.mg "__name__").getD .none) c' ctv), toks := tk } := I.kept fun b o e => Heap.get?_push_of_some _ (grows b o e)
    exact h _ c' _ ctv H _ J (fun b o e => .inl e) tabs (Heap.get?_push_size _ rfl) (I.hok.fresh size) (far_frs I size) at_c
  | none =>
    refine PySem.W.kla_makeFunction (mg := X.mg) (closure_ok caught) I.ok.glob glb code hd real triples hit TB.gP blt ?_
    rintro c' ctv h1 tk but low high ⟨_, oc, vs, t, ⟨⟩, got, dat, nam⟩ new
    have size : s.heap.objs.size ≤ h1.objs.size := Nat.le_trans low (Nat.le_of_lt high)
    have no_c : H c' = none := I.hok.fresh low
    let more : Array Value := #[rawInt pos.line, rawInt pos.col, .ref c']
    let H1 := upd (upd H P (.tbl (ps ++ more))) c' (CodeO c' (lamQ X))
    have at_P1 : H1 P = some (.tbl (ps ++ more)) := by show upd _ _ _ _ = _; rw [upd_ne (ne_of_none at_P no_c), upd_same]
    have off : ∀ {b : Addr} {o : HO}, H b = some o → b ≠ P → H1 b = some o := fun {b o} e n => by show upd _ _ _ _ = _; rw [upd_ne (ne_of_none e no_c), upd_ne n]; exact e
    have step := inv_table (q := lamQ X) (t' := tk) (more := more) (h' := h1.push (lamO X params body scope ((X.mg "__name__").getD .none) c' ctv)) I at_P (fun b o n e => Heap.get?_push_of_some _ (but b o n e)) (Heap.get?_push_of_some _ new) low ⟨oc, vs, t, Heap.get?_push_of_some _ got, dat, nam⟩
    have codes : ∀ {b : Addr} {q : Str}, H b = some (CodeO b q) → H1 b = some (CodeO b q) := fun {b q} e => off e fun z => by
      rw [z, at_P] at e
      exact codeO_ne ps (Option.some.inj e).symm
    have no_f : H1 h1.objs.size = none := by
      show upd _ _ _ _ = _
      rw [upd_ne (Nat.ne_of_gt high), upd_ne (Nat.ne_of_gt (Nat.lt_of_lt_of_le (Heap.lt_size real) size))]
      exact I.hok.fresh size
    refine h _ c' _ ctv H1 _ step (fun b o e => ?_) (fun p hp => ?_) (Heap.get?_push_size _ rfl) no_f (far_frs I size) upd_same
    · by_cases hb : b = P
      · subst hb; rw [at_P] at e; exact .inr ⟨ps, _, (Option.some.inj e).symm, at_P1⟩
      · exact .inl (off e hb)
    · by_cases hb : p.1 = P
      · rw [one p hp hb, hb]
        refine ⟨_, at_P1, by rw [Array.toList_append]; exact PySem.TriplesOk_snoc _ _ _ _ triples, fun p' cv e => ?_⟩
        rw [Array.toList_append] at e
        rcases among_app _ triples e with z | z
        · obtain ⟨c0, e1, e2⟩ := known p' cv z
          exact ⟨c0, e1, codes e2⟩
        · exact ⟨c', z, upd_same⟩
      · obtain ⟨ps', q1, q2, q3⟩ := tabs p hp
        refine ⟨ps', off q1 hb, q2, fun p' cv e => ?_⟩
        obtain ⟨c0, e1, e2⟩ := q3 p' cv e
        exact ⟨c0, e1, codes e2⟩
end
/-- a def that is called with a lambda: its body, as a term of rules over what act() does, and its function -/
structure LamD (P : Program) (w : World) (K : PySem.W.Frag) (mg : Str → Option Value) (base : Heap) (gd : Bool) (k : Nat) (x : Str) (sg : Scope) (g : Addr) (cdg : Value) (Ng : List Str) (bg : List Stmt) (a : Str) (B : DF.FE → DF.FS) : Prop where
  run : ∀ (A : Around) (out : List Env) (s : Shared) (H : Hp) (actT : WX → TE), Room k (A.deeper (envOfC x sg s.heap.objs.size g cdg)) → (gd = true → A.guards = some []) →
    (∀ (W : WX) (pn : List (Addr × Obj)) (xe : Value → Shared → Prop) (p1 p2 : Pos), Takes ((cxOf C8.CX0 P w K mg base Ng x sg g cdg A out s H C8.E0).nox.tr pn xe) W → PE ((cxOf C8.CX0 P w K mg base Ng x sg g cdg A out s H C8.E0).nox.tr pn xe) (.Call (.Name a p1) [] [] p2) (actT W)) →
    ∃ t : TS, PSs (cxOf C8.CX0 P w K mg base Ng x sg g cdg A out s H C8.E0).nox bg t ∧ ∀ (t1 : DF.TbC) (act : DF.FE), (∀ W, @DF.SimE t1 K W (actT W) act) → @DF.SimS t1 K DF.W0 t (B act)
/-- what is wanted of an error, at slots of whatever content -/
def EL (n : Nat) (W : WX) : XK := fun cls d H => ∀ σ : L2.St, σ.length = n → W cls d σ H
def actT (Ng : List Str) (q : Str) (f c' : Addr) (tl : XK → Hp → VK → Prop) : WX → TE := fun W σ H Q => σ[0]? = some (some (.ref f)) ∧ H c' = some (CodeO c' q) ∧ tl (EL Ng.length W) H Q
def tLamY (K : PySem.W.Frag) (T : List (Addr × Str)) (B : DF.FE → DF.FS) (Ng : List Str) (q : Str) (t : XK → TE) : TE := fun σ H Q => Tabs T H ∧ ∀ H1 f c', ExtY H H1 → Tabs T H1 → H1 f = none → H1 c' = some (CodeO c' q) →
  ∀ tS : TS, (∀ (t1 : DF.TbC) (act : DF.FE), (∀ W, @DF.SimE t1 K W (actT Ng q f c' (fun E H' Q' => t E σ H' Q') W) act) → @DF.SimS t1 K DF.W0 tS (B act)) → tS { nx := fun _ H' => Q .non H', rt := Q } (L2.start Ng [.ref f]) H1
section
variable {X : Cx}
end
end TX

set_option linter.all false
set_option maxRecDepth 100000
set_option maxHeartbeats 4000000
/-! raise, try and f(lambda: e) as functions on data -/
namespace DF
open PySem PySem.Spec PyProof.Rows L2 TX
section
variable [TbC]
variable {K : PySem.W.Frag} {G G' H H' H0 H1 G1 : Hp} {P : List Addr} {σ σ' : L2.St} {Γ Γ' Γ1 : EnvF} {L L' L1 : List (Addr × OD)} {c c' c1 : Ow} {W : WX} {te : TE} {fa : FE}
/-! raise C(e) -/
def fRaise (cn f : Str) (a : FE) : FS := FM.bind (fV a) fun d Γ => some (.ex cn f d Γ)
end
/-! ### from one set of lasting facts to another -/
def unX : Sl → Sl
  | .exc => .no
  | x => x
section
variable {K : PySem.W.Frag} {G G' H H' H0 H1 G1 : Hp} {P : List Addr} {σ σ' : L2.St} {Γ Γ' Γ1 : EnvF} {L L' L1 : List (Addr × OD)} {c c' c1 : Ow} {W : WX} {T : Addr → Prop}
/-- the facts of an error that is caught: its object at a, its dict -/
@[reducible] def TbC.ex (t : TbC) (K : PySem.W.Frag) (a dd : Addr) (f : Str) (fv : V) (d : D) : TbC := ⟨t.T, a, fun G H => t.Z G H ∧ H dd = some (.xd [(f, fv)]) ∧ At K G fv d,
  fun h e k => ⟨t.zm h.1 e k, k _ _ trivial h.2.1, h.2.2.mono e⟩⟩
end
/-! ### try -/
/-- clauses: the classes' names, the slot of the error, the suite by the error's class, field and value -/
abbrev Hf := List Str × Nat × (Str → Str → D → FS)
def isX (tb : List (Str × Str × Bool)) (c : Str) (x : Str) : Option Bool := (tb.find? fun e => e.1 == c && e.2.1 == x).map (·.2.2)
def isXs (tb : List (Str × Str × Bool)) (c : Str) : List Str → Option (List Bool)
  | [] => some []
  | x :: xs => match isX tb c x, isXs tb c xs with | some b, some bs => some (b :: bs) | _, _ => none
def handF (tb : List (Str × Str × Bool)) : List Hf → Str → Str → D → FS
  | [], c, f, d => fun Γ => some (.ex c f d Γ)
  | (cs, i, g) :: r, c, f, d => match isXs tb c cs with
    | none => fFail
    | some bs => if bs.any id = true then (fun Γ => match g c f d ((Γ.map unX).set i .exc) with
        | some (.ok (.rt v) Γ') => some (.ok (.rt v) (Γ'.map unX))
        | some (.ok fl Γ') => some (.ok fl ((Γ'.map unX).set i .no))
        | _ => none) else handF tb r c f d
def fTry (tb : List (Str × Str × Bool)) (hs : List Hf) (b : FS) : FS := fun Γ => match b Γ with
  | some (.ex c f d Γ') => handF tb hs c f d Γ'
  | r => r
section
variable {K : PySem.W.Frag}
def XTab (K : PySem.W.Frag) (tb : List (Str × Str × Bool)) : Prop := ∀ e ∈ tb, ∀ C D, CT K e.1 C → CT K e.2.1 D → PySem.W.exmOne K (.ref C) (.ref D) = some e.2.2
inductive NamedL (K : PySem.W.Frag) : List Str → List Value → Prop
  | nil : NamedL K [] []
  | cons {x : Str} {D : Addr} {xs : List Str} {vs : List Value} : CT K x D → NamedL K xs vs → NamedL K (x :: xs) (.ref D :: vs)
/-- a suite and its function -/
def SimH (K : PySem.W.Frag) (ts : Addr → Value → Option Addr → TS) (g : Str → Str → D → FS) : Prop :=
  ∀ (t : TbC) (C dd : Addr) (cn f : Str) (fv : V) (d : D), CT K cn C → (∀ G H, t.Z G H → H dd = some (.xd [(f, fv)]) ∧ At K G fv d) → @SimS t K W0 (ts t.xa (.ref C) (some dd)) (g cn f d)
inductive SimHs (K : PySem.W.Frag) : List Hd → List Hf → Prop
  | nil : SimHs K [] []
  | cons {xs : List Str} {vs : List Value} {i : Nat} {ts : Addr → Value → Option Addr → TS} {g : Str → Str → D → FS} {l : List Hd} {hs : List Hf} : NamedL K xs vs → SimH K ts g → SimHs K l hs → SimHs K ((vs, i, ts) :: l) ((xs, i, g) :: hs)
end
end DF

set_option linter.all false
set_option maxRecDepth 100000
set_option maxHeartbeats 4000000
/-! f(lambda: e) as a function on data -/
namespace DF
open PySem PySem.Spec PyProof.Rows L2 TX LamX
def hideO : Sl → Sl
  | .val d => .val d
  | _ => .no
def hasX : EnvF → Bool
  | .exc :: _ => true
  | _ => false
/-- act(), by what the lambda's body gave -/
def fAct (n : Nat) (r : Option (Rt Vr)) : FE := fun Γ => if hasX Γ = true then (match r with
  | some (.ok (.val d) _) => some (.ok (.val d) Γ)
  | some (.ex c f d _) => some (.ex c f d (List.replicate n .no))
  | _ => none) else none
def fLam (B : FE → FS) (n : Nat) (e : FE) : FE := fun Γ => match B (fAct n (e (Γ.map hideO))) (.exc :: List.replicate (n - 1) .no) with
  | some (.ok (.rt (.val d)) _) => some (.ok (.val d) Γ)
  | some (.ok .nx _) => some (.ok (.val .non) Γ)
  | _ => none
section
variable {K : PySem.W.Frag} {G G' H H' H0 H1 G1 : Hp} {P : List Addr} {σ σ' : L2.St} {Γ Γ' Γ1 : EnvF} {L L' L1 : List (Addr × OD)} {c c' c1 : Ow} {W : WX} {T : Addr → Prop}
/-- the facts in the def that got the lambda -/
@[reducible] def TbC.lam (t : TbC) (K : PySem.W.Frag) (σ : L2.St) (Γ : EnvF) (f c' : Addr) (q : Str) : TbC := ⟨t.T, f, fun G H => t.Z G H ∧ H c' = some (CodeO c' q) ∧ @EnvR t K G [] σ Γ [],
  fun h e k => ⟨t.zm h.1 e k, k _ _ (by unfold CodeO; trivial) h.2.1, h.2.2.mono e⟩⟩
end
section
variable {K : PySem.W.Frag} {W : WX}
end
end DF

set_option linter.all false
set_option maxRecDepth 100000
set_option maxHeartbeats 4000000
/-! a caught error asked; defs that raise; defs that make lambdas -/
namespace TX
open PySem PySem.Spec PyProof.Rows L2 LamX
/-- isinstance(e, c) of the error that a suite holds -/
def rIsX (K : PySem.W.Frag) (a : Addr) (cls : Value) (d : Option Addr) : List V → Hp → VK → Prop := fun xs H Q => ∃ (D dd : Addr) (c : V) (cv : Value) (b : Bool) (fs : List (Str × V)), cls = .ref D ∧ d = some dd ∧ ExcC K D ∧ (PySem.W.clsIn K D).isSome = true ∧
  xs = [.ref a, c] ∧ (∀ u, L2.RelV c u → u = cv) ∧ PySem.W.kitOne K (.ref D) cv = some b ∧ H dd = some (.xd fs) ∧ Q (.bl b) H
/-- e.f of it -/
def tXfE (K : PySem.W.Frag) (a : Addr) (cls : Value) (d : Option Addr) (n : Str) (i : Nat) : TE := fun σ H Q => σ[i]? = some (some (.ref a)) ∧ ∃ (C dd : Addr) (fs : List (Str × V)) (v : V), cls = .ref C ∧ XfC K C ∧ PySem.W.findIn K (.ref C) n = some none ∧ d = some dd ∧ H dd = some (.xd fs) ∧ fs.lookup n = some v ∧ Q v H
/-! what reaches whom -/
section
variable {P : Program} {w : World} {K : PySem.W.Frag} {mg : Str → Option Value} {base : Heap} {N : List Str} {q : Str} {sc : Scope} {f : Addr} {cd : Value} {A : Around} {out : List Env} {s : Shared} {H : Hp} {E : XK}
end
/-! defs whose code object is known -/
structure FunC (K : PySem.W.Frag) (x qual : Str) (st : Stmt) (f : Addr) (fd : FuncData) (c : Addr) : Prop where
  ex : ∃ (oc : Value) (od : Option Addr) (kV doc pm : Value) (an : Option Addr) (ct : Value) (osl : Array (Option Value)),
    fd = PySem.W.fnOf x qual (defArgs st) (defBody st) (defScope st) .none kV doc pm an (.ref c) ct ∧ K.lookup f = some ⟨oc, od, .func fd, osl⟩ ∧ PySem.W.codeIn K (.ref c) qual = true
  kp : PySem.W.keepIn K (.ref f) = true
theorem FunC.fun {K : PySem.W.Frag} {x qual : Str} {st : Stmt} {f : Addr} {fd : FuncData} {c : Addr} (F : FunC K x qual st f fd c) : Fun K x qual st f fd := by
  obtain ⟨oc, od, kV, doc, pm, an, ct, osl, e1, e2, e3⟩ := F.ex
  exact ⟨⟨oc, od, kV, doc, pm, an, .ref c, ct, osl, e1, e2, e3⟩, F.kp⟩
section
variable {P : Program} {w : World} {K : PySem.W.Frag} {mg : Str → Option Value} {base : Heap}
theorem FunC.ok {x qual : Str} {st : Stmt} {f c : Addr} {fd : FuncData} {N ps : List Str} {k : Nat} {sp : Sp} (F : FunC K x qual st f fd c) (S : FnScope N ps (defScope st)) (len : ∀ vs H Q E, sp vs H Q E → vs.length = ps.length)
    (body : ∀ (A : Around) (out : List Env) (s : Shared) (H : Hp) (vs : List V) (Q : VK) (E : XK), Room k (A.deeper (envOfC qual (defScope st) s.heap.objs.size f (.ref c))) → sp vs H Q E →
      ∃ t, PSs (cxOf CX0 P w K mg base N qual (defScope st) f (.ref c) A out s H E).nox (defBody st) t ∧ t { nx := fun _ H' => Q .non H', rt := Q } (start N vs) H) : FnOk P w K mg base CX0 (k + 1) f fd ps sp := by
  obtain ⟨oc, od, kV, doc, pm, an, ct, osl, rfl, at_f, code⟩ := F.ex
  refine fn_of at_f code S len fun A out s H vs Q E room want => ?_
  obtain ⟨t, rules, reading⟩ := body A out s H vs Q E room want
  exact ⟨t, rules.nox, reading⟩
end
end TX
namespace DF
open PySem PySem.Spec PyProof.Rows L2 TX LamX
section
variable {P : Program} {w : World} {K : PySem.W.Frag} {mg : Str → Option Value} {base : Heap} [TbC]
/-! the error that a suite holds -/
def KTab (K : PySem.W.Frag) (tb : List (Str × Str × Bool)) : Prop := ∀ e ∈ tb, ∀ C D, CT K e.1 C → CT K e.2.1 D → PySem.W.kitOne K (.ref C) (.ref D) = some e.2.2
structure ExF (K : PySem.W.Frag) (C : Addr) (f : Str) : Prop where
  ec : ExcC K C
  ci : (PySem.W.clsIn K C).isSome = true
  xf : XfC K C
  no : PySem.W.findIn K (.ref C) f = some none
/-- classes of errors and their fields -/
def LTab (K : PySem.W.Frag) (lv : List (Str × Str)) : Prop := ∀ e ∈ lv, ∀ C, CT K e.1 C → ExF K C e.2
def atX (i : Nat) (Γ : EnvF) : Bool := match Γ[i]? with
  | some .exc => true
  | _ => false
def isC (tb : List (Str × Str × Bool)) (lv : List (Str × Str)) (c f x : Str) (i : Nat) : FE := fun Γ => if (c, f) ∈ lv ∧ atX i Γ = true then (isX tb c x).map fun b => .ok (.val (.bl b)) Γ else none
def gvC (lv : List (Str × Str)) (c f n : Str) (d : D) (i : Nat) : FE := fun Γ => if (c, f) ∈ lv ∧ n = f ∧ atX i Γ = true then some (.ok (.val d) Γ) else none
variable {W : WX} {tb : List (Str × Str × Bool)} {lv : List (Str × Str)} {cn f x n : Str} {C D0 dd : Addr} {i : Nat} {fv : V} {d : D}
end
end DF
namespace TX
open PySem PySem.Spec PyProof.Rows L2 LamX
theorem LamD.mono {P : Program} {w : World} {K : PySem.W.Frag} {mg : Str → Option Value} {base : Heap} {gd : Bool} {k k' : Nat} {x : Str} {sg : Scope} {g : Addr} {cdg : Value} {Ng : List Str} {bg : List Stmt} {a : Str} {B : DF.FE → DF.FS}
    (h : LamD P w K mg base gd k x sg g cdg Ng bg a B) (le : k ≤ k') : LamD P w K mg base gd k' x sg g cdg Ng bg a B := ⟨fun A out s H aT room => h.run A out s H aT (room.mono le)⟩
theorem fun_mkC {K : PySem.W.Frag} {x qual : Str} {st : Stmt} {f c : Addr} {oc : Value} {od an : Option Addr} {osl : Array (Option Value)} {kV doc pm ct : Value} (l : K.lookup f = some ⟨oc, od, .func (PySem.W.fnOf x qual (defArgs st) (defBody st) (defScope st) .none kV doc pm an (.ref c) ct), osl⟩)
    (i : PySem.W.codeIn K (.ref c) qual = true) (k : PySem.W.keepIn K (.ref f) = true) : FunC K x qual st f (PySem.W.fnOf x qual (defArgs st) (defBody st) (defScope st) .none kV doc pm an (.ref c) ct) c := ⟨⟨_, _, _, _, _, _, _, _, rfl, l, i⟩, k⟩
end TX

set_option linter.all false
set_option maxRecDepth 100000
set_option maxHeartbeats 4000000
/-! the end of a law whose defs make lambdas: their tables are told -/
namespace DF
open PySem PySem.Spec PyProof.Rows L2 TX LamX
section
variable {P : Program} {w : World} {K : PySem.W.Frag} {mg mb : Str → Option Value} {k : Nat} {fa a : Addr} {fd : FuncData} {x : Str} {s : Shared} {vs : List Value} {ns : List Int} {cs : List (Addr × Addr)} {T : List (Addr × Str)}
@[reducible] def TbC.tabs (T : List (Addr × Str)) : TbC := ⟨T, 0, fun _ _ => True, fun _ _ _ => trivial⟩
theorem start_tabs (hT : ∀ p ∈ T, p.1 ∈ cs.map (·.2)) (KX : K.In s.heap) (hns : s.heap.Ns mainGlobals mg) (hb : s.heap.Ns builtinsNs mb) (hbb : ∀ x : Str, x ≠ "__name__" → mb x = bootBuiltins x) (hlim : s.heap.NoLimit) (hg : s.gens = #[])
    (empty : ∀ p ∈ cs, s.heap.get? p.2 = some (PySem.W.tabObj #[])) (new : ∀ p ∈ cs, K.lookup p.2 = none) (codes : ∀ p ∈ cs, PySem.W.CodeHd s.heap p.1 p.2)
    (blt : ∃ (bm : Addr) (ob : Obj), mg "__builtins__" = some (.ref bm) ∧ bm ≠ builtinsNs ∧ s.heap.get? bm = some ob ∧ ob.cls = .type "module" ∧ ob.dict = some builtinsNs ∧ ob.data = .plain)
    (ha : s.heap.get? a = some { cls := .type "list", data := .seq vs.toArray }) (hl : ns.length ≤ 63) (hr : Room k callerA)
    {FF0 : FF} (hF0 : ∀ ns : List Int, ns.length ≤ 63 → FF0 [.val (.scr ns)] = some (.ok (.val (.bl true)) none)) (F : ∀ base : Heap, K.In base → base.Ns mainGlobals mg → (∀ p ∈ cs, TabB base mg p.1 p.2) → FnG P w K mg base CX0 k fa fd [x] (@spF (TbC.tabs T) K FF0)) (hbind : ∀ (s : Shared) (u : Value), BindsTo s fd ⟨[u], []⟩ [(x, u)])
    (H : Hp) (hok : HOk P w H s.heap) (tabH : ∀ p ∈ cs, H p.2 = some (.tbl #[])) (hA : ∀ b, H b ≠ none → b = a ∨ b ∈ cs.map (·.2)) (hK : H a ≠ none → K.lookup a = none) (hf : ∀ o, H a = some o → ∃ ob, o = .frz ob (.lst (ns.map V.int))) (hS : Sc K (fun b => if b = a then H a else none) a ns) :
    codeAny (model P w) callerA (.call (.ref fa) ⟨[.ref a], []⟩) (fun r s' => r = .ok (.ret (.bool true)) ∧ OldK s.heap s'.heap ∧ s'.os = s.os ∧ AllBare s'.gens) s := by
  have tabAt : ∀ {b : Addr}, b ∈ cs.map (·.2) → s.heap.get? b = some (PySem.W.tabObj #[]) ∧ H b = some (.tbl #[]) := fun {b} hb => by
    obtain ⟨p, hp, rfl⟩ := List.mem_map.mp hb
    exact ⟨empty p hp, tabH p hp⟩
  -- what is neither the script nor a table is not told
  have kept : ∀ {b : Addr} {o : Obj}, s.heap.get? b = some o → (b = a → H a = none) → b ∉ cs.map (·.2) → (hidT s.heap H).get? b = some o := fun {b o} e z n => by
    refine hidT_get e ?_
    cases q : H b with
    | none => rfl
    | some u =>
      rcases hA b (by rw [q]; simp) with y | y
      · have := z y
        rw [y, this] at q; cases q
      · exact absurd y n
  have apart : ∀ {b : Addr} {o : Obj}, s.heap.get? b = some o → (∀ l n, o.data ≠ .seq l n) → o.data ≠ .fields #[] → (hidT s.heap H).get? b = some o := fun {b o} e n1 n2 => by
    refine kept e (fun z => ?_) fun z => ?_
    · rw [z, ha] at e
      cases Option.some.inj e
      exact absurd rfl (n1 _ _)
    · rw [(tabAt z).1] at e
      cases Option.some.inj e
      exact n2 rfl
  have dictK : ∀ {b : Addr} {m : Str → Option Value}, s.heap.Ns b m → (hidT s.heap H).Ns b m := fun {b m} hN => by
    obtain ⟨o, es, ep, e, d, rest⟩ := hN
    exact ⟨o, es, ep, apart e (fun _ _ z => by rw [d] at z; cases z) (fun z => by rw [d] at z; cases z), d, rest⟩
  have inB : K.In (hidT s.heap H) := fun b o e => by
    refine kept (KX b o e) (fun z => Classical.byContradiction fun y => ?_) fun z => ?_
    · rw [z, hK y] at e; cases e
    · obtain ⟨p, hp, rfl⟩ := List.mem_map.mp z
      rw [new p hp] at e; cases e
  have md : Mod K mg (hidT s.heap H) := ⟨inB, dictK hns, ⟨mb, dictK hb, hbb⟩, by obtain ⟨mc, q1, q2⟩ := hlim; exact ⟨mc, dictK q1, q2⟩⟩
  have tabB : ∀ p ∈ cs, TabB (hidT s.heap H) mg p.1 p.2 := fun p hp => by
    constructor
    · obtain ⟨o, us, fi, t1, fl, t2, b0, tx, t3, e1, e2, e3, e4, rest⟩ := codes p hp
      exact ⟨o, us, fi, t1, fl, t2, b0, tx, t3, apart e1 (fun _ _ z => by rw [e3] at z; cases z) (fun z => by rw [e3] at z; cases z; simp at e4), e2, e3, e4, rest⟩
    · obtain ⟨bm, ob, b1, b2, b3, b4, b5, b6⟩ := blt
      refine ⟨bm, ob, b1, b2, fun z => ?_, fun z => ?_, apart b3 (fun _ _ z => by rw [b6] at z; cases z) (fun z => by rw [b6] at z; cases z), b4, b5, b6⟩
      · obtain ⟨o, es, ep, e, d, _⟩ := hns
        rw [← z, b3] at e
        cases e
        rw [b6] at d; cases d
      · rw [z, empty p hp] at b3
        cases b3; cases b6
    · intro z
      obtain ⟨o, es, ep, e, d, _⟩ := hns
      rw [z, empty p hp] at e
      cases e; cases d
  have e0 : Env0 P w K mg (hidT s.heap H) callerA [] s H :=
    ⟨rfl, md, fun _ _ e => of_hidT e, Nat.le_of_eq (hidT_size _ _), trivial, fun _ hb => (List.not_mem_nil hb).elim, hok, .of_eq hg⟩
  have told : ∀ b o, (if b = a then H a else none) = some o → H b = some o := fun b o e => by
    split at e
    · rename_i z; rw [z]; exact e
    · cases e
  have iv : @Iv (TbC.tabs T) K (fun _ => none) (fun b => if b = a then H a else none) H := by
    refine @Bs.iv _ _ _ (TbC.tabs T) (@Bs.mk (TbC.tabs T) _ _ told (fun b ps e => ?_) (fun p hp => ?_) trivial)
    · have e : (if b = a then H a else none) = some (HO.tbl ps) := e
      split at e
      · obtain ⟨ob, z⟩ := hf _ e; cases z
      · cases e
    · exact TabS.nil (tabAt (hT p hp)).2
  have prom : @spF (TbC.tabs T) K FF0 [.ref a] H (fun v _ => v = .bl true) (fun _ _ _ => False) :=
    ⟨_, _, [.val (.scr ns)], [], _, iv, @ArgR.val (TbC.tabs T) K _ _ _ _ _ _ (.scr hS) (@ArgR.nil (TbC.tabs T) K _), fun e he => (List.not_mem_nil he).elim, hF0 ns hl, fun u c' G' H' _ _ _ t => by cases t; rfl⟩
  refine codeAny_mono ((F _ inB (dictK hns) tabB).run callerA [] s H ⟨[.ref a], []⟩ [.ref a] [.ref a] _ _ hr rfl e0 (hbind s (.ref a)) (.cons rfl .nil) prom) fun r s' z => ?_
  match r, z with
  | .error e, z => exact z.elim
  | .ok (.ret u), z =>
    obtain ⟨v, H', os, bare, un, hok', rv, q⟩ := z
    subst q
    cases (show u = Value.bool true from rv)
    -- tables grow, all else stays
    have stays : ∀ b o, b ∉ cs.map (·.2) → s.heap.get? b = some o → s'.heap.get? b = some o := fun b o nb e => by
      cases q : H b with
      | none => exact un.keep b o e q (fun y => (List.not_mem_nil y).elim) (List.not_mem_nil)
      | some u =>
        rcases hA b (by rw [q]; simp) with y | y
        · rw [y] at q e
          obtain ⟨ob, eu⟩ := hf u q
          subst eu
          have after := hok' a _ (un.frzs a ob _ q)
          have before := hok a _ q
          cases (show some o = some ob from e.symm.trans before.1)
          rw [y]; exact after.1
        · exact absurd y nb
    have grown : ∀ p ∈ cs, ∃ more : Array Value, s'.heap.get? p.2 = some (PySem.W.tabObj more) := fun p hp => by
      obtain ⟨more, z⟩ := un.tbls p.2 #[] (tabH p hp)
      exact ⟨_, hok' p.2 _ z⟩
    refine ⟨rfl, ⟨fun b o e => ?_, fun b o e => ?_⟩, os, bare⟩
    · by_cases nb : b ∈ cs.map (·.2)
      · obtain ⟨p, hp, rfl⟩ := List.mem_map.mp nb
        obtain ⟨bigger, hm⟩ := grown p hp
        cases (show some o = some (PySem.W.tabObj #[]) from e.symm.trans (empty p hp))
        exact .inr (.inl ⟨((codes p hp).tab (empty p hp)).isCodeTable, rfl, #[], bigger, rfl, by rw [Array.empty_append]; exact hm⟩)
      · exact .inl (stays b o nb e)
    · by_cases nb : b ∈ cs.map (·.2)
      · obtain ⟨p, hp, rfl⟩ := List.mem_map.mp nb
        obtain ⟨bigger, hm⟩ := grown p hp
        exact ⟨_, hm⟩
      · exact ⟨o, stays b o nb e⟩
theorem start_tabL (hT : ∀ p ∈ T, p.1 ∈ cs.map (·.2)) (KX : K.In s.heap) (hns : s.heap.Ns mainGlobals mg) (hb : s.heap.Ns builtinsNs mb) (hbb : ∀ x : Str, x ≠ "__name__" → mb x = bootBuiltins x) (hlim : s.heap.NoLimit) (hg : s.gens = #[])
    (empty : ∀ p ∈ cs, s.heap.get? p.2 = some (PySem.W.tabObj #[])) (new : ∀ p ∈ cs, K.lookup p.2 = none) (codes : ∀ p ∈ cs, PySem.W.CodeHd s.heap p.1 p.2)
    (blt : ∃ (bm : Addr) (ob : Obj), mg "__builtins__" = some (.ref bm) ∧ bm ≠ builtinsNs ∧ s.heap.get? bm = some ob ∧ ob.cls = .type "module" ∧ ob.dict = some builtinsNs ∧ ob.data = .plain)
    (ha : s.heap.get? a = some { cls := .type "list", data := .seq vs.toArray }) (hi : IntsAre vs ns) (hl : ns.length ≤ 63) (hr : Room k callerA)
    {FF0 : FF} (hF0 : ∀ ns : List Int, ns.length ≤ 63 → FF0 [.val (.scr ns)] = some (.ok (.val (.bl true)) none)) (F : ∀ base : Heap, K.In base → base.Ns mainGlobals mg → (∀ p ∈ cs, TabB base mg p.1 p.2) → FnG P w K mg base CX0 k fa fd [x] (@spF (TbC.tabs T) K FF0)) (hbind : ∀ (s : Shared) (u : Value), BindsTo s fd ⟨[u], []⟩ [(x, u)]) :
    codeAny (model P w) callerA (.call (.ref fa) ⟨[.ref a], []⟩) (fun r s' => r = .ok (.ret (.bool true)) ∧ OldK s.heap s'.heap ∧ s'.os = s.os ∧ AllBare s'.gens) s := by
  have rv := vals_ints hi
  have line : ns.length ≤ sizeLine := Nat.le_trans hl (by decide)
  have noT : a ∉ cs.map (·.2) := fun z => by
    obtain ⟨p, hp, e⟩ := List.mem_map.mp z
    have q := empty p hp
    rw [e, ha] at q
    cases Option.some.inj q
  have tabOf : ∀ {b : Addr}, b ∈ cs.map (·.2) → s.heap.get? b = some (PySem.W.tabObj #[]) := fun {b} hb => by
    obtain ⟨p, hp, rfl⟩ := List.mem_map.mp hb
    exact empty p hp
  have inT : ∀ p ∈ cs, p.2 ∈ cs.map (·.2) := fun p hp => List.mem_map.mpr ⟨p, hp, rfl⟩
  cases hk : K.lookup a with
  | some o =>
    have e := KX a o hk
    rw [ha] at e
    cases Option.some.inj e
    refine start_tabs hT KX hns hb hbb hlim hg empty new codes blt ha hl hr hF0 F hbind (fun b => if b ∈ cs.map (·.2) then some (.tbl #[]) else none) (fun b u z => ?_) (fun p hp => if_pos (inT p hp)) (fun b z => .inr (Classical.byContradiction fun n => z (if_neg n))) (fun z => absurd (if_neg noT) z) (fun o z => ?_) (.inr fun H' => .inr ⟨_, vs.toArray, _, hk, rfl, rfl, rfl, ?_, by simpa using rv⟩)
    · have z : (if b ∈ cs.map (·.2) then some (HO.tbl #[]) else none) = some u := z
      split at z
      · rename_i hb
        cases z
        exact tabOf hb
      · cases z
    · have z : (if a ∈ cs.map (·.2) then some (HO.tbl #[]) else none) = some o := z
      rw [if_neg noT] at z; cases z
    · rw [List.size_toArray, hi.length]; exact line
  | none =>
    let S : HO := .frz { cls := .type "list", data := .seq vs.toArray } (.lst (ns.map V.int))
    refine start_tabs hT KX hns hb hbb hlim hg empty new codes blt ha hl hr hF0 F hbind (fun b => if b = a then some S else if b ∈ cs.map (·.2) then some (.tbl #[]) else none) (fun b u z => ?_) (fun p hp => ?_) (fun b z => ?_) (fun _ => hk) (fun o z => ?_) (.inl ⟨{ cls := .type "list", data := .seq vs.toArray }, ?_⟩)
    · have z : (if b = a then some S else if b ∈ cs.map (·.2) then some (HO.tbl #[]) else none) = some u := z
      split at z
      · rename_i hb
        cases z
        subst hb
        exact ⟨ha, by rw [List.length_map]; exact line, vs, _, rv, ha⟩
      · split at z
        · rename_i hb
          cases z
          exact tabOf hb
        · cases z
    · show (if p.2 = a then _ else _) = _
      have off : p.2 ≠ a := fun z => noT (by rw [← z]; exact inT p hp)
      rw [if_neg off, if_pos (inT p hp)]
    · by_cases h1 : b = a
      · exact .inl h1
      · refine .inr (Classical.byContradiction fun n => z ?_)
        show (if b = a then _ else _) = _
        rw [if_neg h1, if_neg n]
    · have z : (if a = a then some S else _) = some o := z
      rw [if_pos rfl] at z
      exact ⟨_, (Option.some.inj z).symm⟩
    · show (if a = a then (if a = a then some S else _) else none) = _
      rw [if_pos rfl, if_pos rfl]
end
/-- what the head leaves of a law with lambdas -/
theorem walkT {FF0 : FF} (hF0 : ∀ (t : TbC) (ns : List Int), ns.length ≤ 63 → FF0 [.val (.scr ns)] = some (.ok (.val (.bl true)) none)) {l : PySem.W.OpenLaw} {k : Nat} {q : Program} {loose : List Str} {XP : (Str → Option Value) → Heap → Prop} {YP : World → Heap → Prop} {d : DefRec} {K : Params → PySem.W.Frag} {x : Str}
    (hn : l.most = some 63) (hdf : d.params.defaults = []) (hr : Room k callerA) (hY : ∀ (w : World) (h : Heap), YP w h → (K w.params).In h)
    (F : ∀ (w : World) (mg : Str → Option Value) (fa : Addr) (h : Heap), YP w h → (K w.params).In h → h.Ns mainGlobals mg → mg d.name = some (.ref fa) →
      ∃ (fd : FuncData) (cs : List (Addr × Addr)) (T : List (Addr × Str)), (∀ p ∈ T, p.1 ∈ cs.map (·.2)) ∧ (∀ p ∈ cs, h.get? p.2 = some (PySem.W.tabObj #[])) ∧ (∀ p ∈ cs, (K w.params).lookup p.2 = none) ∧ (∀ p ∈ cs, PySem.W.CodeHd h p.1 p.2) ∧
        (∀ (s : Shared) (u : Value), BindsTo s fd ⟨[u], []⟩ [(x, u)]) ∧ ∀ base : Heap, (K w.params).In base → base.Ns mainGlobals mg → (∀ p ∈ cs, TabB base mg p.1 p.2) → FnG l.prog w (K w.params) mg base CX0 k fa fd [x] (@spF (TbC.tabs T) (K w.params) FF0)) :
    PySem.W.WalkO q loose XP YP l.row.toRowW d [] (fun f vs => PySem.call f vs) := by
  refine Att.attach_call hn hdf fun w s₀ s₁ mg mb fa o pm cd doc a vs ns G Y ho hd hcd hmg hobj hints hlen hg => ?_
  obtain ⟨fd, cs, T, hT, empty, new, codes, hbd, hF⟩ := F w mg fa _ Y (hY w _ Y) G.T.g hmg
  exact start_tabL hT (hY w _ Y) G.T.g G.T.b G.T.builtins G.T.nolimit hg empty new codes G.T.bmain hobj hints hlen hr (hF0 (TbC.tabs T)) hF hbd
end DF

set_option linter.all false
set_option maxRecDepth 100000
set_option maxHeartbeats 4000000
/-! functions that end with an error; what a lambda gave -/
namespace DF
open PySem PySem.Spec PyProof.Rows L2 TX LamX
theorem FnG.of {P : Program} {w : World} {K : PySem.W.Frag} {mg : Str → Option Value} {base : Heap} {CX : CXT} {k : Nat} {f : Addr} {fd : FuncData} {ps : List Str} {sp : Sp} (h : FnOk P w K mg base CX k f fd ps sp) : FnG P w K mg base CX k f fd ps sp :=
  ⟨h.len, fun A out s H ar us vs Q E room _ e0 bind vals want => h.run A out s H ar us vs Q E room e0 bind vals want⟩
/-- f ends with this error -/
def Er {α : Type} (x : FM α) (Γ : EnvF) (c f : Str) (d : D) : Prop := ∃ Γ', x Γ = some (.ex c f d Γ')
section
variable [TbC] {α β : Type} {Γ : EnvF} {c f : Str} {d : D} {fa fb : FE} {fs fr : FA} {ft : FT} {a b : FS}
end
end DF

set_option linter.all false
set_option maxRecDepth 100000
set_option maxHeartbeats 4000000
/-! a def held in a local name: told as the datum `.cls` of its name -/
namespace DF
open PySem PySem.Spec PyProof.Rows L2 TX LamX
variable [TbC]
section
variable {X : Cx}
def tCallL (i : Nat) (f : Addr) (sp : Sp) (E : XK) (t : TA) : TE := fun σ H Q => σ[i]? = some (some (.ref f)) ∧ tCall sp [] E t σ H Q
end
section
variable {K : PySem.W.Frag} {P : List Addr} {Γ Γ' : EnvF} {W : WX} {t : TA} {fs : FA} {E : XK} {Φ : D → EnvF → Prop}
def fCallL (fn : Str) (F : FF) (i : Nat) (a : FA) : FE := fun Γ => match Γ[i]? with
  | some (.val (.cls x)) => if x = fn then fCall F a Γ else none
  | _ => none
end
end DF

set_option linter.all false
set_option maxRecDepth 100000
set_option maxHeartbeats 4000000
/-! list.index of plain values; str.partition -/
namespace DF
open PySem PySem.Spec PyProof.Rows L2 TX LamX
section
variable {X : Cx} {K : PySem.W.Frag}
end
def flatL : List D → Option (List V)
  | [] => some []
  | x :: xs => (flatD x).bind fun v => (flatL xs).map (v :: ·)
def firstAt (y : V) : List V → Option Nat
  | [] => none
  | v :: vs => if eqV v y = true then some 0 else (firstAt y vs).map (· + 1)
def indexD : D → List D → Option D
  | .lst ds, [y] => (flatD y).bind fun v => (flatL ds).bind fun vs => (firstAt v vs).map fun j => .int (j : Nat)
  | _, _ => none
section
variable [TbC] {K : PySem.W.Frag} {G : Hp}
/-! str.partition -/
abbrev rPartn : V → List V → Hp → VK → Prop := fun x xs H Q => ∃ a b, x = .str a ∧ xs = [.str b] ∧ (b.length == 0) = false ∧ a.length ≤ sizeLine ∧
    ∀ p, H p = none → Q (.ref p) (upd H p (.tup [.str (Txt.partition a b).1, .str (Txt.partition a b).2.1, .str (Txt.partition a b).2.2]))
def partnD : D → List D → Option D
  | .str a, [.str b] => if b.length ≠ 0 ∧ a.length ≤ 16777216 then some (.tup [.str (Txt.partition a b).1, .str (Txt.partition a b).2.1, .str (Txt.partition a b).2.2]) else none
  | _, _ => none
end
end DF

set_option linter.all false
set_option maxRecDepth 100000
set_option maxHeartbeats 4000000
/-! {} as a value: the datum .dct [] -/
namespace DF
open PySem PySem.Spec PyProof.Rows L2 TX LamX
variable [TbC] {K : PySem.W.Frag} {W : WX}
end DF

set_option linter.all false
set_option maxRecDepth 100000
set_option maxHeartbeats 4000000
/-! x.pop(i) of a list of one's own -/
namespace DF
open PySem PySem.Spec PyProof.Rows L2 TX LamX
variable [TbC] {K : PySem.W.Frag} {W : WX} {G : Hp} {Γ : EnvF} {tb : TE} {fb : FE} {Φ : D → EnvF → Prop}
def fPopAt (i : Nat) (b : FE) : FE := hasLst i (FM.bind (fV b) fun y Γ => match lstAt i Γ, y with
  | some (k, ds), .int j => if -(2 ^ 63) ≤ j ∧ j < 2 ^ 63 then (seqIndex? j ds.length).bind fun n => (ds[n]?).map fun d => .ok (.val d) (Γ.set i (.own k (.lst (ds.eraseIdx n)))) else none
  | _, _ => none)
end DF

set_option linter.all false
set_option maxRecDepth 100000
set_option maxHeartbeats 4000000
/-! an error that is told: for defs that are handed a caught error -/
namespace TX
open PySem PySem.Spec PyProof.Rows L2
/-- at a: an error of the class at C, its dict at dd -/
def exa (a C dd : Addr) : HO := .ext fun h => ∃ (o : Obj) (vs : Array Value), h.get? a = some o ∧ o.cls = .ref C ∧ o.dict = some dd ∧ o.data = Data.fields vs
section
variable {X : Cx} {pins : List (Addr × Obj)} {σ : L2.St} {H : Hp} {s : Shared}
def rIsT (K : PySem.W.Frag) : List V → Hp → VK → Prop := fun xs H Q => ∃ (a D dd : Addr) (c : V) (cv : Value) (b : Bool) (fs : List (Str × V)), ExcC K D ∧ (PySem.W.clsIn K D).isSome = true ∧ xs = [.ref a, c] ∧ (∀ u, L2.RelV c u → u = cv) ∧ PySem.W.kitOne K (.ref D) cv = some b ∧ H a = some (exa a D dd) ∧ H dd = some (.xd fs) ∧ Q (.bl b) H
def tXfT (K : PySem.W.Frag) (n : Str) (te : TE) : TE := fun σ H Q => te σ H fun x H1 => ∃ (a C dd : Addr) (fs : List (Str × V)) (v : V), x = .ref a ∧ XfC K C ∧ PySem.W.findIn K (.ref C) n = some none ∧ H1 a = some (exa a C dd) ∧ H1 dd = some (.xd fs) ∧ fs.lookup n = some v ∧ Q v H1
end
end TX

set_option linter.all false
set_option maxRecDepth 100000
set_option maxHeartbeats 4000000
/-! list.count of plain values -/
namespace DF
open PySem PySem.Spec PyProof.Rows L2 TX LamX
section
variable {X : Cx} {K : PySem.W.Frag}
def rCntF (K : PySem.W.Frag) : V → List V → Hp → VK → Prop := fun x xs H Q => ∃ (a : Addr) (ys : List V) (y : V), x = V.ref a ∧ xs = [y] ∧ SqL K H a ys ∧ flatV y = true ∧ ys.all flatV = true ∧ Q (.int (ys.countP (fun z => eqV z y) : Nat)) H
end
def lcountD : D → List D → Option D
  | .lst ds, [y] => (flatD y).bind fun v => (flatL ds).map fun vs => .int (vs.countP (fun z => eqV z v) : Nat)
  | _, _ => none
end DF

set_option linter.all false
set_option maxRecDepth 100000
set_option maxHeartbeats 4000000
/-! a def called from a suite, that is handed the caught error: the error is pinned in its body -/
namespace TX
open PySem PySem.Spec PyProof.Rows L2 LamX
structure FnQ (P : Program) (w : World) (K : PySem.W.Frag) (mg : Str → Option Value) (base : Heap) (k : Nat) (f : Addr) (fd : FuncData) (ps : List Str) (a : Addr) (oe : Obj) (sp : Sp) : Prop where
  len : ∀ vs H Q E, sp vs H Q E → vs.length = ps.length
  run : ∀ (A : Around) (out : List Env) (s : Shared) (H : Hp) (ar : Args) (us : List Value) (vs : List V) (Q : VK) (E : XK), L2H.RoomH k A → A.guards = some [] → L2H.PinOk out H s (a, oe) → Env0 P w K mg base A out s H → BindsTo s fd ar (ps.zip us) → Vals vs us → sp vs H Q E →
    codeAny (model P w) A (.call (.ref f) ar) (CR CX0 out P w H s Q E) s
section
variable {P : Program} {w : World} {K : PySem.W.Frag} {mg : Str → Option Value} {base : Heap} {a : Addr} {oe : Obj}
end
section
variable {X : Cx} {pins : List (Addr × Obj)} {σ : L2.St} {H : Hp} {s : Shared} {a : Addr} {oe : Obj}
end
end TX
namespace DF
open PySem PySem.Spec PyProof.Rows L2 TX LamX
/-- the promise of such a def -/
def spZ (K : PySem.W.Frag) (a : Addr) (cls : Value) (d : Option Addr) (FX : Str → Str → D → FF) : Sp := fun vs H Q E => ∃ (t : TbC) (C dd : Addr) (cn f : Str) (fv : V) (dt : D), cls = .ref C ∧ d = some dd ∧ CT K cn C ∧ t.xa = a ∧
  (∀ G H, t.Z G H → H dd = some (.xd [(f, fv)]) ∧ At K G fv dt) ∧ @spF t K (FX cn f dt) vs H Q E
def fCallX (F : FF) (i : Nat) : FE := fun Γ => if atX i Γ = true then (match F [.exc] with
  | some (.ok (.val d) none) => some (.ok (.val d) Γ)
  | _ => none) else none
end DF
namespace DF
open PySem PySem.Spec PyProof.Rows L2 TX LamX
variable [TbC] {K : PySem.W.Frag} {W : WX} {G : Hp} {Γ : EnvF} {t : TA} {fs : FA} {Φ : Vr → EnvF → Prop}
/-- x + [..], x a list of one's own: a new one -/
def fAddO (i : Nat) (a : FA) : FE := hasLst i (FM.bind (fVs a) fun ys Γ => match lstAt i Γ with
  | some (_, ds) => if ds.length + ys.length ≤ 16777216 then some (.ok (.own (.lst (ds ++ ys))) Γ) else none
  | none => none)
end DF
namespace DF
open PySem PySem.Spec PyProof.Rows L2
end DF

set_option linter.all false
set_option maxRecDepth 100000
set_option maxHeartbeats 4000000
/-! a dict of the module whose keys are ints; repr of {} -/
namespace DF
open PySem PySem.Spec PyProof.Rows L2
def KeysI : List DictEntry → Prop
  | [] => True
  | e :: r => (∃ i t, e.key = .int i t ∧ e.hash = hashInt i) ∧ KeysI r
theorem KeysI.each : ∀ {l : List DictEntry}, KeysI l → ∀ e ∈ l, ∃ i t, e.key = .int i t ∧ e.hash = hashInt i
  | _ :: _, ⟨h, _⟩, _, .head _ => h
  | _ :: _, ⟨_, r⟩, _, .tail _ m => r.each _ m
def KDcI (K : PySem.W.Frag) (a : Addr) (i : Int) (v : V) : Prop :=
  ∃ es n u, K.lookup a = some ⟨.type "dict", none, .dict es n, #[]⟩ ∧ KeysI es.toList ∧ findBy keyIs es (Sum.inl i) = some u ∧ RelV v u
def rIxI (K : PySem.W.Frag) : R2 := fun x y H Q => ∃ p i v, x = .ref p ∧ y = .int i ∧ KDcI K p i v ∧ Q v H
section
variable [TbC] {K : PySem.W.Frag}
def ixKI (nm : Str) (tb : List (Int × D)) : D → D → Option D
  | .cls n, .int z => if n = nm then tb.lookup z else none
  | _, _ => none
/-- repr({}) -/
def rRepr0 : List V → Hp → VK → Prop := fun xs H Q => ∃ p, xs = [.ref p] ∧ H p = some (.dK []) ∧ Q (.str "{}") H
def repr0D : List D → Option D
  | [.dct []] => some (.str "{}")
  | _ => none
abbrev reprZ : List D → Option D := orC reprD repr0D
end
end DF

set_option linter.all false
set_option maxRecDepth 100000
set_option maxHeartbeats 4000000
/-! x not in a text -/
namespace DF
open PySem PySem.Spec PyProof.Rows L2
variable [TbC] {K : PySem.W.Frag}
def notInSD : D → D → Option D
  | .str i, .str j => some (.bl (!(!(Builtin.Str.occurrences j i 0 j.length 1).isEmpty)))
  | _, _ => none
/-! x in a tuple or list of plain items -/
def flF : D → Bool
  | .non | .bl _ | .int _ | .str _ => true
  | _ => false
def fvD : D → V
  | .bl b => .bl b
  | .int i => .int i
  | .str z => .str z
  | _ => .non
def inFL (neg : Bool) (x : D) (ds : List D) : Option D := if flF x = true ∧ ds.all flF = true then some (.bl (if neg then !inV (fvD x) (ds.map fvD) else inV (fvD x) (ds.map fvD))) else none
def inFD (neg : Bool) : D → D → Option D
  | x, .tup ds => inFL neg x ds
  | x, .lst ds => inFL neg x ds
  | _, _ => none
end DF
namespace DF
open PySem PySem.Spec PyProof.Rows L2
end DF
namespace TX
open PySem PySem.Spec PyProof.Rows L2 LamX
section
variable {P : Program} {w : World} {K : PySem.W.Frag} {mg : Str → Option Value} {base : Heap}
end
end TX

set_option linter.all false
set_option maxRecDepth 100000
set_option maxHeartbeats 4000000
/-! x in a dict of the module, also where it isn't -/
namespace DF
open PySem PySem.Spec PyProof.Rows L2
def KeysAre : List DictEntry → List Str → Prop
  | [], [] => True
  | e :: r, k :: ks => (∃ t, e.key = .str k t) ∧ KeysAre r ks
  | _, _ => False
def rInKB (d : Addr) (es : Array DictEntry) : R2 := fun x y H Q => ∃ z : Str, x = .str z ∧ y = .ref d ∧ Q (.bl (findBy Value.isStrOf es z).isSome) H
section
variable [TbC] {K : PySem.W.Frag}
def inKB (nm : Str) (ks : List Str) : D → D → Option D
  | .str z, .cls n => if n = nm then some (.bl (decide (z ∈ ks))) else none
  | _, _ => none
end
end DF

set_option linter.all false
set_option maxRecDepth 100000
set_option maxHeartbeats 4000000
/-! calls from a def that is handed the error; isinstance against the interpreter's own classes -/
namespace TX
open PySem PySem.Spec PyProof.Rows L2 LamX
end TX
namespace DF
open PySem PySem.Spec PyProof.Rows L2 TX LamX
def KTabT (K : PySem.W.Frag) (tb : List (Str × String × Bool)) : Prop := ∀ e ∈ tb, ∀ C, CT K e.1 C → PySem.W.kitOne K (.ref C) (.type e.2.1) = some e.2.2
def isXT (tb : List (Str × String × Bool)) (c : Str) (x : String) : Option Bool := (tb.find? fun e => e.1 == c && e.2.1 == x).map (·.2.2)
def isCT (tb : List (Str × String × Bool)) (lv : List (Str × Str)) (c f : Str) (x : String) (i : Nat) : FE := fun Γ => if (c, f) ∈ lv ∧ atX i Γ = true then (isXT tb c x).map fun b => .ok (.val (.bl b)) Γ else none
section
variable {K : PySem.W.Frag} [TbC] {W : WX} {tb : List (Str × String × Bool)} {lv : List (Str × Str)} {cn f : Str} {x : String} {C dd : Addr} {i : Nat} {fv : V} {d : D}
end
end DF

set_option linter.all false
set_option maxRecDepth 100000
set_option maxHeartbeats 4000000
/-! bool of an instance that has __len__ alone -/
namespace DF
open PySem PySem.Spec PyProof.Rows L2 TL NumText
variable [TbC]
open PySem.Sem (wp)
section
variable {X : Cx}
def rBoL (C : Addr) (sp : Sp) : List V → Hp → VK → Prop := fun xs H Q => ∃ a dx fs, xs = [.ref a] ∧ H a = some (.ins C dx fs) ∧ sp [.ref a] H (fun v H' => ∃ n : Int, v = .int n ∧ (0 ≤ n ∧ n < 2 ^ 63) ∧ Q (.bl (n != 0)) H') fun _ _ _ => False
end
section
variable {K : PySem.W.Frag}
def boolL (cn : Str) (F : FF) : List D → Option D
  | [.ins c gs] => if c = cn then (match F [.val (.ins c gs)] with
    | some (.ok (.val (.int n)) none) => if 0 ≤ n ∧ n < 2 ^ 63 then some (.bl (n != 0)) else none
    | _ => none) else none
  | _ => none
end
end DF

set_option linter.all false
set_option maxRecDepth 100000
set_option maxHeartbeats 4000000
/-! a def called from a def that is handed a lambda -/
namespace DF
open PySem PySem.Spec PyProof.Rows L2 TX LamX
def spA (K : PySem.W.Frag) (F : FF) : Sp := fun vs H Q E => ∃ t : TbC, @spF t K F vs H Q E
section
variable {K : PySem.W.Frag} [TbC] {W : WX} {E : XK} {t : TA} {fs : FA}
end
end DF

set_option linter.all false
set_option maxRecDepth 100000
set_option maxHeartbeats 4000000
/-! sorted(xs, key=lambda r: abs(r[c])) over rows of whole numbers -/
namespace TX
open PySem PySem.Spec PyProof.Rows L2 LamX
section
variable {X : Cx} {pins : List (Addr × Obj)} {σ : L2.St} {H : Hp} {s : Shared} {params : Arguments} {body : Expr} {scope : Scope}
theorem codeRec_of (I : Inv X pins σ H s) {c' : Addr} {q : Str} (e : H c' = some (CodeO c' q)) : s.heap.CodeRec (.ref c') q := by
  have z := I.hok c' _ e
  unfold CodeO at z
  obtain ⟨⟨oc, vs, t, h1, h2, h3⟩, _⟩ := z
  exact ⟨c', oc, vs, t, rfl, h1, h2, h3⟩
abbrev lamE (X : Cx) (scope : Scope) (L f c' : Addr) : Env := PySem.W.envX (lamQ X) scope L f (.ref c') (cloFrom X.env.cells scope.names [])
theorem lam_call1 (I : Inv X pins σ H s) {f c' : Addr} {pm ctv v : Value} {r : Str} (at_f : s.heap.get? f = some (lamO X params body scope pm c' ctv)) (at_c : H c' = some (CodeO c' (lamQ X)))
    (kind : scope.kind = .function) (co : scope.isCoroutine = false) (ge : scope.isGenerator = false) (nocell : ∀ x ∈ scope.names, x.2 ≠ .cell) (par : scope.names.lookup r = some .local)
    (binds : bindArgs (PySem.W.kla_fn "<lambda>" (lamQ X) params body scope (cloFrom X.env.cells scope.names []) pm (.ref c') ctv) ⟨[v], []⟩ = pure [(r, v)])
    {A : Around} (dep : A.depth < recursionLimit) {Q E : Value → Shared → Prop}
    (hb : ∀ (L : Addr) (h₁ : Heap) (tk : Nat), (∀ b o, s.heap.get? b = some o → h₁.get? b = some o) → s.heap.objs.size ≤ L → h₁.Ns L (fun y => List.lookup y [(r, v)].reverse) →
      wpAny (model X.prog X.w) (A.deeper (lamE X scope L f c')) (eval body (lamE X scope L f c')) Q (fun _ _ => False) { heap := h₁, gens := s.gens, drawn := s.drawn, toks := tk, os := s.os }) :
    wpAny (model X.prog X.w) A (call (.ref f) [v]) Q E s := by
  refine wpAny_call ?_
  refine PySem.W.kla_callFunE dep at_f rfl co ge rfl (codeRec_of I at_c) ?_
  show wpAny _ _ (bindArgs (PySem.W.kla_fn "<lambda>" (lamQ X) params body scope (cloFrom X.env.cells scope.names []) pm (.ref c') ctv) ⟨[v], []⟩) _ _ _
  rw [binds]
  refine wpAny_pure ?_
  refine wpAny_newFunctionEnv nocell (fun x hx => by rw [List.mem_singleton] at hx; subst hx; exact par) (fun h' ns sb => ?_) kind
  have ext : ∀ b o, s.heap.get? b = some o → h'.get? b = some o := fun b o e => by
    rw [sb.2 b (Nat.ne_of_lt (Heap.lt_size e))]
    exact Heap.get?_push_of_some _ e
  have I1 : Inv X pins σ H { s with heap := h', toks := s.toks + 1 } := I.kept ext
  refine ⟨I1.nolimit, ?_⟩
  refine PySem.W.kla_codeExpr ?_
  refine wpAny_mono (hb s.heap.objs.size h' _ ext (Nat.le_refl _) ns) (fun u s' q => q) fun e s' z => z.elim
end
end TX
namespace TX
open PySem PySem.Spec PyProof.Rows L2 LamX
section
variable {X : Cx} {pins : List (Addr × Obj)} {σ : L2.St} {H : Hp} {s : Shared} {params : Arguments} {scope : Scope}
theorem vals_at : ∀ {xs : List V} {us : List Value}, Vals xs us → ∀ {i : Nat} {v : V}, xs[i]? = some v → ∃ u, us[i]? = some u ∧ RelV v u
  | _, _, .nil, i, v, e => by simp at e
  | _, _, .cons r _, 0, v, e => by simp at e; subst e; exact ⟨_, by simp, r⟩
  | _, _, .cons _ l, i + 1, v, e => by simpa using vals_at l (i := i) (v := v) (by simpa using e)
theorem cell_ext {h h' : Heap} {c : Addr} {v : Option Value} (ext : ∀ b o, h.get? b = some o → h'.get? b = some o) (k : h.IsCell c v) : h'.IsCell c v := by
  unfold Heap.IsCell at k ⊢
  obtain ⟨o, e, d⟩ := k
  exact ⟨o, ext _ _ e, d⟩
/-- abs(r[c]) in the lambda, over a heap that has grown -/
theorem abs_key (I : Inv X pins σ H s) {p1 p2 p3 p4 p5 : Pos} {f c' cc p : Addr} {pm ctv : Value} {r cn : Str} {col : Int} {t : Tok} {zs : List V} {m : Int}
    (at_f : s.heap.get? f = some (lamO X params (.Call (.Name "abs" p1) [.Subscript (.Name r p2) (.Name cn p3) p4] [] p5) scope pm c' ctv)) (at_c : H c' = some (CodeO c' (lamQ X)))
    (kind : scope.kind = .function) (co : scope.isCoroutine = false) (ge : scope.isGenerator = false) (nocell : ∀ x ∈ scope.names, x.2 ≠ .cell) (par : scope.names.lookup r = some .local)
    (fr : scope.names.lookup cn = some .free) (ga : scope.names.lookup ("abs" : Str) = some .globalImplicit)
    (binds : ∀ v, bindArgs (PySem.W.kla_fn "<lambda>" (lamQ X) params (.Call (.Name "abs" p1) [.Subscript (.Name r p2) (.Name cn p3) p4] [] p5) scope (cloFrom X.env.cells scope.names []) pm (.ref c') ctv) ⟨[v], []⟩ = pure [(r, v)])
    (noabs : X.mg "abs" = none) (clo : (cloFrom X.env.cells scope.names []).lookup cn = some cc) (cel : s.heap.IsCell cc (some (.int col t)))
    (atp : H p = some (.lst zs)) (c0 : 0 ≤ col) (c1 : col < 2 ^ 63) (it : zs[col.toNat]? = some (.int m))
    (db : (cn == ("__debug__" : Str)) = false) (dr : (r == ("__debug__" : Str)) = false) (dc : (cn == ("__classdict__" : Str)) = false)
    {A : Around} (dep : A.depth < recursionLimit) {E : Value → Shared → Prop} :
    wpAny (model X.prog X.w) A (call (.ref f) [.ref p]) (PySem.W.KeyPure (.int (if m < 0 then -m else m)) s) E s := by
  obtain ⟨its, n, vals, got, _⟩ := I.lst atp
  obtain ⟨u, iu, ru⟩ : ∃ u, its[col.toNat]? = some u ∧ RelV (.int m) u := vals_at vals it
  obtain ⟨tu, rfl⟩ := ru
  obtain ⟨mb, hmb, hb⟩ := I.ok.mod.blt
  refine lam_call1 I at_f at_c kind co ge nocell par (binds _) dep fun L h₁ tk ext sz ns => ?_
  have fr1 : Fr X.base L h₁ (fun y => List.lookup y [(r, Value.ref p)].reverse) := ⟨ns, fun b o e => ext b o (I.bk b o e), Nat.le_trans (Nat.le_trans I.ok.bsz I.sz) sz⟩
  refine Call_Name1 ?_ rfl
  refine Calls.Name_function_global kind ga ?_
  refine Calls.loadGlobal_builtin ((I.ok.mod.glob.keeps I.bk).keeps ext) noabs ((hmb.keeps I.bk).keeps ext) (v := .builtin "abs") ((hb _ (by decide)).trans rfl) ?_
  refine PySem.callWith_builtin1 ?_
  refine wpAny_Subscript_Name (T := "list") rfl ?_
  refine PySem.W.nameX_L (v := .ref p) fr1 (by simp) ?_ kind par dr
  refine wpAny_Name (wpAny_loadName_free kind fr clo (cell_ext ext cel) ?_ dc) db
  refine ⟨?_, ?_⟩
  · exact ⟨_, ext _ _ got, rfl⟩
  refine wpAny_getItem_list (items := its.toArray) ⟨_, ext _ _ got, rfl, n, rfl⟩ c0 c1 (by simpa using iu) ?_
  refine call_abs_int fun tu tk2 => ?_
  exact ⟨h₁, tk2, rfl, ext, .int _ _⟩
end
end TX
namespace TX
open PySem PySem.Spec PyProof.Rows L2 LamX
def absI (m : Int) : Int := if m < 0 then -m else m
def keyLe {α : Type} (a b : α × Int) : Bool := decide (absI a.2 ≤ absI b.2)
def sortK {α : Type} (xs : List α) (ks : List Int) : List α := ((xs.zip ks).mergeSort keyLe).map (·.1)
def RowK (H : Hp) (c : Nat) (x : V) (k : Int) : Prop := ∃ p zs, x = V.ref p ∧ H p = some (.lst zs) ∧ zs[c]? = some (.int k)
theorem le_keyLe {α : Type} : PySem.W.dataLe false (fun b : α × Int => PyData.int (absI b.2)) = keyLe := by
  funext a b
  unfold PySem.W.dataLe PySem.W.sortLe keyLe
  simp only [PySem.W.keyToks, PyProof.Rows.lexLt, PyProof.Rows.itemLt, Bool.false_eq_true, if_false]
  by_cases h : absI a.2 ≤ absI b.2
  · simp [h, Int.not_lt.mpr h]
  · simp [h, Int.not_le.mp h]
theorem clo_at {cells : List (Str × Addr)} {names : List (Str × NameKind)} {n : Str} {cc : Addr} (m : (n, NameKind.free) ∈ names) (e : cells.lookup n = some cc) : (cloFrom cells names []).lookup n = some cc := by
  have h := cloFrom_has (cells := cells) (acc := []) m
  cases q : (cloFrom cells names []).lookup n with
  | none =>
    rw [List.lookup_eq_none_iff] at q
    have := q _ h
    simp at this
  | some c' =>
    have : (n, c') ∈ cloFrom cells names [] := by
      rw [List.lookup_eq_some_iff] at q
      obtain ⟨l1, l2, e1, _⟩ := q
      rw [e1]; simp
    rcases cloFrom_mem this with z | ⟨_, z⟩
    · cases z
    · rw [z, e]; rfl
theorem ExtY.lst {H H1 : Hp} (e : ExtY H H1) {p : Addr} {zs : List V} (h : H p = some (.lst zs)) : H1 p = some (.lst zs) := (e p _ h).elim id fun ⟨_, _, w, _⟩ => by cases w
theorem RowK.ext {H H1 : Hp} (e : ExtY H H1) {c : Nat} {x : V} {k : Int} (h : RowK H c x k) : RowK H1 c x k := by
  obtain ⟨p, zs, e1, e2, e3⟩ := h
  exact ⟨p, zs, e1, e.lst e2, e3⟩
def tSortK (T : List (Addr × Str)) (i : Nat) (te : TE) : TE := fun σ H Q => te σ H fun x H1 => Tabs T H1 ∧ ∃ (a : Addr) (xs : List V) (ks : List Int) (c : Nat), x = .ref a ∧ H1 a = some (.lst xs) ∧ σ[i]? = some (some (.int c)) ∧ (c : Int) < 2 ^ 63 ∧
  PySem.W.EachIs (RowK H1 c) xs ks ∧ ∀ H2 p, ExtY H1 H2 → Tabs T H2 → H2 p = none → Q (.ref p) (upd H2 p (.lst (sortK xs ks)))
theorem each_zip {α β γ : Type} {R : α → β → Prop} {S : β → γ → Prop} : ∀ {as : List α} {bs : List β} {cs : List γ}, (∀ (i : Nat) (a : α) (b : β), as[i]? = some a → bs[i]? = some b → R a b) → as.length = bs.length → PySem.W.EachIs S bs cs → PySem.W.EachIs (fun a (b : β × γ) => R a b.1 ∧ S b.1 b.2) as (bs.zip cs)
  | [], [], _, _, _, .nil => .nil
  | [], _ :: _, _, _, h, _ => by simp at h
  | _ :: _, [], _, _, h, _ => by simp at h
  | a :: as, b :: bs, _, r, h, .cons s l => .cons ⟨r 0 a b rfl rfl, s⟩ (each_zip (fun i a b e1 e2 => r (i + 1) a b (by simpa using e1) (by simpa using e2)) (by simpa using h) l)
theorem each_mono {α β : Type} {R S : α → β → Prop} (h : ∀ a b, R a b → S a b) : ∀ {as : List α} {bs : List β}, PySem.W.EachIs R as bs → PySem.W.EachIs S as bs
  | _, _, .nil => .nil
  | _, _, .cons r l => .cons (h _ _ r) (each_mono h l)
theorem each_vals {β : Type} {R : Value → V × β → Prop} (hR : ∀ v b, R v b → RelV b.1 v) : ∀ {us : List Value} {bs : List (V × β)}, PySem.W.EachIs R us bs → Vals (bs.map (·.1)) us
  | _, _, .nil => .nil
  | _, _, .cons r l => .cons (hR _ _ r) (each_vals hR l)
theorem vals_get : ∀ {xs : List V} {us : List Value}, Vals xs us → ∀ (i : Nat) (u : Value) (x : V), us[i]? = some u → xs[i]? = some x → RelV x u
  | _, _, .nil, i, u, x, e, _ => by simp at e
  | _, _, .cons r _, 0, u, x, e1, e2 => by simp at e1 e2; subst e1 e2; exact r
  | _, _, .cons _ l, i + 1, u, x, e1, e2 => vals_get l i u x (by simpa using e1) (by simpa using e2)
theorem vals_len : ∀ {xs : List V} {us : List Value}, Vals xs us → us.length = xs.length
  | _, _, .nil => rfl
  | _, _, .cons _ l => by simp [vals_len l]
section
variable {X : Cx} {params : Arguments} {scope : Scope}
theorem pe_sortK {T : List (Addr × Str)} {c P : Addr} {i k : Nat} {r cn : Str} {eb : Expr} {te : TE} {p0 p1 p2 p3 p4 p5 lpos kpos pos : Pos}
    (he : PE X eb te) (gls : Gl X ("sorted" : Str)) (nos : X.mg "sorted" = none) (noabs : X.mg "abs" = none)
    (TB : TabB X.base X.mg c P) (code : X.env.code = .ref c) (mem : (P, lamQ X) ∈ T) (one : ∀ p ∈ T, p.1 = P → p.2 = lamQ X) (room : Room k X.A)
    (at_i : X.N[i]? = some cn) (cel : X.env.kindOf cn = some .cell) (nodef : defaultsOf params X.env = ([], []))
    (kind : scope.kind = .function) (co : scope.isCoroutine = false) (ge : scope.isGenerator = false) (nocell : ∀ x ∈ scope.names, x.2 ≠ .cell) (par : scope.names.lookup r = some .local)
    (fr : scope.names.lookup cn = some .free) (frm : (cn, NameKind.free) ∈ scope.names) (ga : scope.names.lookup ("abs" : Str) = some .globalImplicit)
    (only : ∀ y ∈ scope.names, y.2 = .free → y.1 = cn)
    (binds : ∀ (q : Str) (cl : List (Str × Addr)) (pm cv ctv v : Value), bindArgs (PySem.W.kla_fn "<lambda>" q params (.Call (.Name "abs" p1) [.Subscript (.Name r p2) (.Name cn p3) p4] [] p5) scope cl pm cv ctv) ⟨[v], []⟩ = pure [(r, v)])
    (plain : starEach [eb] X.env = [(false, eval eb X.env)])
    (db : (cn == ("__debug__" : Str)) = false := by decide) (dr : (r == ("__debug__" : Str)) = false := by decide) (dc : (cn == ("__classdict__" : Str)) = false := by decide) :
    PE X (.Call (.Name "sorted" p0) [eb] [⟨some "key", .Lambda params (.Call (.Name "abs" p1) [.Subscript (.Name r p2) (.Name cn p3) p4] [] p5) scope lpos, kpos⟩] pos) (tSortK T i te) := by
  constructor
  rintro pins s σ H Q I ask
  refine wpAny_Call_Name_kw (ld_blt (u := .builtin "sorted") I gls nos rfl ?_)
  refine callWith_kw ?_ (by rw [plain]; rfl) (by rw [plain]; rfl) rfl rfl
  rw [plain]
  refine Calls.spliced_cons (thn (he.run pins s σ H _ I ask) fun u s1 hh => ?_)
  obtain ⟨x, H1, I1, rx, tabs, a, xs, ks, col, ex, ha, hc, c63, rows, fin⟩ := hh
  subst ex
  obtain rfl : u = Value.ref a := rx
  refine Calls.spliced_nil ?_
  have caught : ∀ y ∈ scope.names, y.2 = .free → ∃ c, X.env.cells.lookup y.1 = some c := fun y hy e => by
    rw [only y hy e]; exact I.ok.has cn (.inl cel)
  refine kwAll_cons ?_
  refine lam_makeY I1 TB code mem one tabs nodef caught fun f c' pm ctv H2 s2 I2 ext tabs2 at_f no_f nofr at_c => ?_
  refine kwAll_nil ?_
  show wpAny _ _ (call (.builtin "sorted") [Value.ref a] [("key", .ref f)]) _ _ _
  obtain ⟨its, n, vals, got, hlen⟩ := I2.lst (ext.lst ha)
  obtain ⟨m, hns, look⟩ := I2.loc
  obtain ⟨uc, ruc, lk⟩ := look i cn (.int col) at_i hc (.inr (.inl cel))
  obtain ⟨t, rfl⟩ := ruc
  obtain ⟨cc, ecc, isc⟩ : ∃ cc, X.env.cells.lookup cn = some cc ∧ s2.heap.IsCell cc (some (.int col t)) := by
    rcases lk with ⟨z, _⟩ | ⟨_, z⟩
    · rw [cel] at z; cases z
    · exact z
  refine PySem.W.sorted_key_data (β := V × Int) (R := fun v b => RelV b.1 v ∧ RowK H2 col b.1 b.2) (vs := its) (bs := xs.zip ks) (f := .ref f) (kw := [("key", .ref f)]) (b := false) (fun b => .int (absI b.2)) ⟨_, got, rfl, n, rfl⟩
    (each_zip (fun i u x e1 e2 => vals_get vals i u x e1 e2) (vals_len vals) (each_mono (fun _ _ z => RowK.ext ext z) rows)) ?_ ?_ ?_ ?_ rfl (fun x => rfl) (fun x => rfl) ?_ ?_
  · intro d hd d' hd'
    simp only [List.mem_map] at hd hd'
    obtain ⟨_, _, rfl⟩ := hd
    obtain ⟨_, _, rfl⟩ := hd'
    rfl
  · refine .inr fun d hd => ?_
    simp only [List.mem_map] at hd
    obtain ⟨_, _, rfl⟩ := hd
    exact ⟨nofun, nofun⟩
  · rw [List.length_zip]; exact Nat.le_trans (Nat.min_le_left _ _) hlen
  · intro b hb
    have := room.un
    show X.A.units + 2 + 0 < cLine
    omega
  · rintro v ⟨x, mk⟩ ⟨rv, p, zs, e1, e2, e3⟩ hb h tk keeps
    dsimp only at rv e1 e3
    subst e1
    obtain rfl : v = Value.ref p := rv
    have dp := room.dp
    exact abs_key (I2.kept keeps) (keeps _ _ at_f) at_c kind co ge nocell par fr ga (fun v => binds _ _ _ _ _ v) noabs (clo_at frm ecc) (cell_ext keeps isc) e2 (Int.natCast_nonneg _) c63 (by simpa using e3) db dr dc (by show X.A.depth < recursionLimit; omega)
  · intro out c h' tk keeps free new len each
    refine ⟨.ref (s2.heap.objs.size + 1), _, I2.laid keeps (Nat.le_succ _) ?_, rfl, fin H2 _ ext tabs2 (I2.hok.fresh (Nat.le_succ _))⟩
    rw [le_keyLe] at each
    have vs' := each_vals (fun v b z => z.1) each
    have hl : (sortK xs ks).length ≤ sizeLine := by
      unfold sortK
      rw [List.length_map, List.length_mergeSort, List.length_zip]
      exact Nat.le_trans (Nat.min_le_left _ _) hlen
    unfold ObjOk
    exact ⟨hl, out, c, vs', new⟩
end
end TX
namespace DF
open PySem PySem.Spec PyProof.Rows L2 TX LamX
def keysD (c : Nat) : List D → Option (List Int)
  | [] => some []
  | .lst zs :: r => match zs[c]? with
    | some (.int k) => (keysD c r).map (k :: ·)
    | _ => none
  | _ => none
def sortKD (sl : Option Sl) (x : D) : Option D := match sl, x with
  | some (.val (.int c)), .lst ds => if 0 ≤ c ∧ c < 2 ^ 63 then (keysD c.toNat ds).map fun ks => .lst (sortK ds ks) else none
  | _, _ => none
def fSortK (i : Nat) (fe : FE) : FE := fR (FM.bind (fV fe) fun x Γ => fOf (sortKD Γ[i]? x) Γ)
section
variable [t : TbC] {K : PySem.W.Frag} {W : WX} {te : TE} {fe : FE}
theorem atl_get {G : Hp} : ∀ {us : List V} {ds : List D}, AtL K G us ds → ∀ (i : Nat) (d : D), ds[i]? = some d → ∃ u, us[i]? = some u ∧ At K G u d
  | _, _, .nil, i, d, e => by simp at e
  | _, _, .cons h _, 0, d, e => by simp at e; subst e; exact ⟨_, by simp, h⟩
  | _, _, .cons _ l, i + 1, d, e => by simpa using atl_get l i d (by simpa using e)
theorem keys_at {G H : Hp} (ext : Ext G H) {c : Nat} : ∀ {us : List V} {ds : List D} {ks : List Int}, AtL K G us ds → keysD c ds = some ks → PySem.W.EachIs (RowK H c) us ks
  | _, _, ks, .nil, e => by cases e; exact .nil
  | _, _, ks, .cons h l, e => by
    unfold keysD at e
    split at e
    · rename_i e0; cases e0
    · rename_i zs r e0
      obtain ⟨e1, e2⟩ := List.cons.inj e0
      subst e1 e2
      split at e
      · rename_i k ek
        rw [Option.map_eq_some_iff] at e
        obtain ⟨ks', e3, e4⟩ := e
        subst e4
        cases h with
        | lst hp hl =>
          obtain ⟨u, h1, h2⟩ := atl_get hl c _ ek
          cases h2
          exact .cons ⟨_, _, rfl, ext _ _ hp, h1⟩ (keys_at ext l e3)
      · cases e
    · cases e
theorem atl_map {G : Hp} {α : Type} {f : α → V} {g : α → D} : ∀ {l : List α}, (∀ a ∈ l, At K G (f a) (g a)) → AtL K G (l.map f) (l.map g)
  | [], _ => .nil
  | a :: l, h => .cons (h a (by simp)) (atl_map fun b hb => h b (by simp [hb]))
/-- three lists in step -/
def zip3 : List V → List D → List Int → List (V × D × Int)
  | v :: vs, d :: ds, k :: ks => (v, d, k) :: zip3 vs ds ks
  | _, _, _ => []
theorem zip3_at {G : Hp} : ∀ {us : List V} {ds : List D} (ks : List Int), AtL K G us ds → ∀ a ∈ zip3 us ds ks, At K G a.1 a.2.1
  | _, _, [], .nil, a, h => by simp [zip3] at h
  | _, _, _ :: _, .nil, a, h => by simp [zip3] at h
  | _, _, [], .cons h l, a, z => by simp [zip3] at z
  | _, _, k :: ks, .cons h l, a, z => by
    rw [zip3, List.mem_cons] at z
    rcases z with rfl | z
    · exact h
    · exact zip3_at ks l a z
theorem zip3_v : ∀ {us : List V} {ds : List D} {ks : List Int}, ds.length = us.length → (zip3 us ds ks).map (fun a => (a.1, a.2.2)) = us.zip ks
  | [], [], ks, _ => by simp [zip3]
  | [], _ :: _, ks, h => by simp at h
  | _ :: _, [], ks, h => by simp at h
  | _ :: us, _ :: ds, [], h => by simp [zip3]
  | _ :: us, _ :: ds, k :: ks, h => by simp [zip3, zip3_v (us := us) (ds := ds) (ks := ks) (by simpa using h)]
theorem zip3_d : ∀ {us : List V} {ds : List D} {ks : List Int}, ds.length = us.length → (zip3 us ds ks).map (fun a => (a.2.1, a.2.2)) = ds.zip ks
  | [], [], ks, _ => by simp [zip3]
  | [], _ :: _, ks, h => by simp at h
  | _ :: _, [], ks, h => by simp at h
  | _ :: us, _ :: ds, [], h => by simp [zip3]
  | _ :: us, _ :: ds, k :: ks, h => by simp [zip3, zip3_d (us := us) (ds := ds) (ks := ks) (by simpa using h)]
theorem atl_len2 {G : Hp} : ∀ {us : List V} {ds : List D}, AtL K G us ds → ds.length = us.length
  | _, _, .nil => rfl
  | _, _, .cons _ l => by simp [atl_len2 l]
theorem sortK_at {G : Hp} {us : List V} {ds : List D} (ks : List Int) (l : AtL K G us ds) : AtL K G (sortK us ks) (sortK ds ks) := by
  unfold sortK
  have hl := atl_len2 l
  have e1 : (us.zip ks).mergeSort keyLe = ((zip3 us ds ks).mergeSort (fun a b => keyLe a.2 b.2)).map (fun a => (a.1, a.2.2)) := by
    rw [← zip3_v hl]
    exact (List.map_mergeSort (r := fun (a b : V × D × Int) => keyLe a.2 b.2) (s := keyLe) (f := fun a => (a.1, a.2.2)) (fun a _ b _ => rfl)).symm
  have e2 : (ds.zip ks).mergeSort keyLe = ((zip3 us ds ks).mergeSort (fun a b => keyLe a.2 b.2)).map (fun a => (a.2.1, a.2.2)) := by
    rw [← zip3_d hl]
    exact (List.map_mergeSort (r := fun (a b : V × D × Int) => keyLe a.2 b.2) (s := keyLe) (f := fun a => (a.2.1, a.2.2)) (fun a _ b _ => rfl)).symm
  rw [e1, e2, List.map_map, List.map_map]
  refine atl_map (α := V × D × Int) fun a ha => ?_
  exact zip3_at ks l a ((List.mergeSort_perm _ _).mem_iff.mp ha)
theorem PG.lay {G H H2 : Hp} (hT : TbC.T ≠ []) (nt : NoT G) (i : Ext G H) (ext : ExtY H H2) (tabs : LamX.Tabs TbC.T H2) : PG G H G H2 := by
  have stays : ∀ b o, (∀ ps, o ≠ HO.tbl ps) → H b = some o → H2 b = some o := fun b o n z => (ext b o z).elim id fun ⟨ps, _, w, _⟩ => absurd w (n ps)
  refine ⟨Ext.rfl', fun b o n z => stays b o (n.elim id fun w => absurd w hT) z, fun b o z => stays b o (nt.ne z) (i b o z), fun b h => .inl h, fun b h => ?_, id, fun _ => tabs⟩
  cases z : H b with
  | none => exact absurd z h
  | some o => rcases ext b o z with w | ⟨_, _, _, w⟩ <;> rw [w] <;> simp
theorem sim_sortK {i : Nat} (hT : TbC.T ≠ []) (ha : SimE K W te fe) : SimE K W (tSortK TbC.T i te) (fSortK i fe) := fun P σ c G H Γ L s => by
  unfold fSortK
  rw [fR_bind]
  refine Run.bind (t2 := fun x H1 Q => LamX.Tabs TbC.T H1 ∧ ∃ (a : Addr) (xs : List V) (ks : List Int) (c : Nat), x = .ref a ∧ H1 a = some (.lst xs) ∧ σ[i]? = some (some (.int c)) ∧ (c : Int) < 2 ^ 63 ∧
    PySem.W.EachIs (RowK H1 c) xs ks ∧ ∀ H2 p, ExtY H1 H2 → LamX.Tabs TbC.T H2 → H2 p = none → Q (V.ref p) (upd H2 p (.lst (sortK xs ks)))) s.iv (sim_val ha P σ c G H Γ L s) fun x Γ1 u c1 G1 H1 L1 g1 s1 e1 r1 => ?_
  refine run_of (o := sortKD Γ1[i]? x) s1 fun z ez Q q => ?_
  unfold sortKD at ez
  split at ez
  · rename_i cc ds eg
    split at ez
    · rename_i hc
      rw [Option.map_eq_some_iff] at ez
      obtain ⟨ks, ek, rfl⟩ := ez
      obtain ⟨v, hv, av⟩ := s1.r.get eg
      cases av
      cases r1 with
      | @lst pp us _ hp l =>
        have cn : ((cc.toNat : Nat) : Int) = cc := Int.toNat_of_nonneg hc.1
        refine ⟨s1.iv.tb, _, _, ks, cc.toNat, rfl, s1.iv.i _ _ hp, by rw [cn]; exact hv, by rw [cn]; exact hc.2, keys_at s1.iv.i l ek, fun H2 p ext tabs no_p => ?_⟩
        have pg := PG.lay hT s1.iv.nt s1.iv.i ext tabs
        have gn := PG.new (G := G1) (o := .lst (sortK us ks)) pg.i no_p
        exact q _ _ _ (pg.trans gn) (.lst upd_same ((sortK_at ks l).mono gn.g))
    · cases ez
  · cases ez
end
end DF
namespace DF
section
variable [TbC] {Γ : EnvF} {Φ : D → EnvF → Prop} {fe : FE}
theorem xv_sortK {i : Nat} (h : X (fV fe) Γ fun d Γ' => ∃ z, sortKD Γ'[i]? d = some z ∧ Φ z Γ') : X (fV (fSortK i fe)) Γ Φ :=
  x_R (x_bind (h.imp fun d g ⟨z, e, p⟩ => ⟨z, g, by show fOf (sortKD g[i]? d) g = _; rw [e]; rfl, p⟩))
end
end DF
/-! // by any divisor -/
namespace DF
open PySem PySem.Spec PyProof.Rows L2 TX LamX
def CDivX (_ j : Int) : Prop := j ≠ 0 ∧ j.natAbs.log2 < 9000
theorem op_fdivX {X : Cx} : OpR X (binaryOp .FloorDiv) (rI CDivX fun i j => .int (i.fdiv j)) := opI fun i j _ _ _ _ _ hc q => floordiv_int hc.1 q (Or.inl (PyProof.noPylong_of_log2 hc.2))
def fdivN : D → D → Option D := intC (fun _ j => decide (j ≠ 0) && decide (j.natAbs.log2 < 9000)) fun i j => .int (i.fdiv j)
theorem sim_fdivN [TbC] {K : PySem.W.Frag} : SimR2 K (rI CDivX fun i j => .int (i.fdiv j)) fdivN := sim_IC (fun i j h => by simpa [CDivX] using h) fun _ _ _ => .int _
theorem r_fdivN {Φ : D → Prop} {i j : Int} (h : j ≠ 0) (h2 : j.natAbs.log2 < 9000) (p : Φ (.int (i.fdiv j))) : ∃ z, fdivN (.int i) (.int j) = some z ∧ Φ z := ⟨_, by unfold fdivN intC; simp only [h, h2, ne_eq, not_false_eq_true, decide_true, Bool.and_self, if_pos], p⟩
end DF

set_option linter.all false
set_option maxRecDepth 100000
set_option maxHeartbeats 4000000
namespace Kr
open PySem PySem.Spec PyProof.Rows L2 DF

abbrev cs_ : List Str := ["Move"]
def xt_ : List (Str × Str × Bool) := []
def kt_ : List (Str × Str × Bool) := []
def kty_ : List (Str × String × Bool) := []
def lv_ : List (Str × Str) := []
def tb_ : ITab := [(.ty "NoneType", .ty "int", false), (.ty "NoneType", .ty "bool", false), (.ty "NoneType", .cls "Move", false), (.ty "bool", .ty "int", true), (.ty "bool", .ty "bool", true), (.ty "bool", .cls "Move", false), (.ty "int", .ty "int", true), (.ty "int", .ty "bool", false), (.ty "int", .cls "Move", false), (.ty "str", .ty "int", false), (.ty "str", .ty "bool", false), (.ty "str", .cls "Move", false), (.ty "tuple", .ty "int", false), (.ty "tuple", .ty "bool", false), (.ty "tuple", .cls "Move", false), (.ty "list", .ty "int", false), (.ty "list", .ty "bool", false), (.ty "list", .cls "Move", false), (.cls "Move", .ty "int", false), (.cls "Move", .ty "bool", false), (.cls "Move", .cls "Move", true)]
def B_l_wind : FS := (fSeq (fIfS (fTest (fOp gtD (fIxO 0 (fC (.int (0)))) (fC (.int (0))))) (fSeq (fAsgG (fCB divmodD (fCons (fIxO 0 (fC (.int (0)))) (fCons (fVar 1) fNil))) (pTup 2 (pCons (pSub 0 (fC (.int (0)))) (pCons (pName 2) pNil)))) (fRet (fVar 2))) fNx) (fSeq (fAsgG (fOp addD (fIxO 0 (fC (.int (2)))) (fC (.int (1)))) (pSub 0 (fC (.int (2))))) (fSeq (fAsgG (fOp modD (fCB intOf (fCons (fOp addD (fOp addD (fOp mulD (fIxO 0 (fC (.int (1)))) (fC (.int (48017)))) (fOp mulD (fOp mulD (fIxO 0 (fC (.int (2)))) (fIxO 0 (fC (.int (2))))) (fC (.int (1009))))) (fC (.int (77)))) fNil)) (fC (.int (2147480009)))) (pSub 0 (fC (.int (1))))) (fRet (fOp modD (fCB intOf (fCons (fOp fdivD (fIxO 0 (fC (.int (1)))) (fC (.int (211)))) fNil)) (fVar 1))))))
def F_l_wind : FF := okF (defF 2 3 B_l_wind)
def B_l_trip : FS := (fRet (fCB tupOf (fCons (fLc (wRng1 (fCons (fC (.int (3))) fNil)) (pName 2) fYes (fOp subD (fCall F_l_wind (fCons (fVar 0) (fCons (fOp addD (fOp mulD (fC (.int (2))) (fVar 1)) (fC (.int (1)))) fNil))) (fVar 1)) [2]) fNil)))
def F_l_trip : FF := okF (defF 2 3 B_l_trip)
def B_l_put : FS := (fRet (fTup (fCons (fOp addD (fOp ixD (fVar 0) (fC (.int (0)))) (fOp ixD (fVar 1) (fC (.int (0))))) (fCons (fOp addD (fOp ixD (fVar 0) (fC (.int (1)))) (fOp ixD (fVar 1) (fC (.int (1))))) (fCons (fOp addD (fOp addD (fOp ixD (fVar 0) (fC (.int (2)))) (fOp ixD (fVar 1) (fC (.int (2))))) (fOp mulD (fOp ixD (fVar 0) (fC (.int (0)))) (fOp ixD (fVar 1) (fC (.int (1)))))) fNil)))))
def F_l_put : FF := okF (defF 2 2 B_l_put)
def B_l_off : FS := (fRet (fTup (fCons (fOp subD (fC (.int (0))) (fOp ixD (fVar 0) (fC (.int (0))))) (fCons (fOp subD (fC (.int (0))) (fOp ixD (fVar 0) (fC (.int (1))))) (fCons (fOp subD (fOp mulD (fOp ixD (fVar 0) (fC (.int (0)))) (fOp ixD (fVar 0) (fC (.int (1))))) (fOp ixD (fVar 0) (fC (.int (2))))) fNil)))))
def F_l_off : FF := okF (defF 1 1 B_l_off)
def B_l_between : FS := (fRet (fCall F_l_put (fCons (fCall F_l_put (fCons (fVar 0) (fCons (fVar 1) fNil))) (fCons (fCall F_l_off (fCons (fVar 0) fNil)) fNil))))
def F_l_between : FF := okF (defF 2 2 B_l_between)
def B_l_one_of : FS := (fRet (fOp ixD (fVar 1) (fCall F_l_wind (fCons (fVar 0) (fCons (fCB lenD (fCons (fVar 1) fNil)) fNil)))))
def F_l_one_of : FF := okF (defF 2 2 B_l_one_of)
def B_is_integer : FS := (fRet (fAndV (fCB (isiD cs_ tb_) (fCons (fVar 0) (fCons (fC (.ty "int")) fNil))) (fNotV (fCB (isiD cs_ tb_) (fCons (fVar 0) (fCons (fC (.ty "bool")) fNil))))))
def F_is_integer : FF := okF (defF 1 1 B_is_integer)
def B_check_number : FS := (fIfS (fNot (fTru (fCall F_is_integer (fCons (fVar 0) fNil)))) fNever fNx)
def F_check_number : FF := okF (defF 1 1 B_check_number)
def B_Move_init : FS := (fSeq (fDrop (fCall F_check_number (fCons (fVar 1) fNil))) (fSeq (fDrop (fCall F_check_number (fCons (fVar 2) fNil))) (fSeq (fDrop (fCall F_check_number (fCons (fVar 3) fNil))) (fSeq (fSetF "Move" "_east" 0 (fVar 1)) (fSeq (fSetF "Move" "_north" 0 (fVar 2)) (fSetF "Move" "_area" 0 (fVar 3)))))))
def F_Move_init : FF := okF (defF 4 4 B_Move_init)
def B_l_move : FS := (fRet (fMake "Move" F_Move_init (fCons (fOp ixD (fVar 0) (fC (.int (0)))) (fCons (fOp ixD (fVar 0) (fC (.int (1)))) (fCons (fOp ixD (fVar 0) (fC (.int (2)))) fNil)))))
def F_l_move : FF := okF (defF 1 1 B_l_move)
def B_check_move : FS := (fIfS (fNot (fTru (fCB (isiD cs_ tb_) (fCons (fVar 0) (fCons (fC (.cls "Move")) fNil))))) fNever fNx)
def F_check_move : FF := okF (defF 1 1 B_check_move)
def B_check_moves : FS := (fSeq (fDrop (fCall F_check_move (fCons (fVar 0) fNil))) (fDrop (fCall F_check_move (fCons (fVar 1) fNil))))
def F_check_moves : FF := okF (defF 2 2 B_check_moves)
def B_Move_east : FS := (fRet (fFld "Move" "_east" (fVar 0)))
def F_Move_east : FF := okF (defF 1 1 B_Move_east)
def B_Move_north : FS := (fRet (fFld "Move" "_north" (fVar 0)))
def F_Move_north : FF := okF (defF 1 1 B_Move_north)
def B_pivot_place : FS := (fSeq (fFor (wEnum (fCons (fVar 0) fNil)) (pTup 2 (pCons (pName 1) (pCons (pName 2) pNil))) (fIfS (fTest (fOp neD (fVar 2) (fC (.int (0))))) (fRet (fVar 1)) fNx)) (fRet (fC .non)))
def F_pivot_place : FF := okF (defF 1 3 B_pivot_place)
def B_less : FS := (fRet (fLc (wZip (fCons (fVar 0) (fCons (fVar 2) fNil))) (pTup 2 (pCons (pName 3) (pCons (pName 4) pNil))) fYes (fOp subD (fVar 3) (fOp mulD (fVar 1) (fVar 4))) [3, 4]))
def F_less : FF := okF (defF 3 5 B_less)
def B_taken_by_lines : FS := (fSeq (fAsg 2 (fCB lstOf (fCons (fVar 1) fNil))) (fSeq (fAsg 3 (fLstO fNil)) (fSeq (fFor (wAny (fVar 0)) (pName 4) (fSeq (fAsg 5 (fCall F_pivot_place (fCons (fVar 4) fNil))) (fSeq (fAsg 6 (fOp fdivD (fOp ixD (fVar 2) (fVar 5)) (fOp ixD (fVar 4) (fVar 5)))) (fSeq (fAsg 2 (fCall F_less (fCons (fVar 2) (fCons (fVar 6) (fCons (fVar 4) fNil))))) (fDrop (fAppend 3 (fVar 6))))))) (fFrz 3 (fRet (fTup (fCons (fVar 2) (fCons (fVar 3) fNil))))))))
def F_taken_by_lines : FF := okF (defF 2 7 B_taken_by_lines)
def B_swept : FS := (fSeq (fAsg 2 (fLc (wAny (fVar 0)) (pName 6) (fTest (fOp neD (fOp ixD (fVar 6) (fVar 1)) (fC (.int (0))))) (fVar 6) [6])) (fSeq (fAsg 3 (fLc (wAny (fVar 0)) (pName 6) (fTest (fOp eqD (fOp ixD (fVar 6) (fVar 1)) (fC (.int (0))))) (fVar 6) [6])) (fSeq (fWhile 1000000 (fTest (fOp gtD (fCB lenD (fCons (fVar 2) fNil)) (fC (.int (1))))) (fSeq (fAsg 2 (fSortK 1 (fVar 2))) (fSeq (fAsg 4 (fOp ixD (fVar 2) (fC (.int (0))))) (fSeq (fAsg 5 (fLc (wAny (fSl (fVar 2) (fPart (fC (.int (1)))) fNoPart)) (pName 6) fYes (fCall F_less (fCons (fVar 6) (fCons (fOp fdivN (fOp ixD (fVar 6) (fVar 1)) (fOp ixD (fVar 4) (fVar 1))) (fCons (fVar 4) fNil)))) [6])) (fSeq (fAsg 2 (fOp addD (fLst (fCons (fVar 4) fNil)) (fLc (wAny (fVar 5)) (pName 6) (fTest (fOp neD (fOp ixD (fVar 6) (fVar 1)) (fC (.int (0))))) (fVar 6) [6]))) (fAsg 3 (fOp addD (fVar 3) (fLc (wAny (fVar 5)) (pName 6) (fTest (fOp eqD (fOp ixD (fVar 6) (fVar 1)) (fC (.int (0))))) (fVar 6) [6])))))))) (fRet (fOp addD (fVar 2) (fVar 3))))))
def F_swept : FF := okF (defF 2 7 B_swept)
def B_lines_of : FS := (fSeq (fAsg 2 (fLc (wAny (fVar 0)) (pName 5) fYes (fCB lstOf (fCons (fVar 5) fNil)) [5])) (fSeq (fAsg 3 (fLst fNil)) (fSeq (fFor (wRng1 (fCons (fVar 1) fNil)) (pName 4) (fSeq (fAsg 2 (fCall F_swept (fCons (fVar 2) (fCons (fVar 4) fNil)))) (fIfS (fAnd (fTru (fVar 2)) (fTest (fOp neD (fOp ixD (fOp ixD (fVar 2) (fC (.int (0)))) (fVar 4)) (fC (.int (0)))))) (fSeq (fAsg 6 (fIf (fTest (fOp gtD (fOp ixD (fOp ixD (fVar 2) (fC (.int (0)))) (fVar 4)) (fC (.int (0))))) (fOp ixD (fVar 2) (fC (.int (0)))) (fLc (wAny (fOp ixD (fVar 2) (fC (.int (0))))) (pName 7) fYes (fUn negD (fVar 7)) [7]))) (fSeq (fAsg 2 (fSl (fVar 2) (fPart (fC (.int (1)))) fNoPart)) (fAsg 3 (fOp addD (fLc (wAny (fVar 3)) (pName 8) fYes (fCall F_less (fCons (fVar 8) (fCons (fOp fdivD (fOp ixD (fVar 8) (fVar 4)) (fOp ixD (fVar 6) (fVar 4))) (fCons (fVar 6) fNil)))) [8]) (fLst (fCons (fVar 6) fNil)))))) fNx))) (fRet (fVar 3)))))
def F_lines_of : FF := okF (defF 2 9 B_lines_of)
def B_times_for : FS := (fSeq (fAsg 2 (fCB lenD (fCons (fVar 1) fNil))) (fSeq (fAsg 3 (fLc (wEnum (fCons (fVar 0) fNil)) (pTup 2 (pCons (pName 5) (pCons (pName 6) pNil))) fYes (fOp addD (fCB lstOf (fCons (fVar 6) fNil)) (fLc (wRng1 (fCons (fCB lenD (fCons (fVar 0) fNil)) fNil)) (pName 8) fYes (fCB intOf (fCons (fOp eqD (fVar 8) (fVar 5)) fNil)) [8])) [5, 6])) (fSeq (fAsg 4 (fOp ixD (fCall F_taken_by_lines (fCons (fCall F_lines_of (fCons (fVar 3) (fCons (fVar 2) fNil))) (fCons (fOp addD (fCB lstOf (fCons (fVar 1) fNil)) (fOp mulD (fLst (fCons (fC (.int (0))) fNil)) (fCB lenD (fCons (fVar 0) fNil)))) fNil))) (fC (.int (0))))) (fSeq (fIfS (fTest (fNotN (fCall F_pivot_place (fCons (fSl (fVar 4) fNoPart (fPart (fVar 2))) fNil)))) (fRet (fC .non)) fNx) (fRet (fLc (wAny (fSl (fVar 4) (fPart (fVar 2)) fNoPart)) (pName 7) fYes (fUn negD (fVar 7)) [7]))))))
def F_times_for : FF := okF (defF 2 9 B_times_for)
def B_Move_area : FS := (fRet (fFld "Move" "_area" (fVar 0)))
def F_Move_area : FF := okF (defF 1 1 B_Move_area)
def B_move_alike : FS := (fSeq (fDrop (fCall F_check_moves (fCons (fVar 0) (fCons (fVar 1) fNil)))) (fSeq (fIfS (fOr (fTest (fOp neD (fProp "Move" F_Move_east (fVar 0)) (fProp "Move" F_Move_east (fVar 1)))) (fTest (fOp neD (fProp "Move" F_Move_north (fVar 0)) (fProp "Move" F_Move_north (fVar 1))))) (fRet (fC .non)) fNx) (fSeq (fAsg 2 (fCall F_times_for (fCons (fLst (fCons (fTup (fCons (fProp "Move" F_Move_north (fVar 0)) fNil)) (fCons (fTup (fCons (fUn negD (fProp "Move" F_Move_east (fVar 0))) fNil)) fNil))) (fCons (fTup (fCons (fOp subD (fProp "Move" F_Move_area (fVar 1)) (fProp "Move" F_Move_area (fVar 0))) fNil)) fNil)))) (fRet (fIf (fTest (fIsN (fVar 2))) (fC .non) (fMake "Move" F_Move_init (fCons (fOp ixD (fVar 2) (fC (.int (0)))) (fCons (fOp ixD (fVar 2) (fC (.int (1)))) (fCons (fC (.int (0))) fNil)))))))))
def F_move_alike : FF := okF (defF 2 3 B_move_alike)
def B_is_move_alike : FS := (fRet (fNotN (fCall F_move_alike (fCons (fVar 0) (fCons (fVar 1) fNil)))))
def F_is_move_alike : FF := okF (defF 2 2 B_is_move_alike)
def B_l_three : FS := (fRet (fTup (fCons (fProp "Move" F_Move_east (fVar 0)) (fCons (fProp "Move" F_Move_north (fVar 0)) (fCons (fProp "Move" F_Move_area (fVar 0)) fNil)))))
def F_l_three : FF := okF (defF 1 1 B_l_three)
def B_cross : FS := (fRet (fOp subD (fOp mulD (fProp "Move" F_Move_east (fVar 0)) (fProp "Move" F_Move_north (fVar 1))) (fOp mulD (fProp "Move" F_Move_east (fVar 1)) (fProp "Move" F_Move_north (fVar 0)))))
def F_cross : FF := okF (defF 2 2 B_cross)
def B_do_moves_commute : FS := (fSeq (fDrop (fCall F_check_moves (fCons (fVar 0) (fCons (fVar 1) fNil)))) (fRet (fOp eqD (fCall F_cross (fCons (fVar 0) (fCons (fVar 1) fNil))) (fC (.int (0))))))
def F_do_moves_commute : FF := okF (defF 2 2 B_do_moves_commute)
def B_l_alike_right : FS := (fSeq (fPar 3 4 (fCons (fCall F_l_move (fCons (fVar 0) fNil)) (fCons (fCall F_l_move (fCons (fVar 1) fNil)) fNil))) (fSeq (fIfS (fTest (fOp neD (fCB reprD (fCons (fLst (fCons (fCall F_is_move_alike (fCons (fVar 3) (fCons (fVar 4) fNil))) (fCons (fCallN F_is_move_alike 0 2 [1, 0] fNil (fCons (fVar 3) (fCons (fVar 4) fNil))) fNil))) fNil)) (fCB reprD (fCons (fLst (fCons (fVar 2) (fCons (fVar 2) fNil))) fNil)))) (fRet (fC (.bl false))) fNx) (fSeq (fAsg 5 (fLst (fCons (fTup (fCons (fCall F_move_alike (fCons (fVar 3) (fCons (fVar 4) fNil))) (fCons (fVar 0) (fCons (fVar 1) fNil)))) (fCons (fTup (fCons (fCallN F_move_alike 0 2 [1, 0] fNil (fCons (fVar 3) (fCons (fVar 4) fNil))) (fCons (fVar 1) (fCons (fVar 0) fNil)))) fNil)))) (fSeq (fFor (wAny (fVar 5)) (pTup 3 (pCons (pName 6) (pCons (pName 7) (pCons (pName 8) pNil)))) (fSeq (fIfS (fTest (fOp neD (fNotN (fVar 6)) (fVar 2))) (fRet (fC (.bl false))) fNx) (fIfS (fAnd (fTru (fVar 2)) (fTest (fOp neD (fCall F_l_between (fCons (fCall F_l_three (fCons (fVar 6) fNil)) (fCons (fVar 7) fNil))) (fVar 8)))) (fRet (fC (.bl false))) fNx))) (fSeq (fAsg 9 (fLst (fCons (fCall F_do_moves_commute (fCons (fVar 3) (fCons (fVar 4) fNil))) (fCons (fCallN F_do_moves_commute 0 2 [1, 0] fNil (fCons (fVar 3) (fCons (fVar 4) fNil))) fNil)))) (fRet (fOp eqD (fCB reprD (fCons (fVar 9) fNil)) (fCB reprD (fCons (fOp mulD (fLst (fCons (fOp eqD (fCall F_l_put (fCons (fVar 0) (fCons (fVar 1) fNil))) (fCall F_l_put (fCons (fVar 1) (fCons (fVar 0) fNil)))) fNil)) (fC (.int (2)))) fNil)))))))))
def F_l_alike_right : FF := okF (defF 3 10 B_l_alike_right)
def B_l_are_alike : FS := (fSeq (fIfS (fTest (fOp neD (fSl (fVar 0) fNoPart (fPart (fC (.int (2))))) (fSl (fVar 1) fNoPart (fPart (fC (.int (2))))))) (fRet (fC (.bl false))) fNx) (fSeq (fFor (wRng2 (fCons (fUn negD (fC (.int (8)))) (fCons (fC (.int (9))) fNil))) (pName 2) (fIfS (fTest (fOp neD (fLc (wRng2 (fCons (fUn negD (fC (.int (20)))) (fCons (fC (.int (21))) fNil))) (pName 3) (fTest (fOp eqD (fCall F_l_between (fCons (fTup (fCons (fVar 2) (fCons (fVar 3) (fCons (fC (.int (0))) fNil)))) (fCons (fVar 0) fNil))) (fVar 1))) (fVar 3) [3]) (fLst fNil))) (fRet (fC (.bl true))) fNx)) (fRet (fC (.bl false)))))
def F_l_are_alike : FF := okF (defF 2 4 B_l_are_alike)
def B_l_power : FS := (fSeq (fPar3 2 3 4 (fCons (fIf (fTest (fOp geD (fVar 1) (fC (.int (0))))) (fVar 0) (fCall F_l_off (fCons (fVar 0) fNil))) (fCons (fTup (fCons (fC (.int (0))) (fCons (fC (.int (0))) (fCons (fC (.int (0))) fNil)))) (fCons (fCB absD (fCons (fVar 1) fNil)) fNil)))) (fSeq (fFor (wRng1 (fCons (fC (.int (900))) fNil)) (pName 5) (fSeq (fIfS (fTest (fOp eqD (fVar 4) (fC (.int (0))))) fBrk fNx) (fSeq (fAsgG (fCB divmodD (fCons (fVar 4) (fCons (fC (.int (2))) fNil))) (pTup 2 (pCons (pName 4) (pCons (pName 6) pNil)))) (fSeq (fAsg 3 (fIf (fTest (fOp eqD (fVar 6) (fC (.int (1))))) (fCall F_l_put (fCons (fVar 3) (fCons (fVar 2) fNil))) (fVar 3))) (fAsg 2 (fCall F_l_put (fCons (fVar 2) (fCons (fVar 2) fNil)))))))) (fRet (fVar 3))))
def F_l_power : FF := okF (defF 2 7 B_l_power)
def B_check_degree : FS := (fIfS (fOr (fNot (fTru (fCall F_is_integer (fCons (fVar 0) fNil)))) (fTest (fOp ltD (fVar 0) (fC (.int (1)))))) fNever fNx)
def F_check_degree : FF := okF (defF 1 1 B_check_degree)
def B_area_often : FS := (fRet (fOp addD (fOp mulD (fVar 3) (fVar 2)) (fOp mulD (fOp mulD (fOp fdivD (fOp mulD (fVar 3) (fOp subD (fVar 3) (fC (.int (1))))) (fC (.int (2)))) (fVar 0)) (fVar 1))))
def F_area_often : FF := okF (defF 4 4 B_area_often)
def B_move_root : FS := (fSeq (fDrop (fCall F_check_move (fCons (fVar 0) fNil))) (fSeq (fDrop (fCall F_check_degree (fCons (fVar 1) fNil))) (fSeq (fIfS (fOr (fTest (fOp neD (fOp modD (fProp "Move" F_Move_east (fVar 0)) (fVar 1)) (fC (.int (0))))) (fTest (fOp neD (fOp modD (fProp "Move" F_Move_north (fVar 0)) (fVar 1)) (fC (.int (0)))))) (fRet (fC .non)) fNx) (fSeq (fAsg 2 (fOp fdivD (fProp "Move" F_Move_east (fVar 0)) (fVar 1))) (fSeq (fAsg 3 (fOp fdivD (fProp "Move" F_Move_north (fVar 0)) (fVar 1))) (fSeq (fAsg 4 (fOp subD (fProp "Move" F_Move_area (fVar 0)) (fCall F_area_often (fCons (fVar 2) (fCons (fVar 3) (fCons (fC (.int (0))) (fCons (fVar 1) fNil))))))) (fRet (fIf (fTru (fOp modD (fVar 4) (fVar 1))) (fC .non) (fMake "Move" F_Move_init (fCons (fVar 2) (fCons (fVar 3) (fCons (fOp fdivD (fVar 4) (fVar 1)) fNil))))))))))))
def F_move_root : FF := okF (defF 2 5 B_move_root)
def B_l_has_root : FS := (fSeq (fFor (wRng2 (fCons (fUn negD (fC (.int (4)))) (fCons (fC (.int (5))) fNil))) (pName 2) (fFor (wRng2 (fCons (fUn negD (fC (.int (4)))) (fCons (fC (.int (5))) fNil))) (pName 3) (fIfS (fAnd (fTest (fOp eqD (fOp mulD (fVar 2) (fVar 1)) (fOp ixD (fVar 0) (fC (.int (0)))))) (fTest (fOp eqD (fOp mulD (fVar 3) (fVar 1)) (fOp ixD (fVar 0) (fC (.int (1))))))) (fRet (fOp neD (fLc (wRng2 (fCons (fUn negD (fC (.int (60)))) (fCons (fC (.int (61))) fNil))) (pName 4) (fTest (fOp eqD (fCall F_l_power (fCons (fTup (fCons (fVar 2) (fCons (fVar 3) (fCons (fVar 4) fNil)))) (fCons (fVar 1) fNil))) (fVar 0))) (fVar 4) [4]) (fLst fNil))) fNx))) (fRet (fC (.bl false))))
def F_l_has_root : FF := okF (defF 2 5 B_l_has_root)
def B_triple_of : FS := (fRet (fTup (fCons (fProp "Move" F_Move_east (fVar 0)) (fCons (fProp "Move" F_Move_north (fVar 0)) (fCons (fProp "Move" F_Move_area (fVar 0)) fNil)))))
def F_triple_of : FF := okF (defF 1 1 B_triple_of)
def B_Move_eq : FS := (fRet (fAndV (fCB (isiD cs_ tb_) (fCons (fVar 1) (fCons (fC (.cls "Move")) fNil))) (fOp eqD (fCall F_triple_of (fCons (fVar 0) fNil)) (fCall F_triple_of (fCons (fVar 1) fNil)))))
def F_Move_eq : FF := okF (defF 2 2 B_Move_eq)
def B_l_roots_right : FS := (fSeq (fAsg 1 (fOp addD (fC (.int (1))) (fCall F_l_wind (fCons (fVar 0) (fCons (fC (.int (5))) fNil))))) (fSeq (fAsg 2 (fCall F_l_one_of (fCons (fVar 0) (fCons (fLst (fCons (fCall F_l_trip (fCons (fVar 0) (fCons (fC (.int (4))) fNil))) (fCons (fCall F_l_power (fCons (fCall F_l_trip (fCons (fVar 0) (fCons (fC (.int (2))) fNil))) (fCons (fVar 1) fNil))) fNil))) fNil)))) (fSeq (fAsg 3 (fLst (fCons (fCall F_move_root (fCons (fCall F_l_move (fCons (fVar 2) fNil)) (fCons (fVar 1) fNil))) (fCons (fCallN F_move_root 0 2 [1, 0] fNil (fCons (fVar 1) (fCons (fCall F_l_move (fCons (fVar 2) fNil)) fNil))) fNil)))) (fSeq (fAsg 4 (fCall F_l_has_root (fCons (fVar 2) (fCons (fVar 1) fNil)))) (fSeq (fIfS (fTest (fOp (orD neD (eqI cs_ tb_ "Move" F_Move_eq true)) (fLc (wAny (fVar 3)) (pName 8) fYes (fNotN (fVar 8)) [8]) (fLst (fCons (fVar 4) (fCons (fVar 4) fNil))))) (fRet (fC (.bl false))) fNx) (fSeq (fIfS (fTru (fVar 4)) (fIfS (fTest (fOp (orD neD (eqI cs_ tb_ "Move" F_Move_eq true)) (fLc (wAny (fVar 3)) (pName 8) fYes (fCall F_l_power (fCons (fCall F_l_three (fCons (fVar 8) fNil)) (fCons (fVar 1) fNil))) [8]) (fLst (fCons (fVar 2) (fCons (fVar 2) fNil))))) (fRet (fC (.bl false))) fNx) fNx) (fSeq (fPar 5 6 (fCons (fCB tupOf (fCons (fLc (wAny (fCall F_l_trip (fCons (fVar 0) (fCons (fC (.int (9))) fNil)))) (pName 9) fYes (fOp addD (fOp mulD (fVar 9) (fOp powD (fC (.int (10))) (fC (.int (25))))) (fC (.int (1)))) [9]) fNil)) (fCons (fOp addD (fOp powD (fC (.int (10))) (fC (.int (20)))) (fCall F_l_wind (fCons (fVar 0) (fCons (fC (.int (9))) fNil)))) fNil))) (fSeq (fAsg 7 (fCall F_l_power (fCons (fVar 5) (fCons (fVar 6) fNil)))) (fSeq (fIfS (fTest (fOp (orD neD (eqI cs_ tb_ "Move" F_Move_eq true)) (fCall F_move_root (fCons (fCall F_l_move (fCons (fVar 7) fNil)) (fCons (fVar 6) fNil))) (fCall F_l_move (fCons (fVar 5) fNil)))) (fRet (fC (.bl false))) fNx) (fSeq (fIfS (fTest (fNotN (fCall F_move_root (fCons (fCall F_l_move (fCons (fOp addD (fSl (fVar 7) fNoPart (fPart (fC (.int (2))))) (fTup (fCons (fOp addD (fOp ixD (fVar 7) (fC (.int (2)))) (fC (.int (1)))) fNil))) fNil)) (fCons (fVar 6) fNil))))) (fRet (fC (.bl false))) fNx) (fRet (fOp (orD eqD (eqI cs_ tb_ "Move" F_Move_eq false)) (fCall F_move_root (fCons (fMake "Move" F_Move_init (fCons (fC (.int (0))) (fCons (fC (.int (0))) (fCons (fC (.int (0))) fNil)))) (fCons (fVar 6) fNil))) (fMake "Move" F_Move_init (fCons (fC (.int (0))) (fCons (fC (.int (0))) (fCons (fC (.int (0))) fNil))))))))))))))))
def F_l_roots_right : FF := okF (defF 1 10 B_l_roots_right)
def B_l_right : FS := (fSeq (fFor (wRng1 (fCons (fC (.int (3))) fNil)) (pName 1) (fSeq (fPar 5 4 (fCons (fCall F_l_trip (fCons (fVar 0) (fCons (fC (.int (4))) fNil))) (fCons (fCall F_l_trip (fCons (fVar 0) (fCons (fC (.int (3))) fNil))) fNil))) (fSeq (fAsg 6 (fLst (fCons (fCall F_l_between (fCons (fVar 4) (fCons (fVar 5) fNil))) (fCons (fOp addD (fSl (fVar 5) fNoPart (fPart (fC (.int (2))))) (fTup (fCons (fOp subD (fCall F_l_wind (fCons (fVar 0) (fCons (fC (.int (9))) fNil))) (fC (.int (4)))) fNil))) (fCons (fCall F_l_trip (fCons (fVar 0) (fCons (fC (.int (4))) fNil))) (fCons (fVar 5) fNil)))))) (fSeq (fAsg 7 (fCall F_l_one_of (fCons (fVar 0) (fCons (fVar 6) fNil)))) (fSeq (fIfS (fAnd (fTest (fOp ltD (fCB absD (fCons (fOp subD (fOp ixD (fVar 7) (fC (.int (2)))) (fOp ixD (fVar 5) (fC (.int (2))))) fNil)) (fC (.int (9))))) (fNot (fTru (fCall F_l_alike_right (fCons (fVar 5) (fCons (fVar 7) (fCons (fCall F_l_are_alike (fCons (fVar 5) (fCons (fVar 7) fNil))) fNil))))))) (fRet (fC (.bl false))) fNx) (fIfS (fOr (fNot (fTru (fCall F_l_alike_right (fCons (fVar 5) (fCons (fOp ixD (fVar 6) (fC (.int (0)))) (fCons (fC (.bl true)) fNil)))))) (fNot (fTru (fCall F_l_roots_right (fCons (fVar 0) fNil))))) (fRet (fC (.bl false))) fNx)))))) (fSeq (fPar 2 3 (fCons (fCall F_l_trip (fCons (fVar 0) (fCons (fC (.int (9))) fNil))) (fCons (fOp mulD (fOp powD (fC (.int (10))) (fC (.int (25)))) (fOp addD (fC (.int (1))) (fCall F_l_wind (fCons (fVar 0) (fCons (fC (.int (9))) fNil))))) fNil))) (fSeq (fAsg 2 (fTup (fCons (fOp mulD (fOp ixD (fVar 2) (fC (.int (0)))) (fVar 3)) (fCons (fOp addD (fOp mulD (fOp ixD (fVar 2) (fC (.int (1)))) (fVar 3)) (fOp mulD (fC (.int (2))) (fVar 3))) (fCons (fOp ixD (fVar 2) (fC (.int (2)))) fNil))))) (fSeq (fAsg 4 (fCB tupOf (fCons (fLc (wAny (fCall F_l_trip (fCons (fVar 0) (fCons (fC (.int (5))) fNil)))) (pName 8) fYes (fOp addD (fOp mulD (fVar 8) (fOp powD (fC (.int (10))) (fC (.int (20))))) (fC (.int (7)))) [8]) fNil))) (fSeq (fIfS (fNot (fTru (fCall F_l_alike_right (fCons (fVar 2) (fCons (fCall F_l_between (fCons (fVar 4) (fCons (fVar 2) fNil))) (fCons (fC (.bl true)) fNil)))))) (fRet (fC (.bl false))) fNx) (fRet (fCall F_l_alike_right (fCons (fVar 2) (fCons (fOp addD (fSl (fVar 2) fNoPart (fPart (fC (.int (2))))) (fTup (fCons (fOp addD (fOp ixD (fVar 2) (fC (.int (2)))) (fC (.int (1)))) fNil))) (fCons (fC (.bl false)) fNil))))))))))
def F_l_right : FF := okF (defF 1 9 B_l_right)
def B_l_reel : FS := (fSeq (fAsg 2 (fIf (fTest (fOp ltD (fVar 1) (fCB lenD (fCons (fVar 0) fNil)))) (fOp ixD (fVar 0) (fVar 1)) (fOp addD (fOp mulD (fC (.int (211))) (fVar 1)) (fC (.int (37)))))) (fSeq (fAsg 3 (fOp addD (fC (.int (320009))) (fOp mulD (fC (.int (977))) (fVar 1)))) (fSeq (fFor (wAny (fOp addD (fSl (fVar 0) fNoPart (fPart (fC (.int (5))))) (fLst (fCons (fVar 2) fNil)))) (pName 4) (fAsg 3 (fOp modD (fCB intOf (fCons (fOp addD (fOp mulD (fVar 3) (fC (.int (52501)))) (fOp modD (fCB intOf (fCons (fVar 4) fNil)) (fC (.int (2147480009))))) fNil)) (fC (.int (2147480009)))))) (fRet (fLstO (fCons (fIf (fOr (fTest (fOp ltD (fVar 2) (fC (.int (0))))) (fTest (fOp geD (fVar 2) (fOp powD (fC (.int (10))) (fC (.int (16))))))) (fCB absD (fCons (fVar 2) fNil)) (fC (.int (0)))) (fCons (fVar 3) (fCons (fC (.int (1))) fNil))))))))
def F_l_reel : FF := okF (defF 2 5 B_l_reel)
def B_law : FS := (fRet (fCB allD (fCons (fLc (wRng1 (fCons (fC (.int (2))) fNil)) (pName 1) fYes (fCall F_l_right (fCons (fCall F_l_reel (fCons (fVar 0) (fCons (fVar 1) fNil))) fNil)) [1]) fNil)))
def F_law : FF := okF (defF 1 2 B_law)
end Kr

set_option linter.all false
set_option maxRecDepth 100000
set_option maxHeartbeats 4000000
namespace Kr
open PySem PySem.Spec PyProof.Rows L2 DF TX LamX
def top (i : Nat) : Stmt := PySem.Challenge.pw_pressworlds_k64_whole_moves_alike_commut.main.body.getD i (.Pass ⟨0, 0, 0, 0⟩)

abbrev s_l_wind : Stmt := top 36
abbrev n_l_wind : List Str := ["_law_reel_here", "_law_many", "_law_figure"]
theorem sc_l_wind : FnScope n_l_wind ["_law_reel_here", "_law_many"] (defScope s_l_wind) := ⟨rfl, rfl, rfl, by decide +kernel, rfl, by decide +kernel, by decide +kernel⟩
abbrev s_l_trip : Stmt := top 38
abbrev n_l_trip : List Str := ["_law_reel_here", "_law_size", "_law_spot"]
theorem sc_l_trip : FnScope n_l_trip ["_law_reel_here", "_law_size"] (defScope s_l_trip) := ⟨rfl, rfl, rfl, by decide +kernel, rfl, by decide +kernel, by decide +kernel⟩
abbrev s_l_put : Stmt := top 39
abbrev n_l_put : List Str := ["_law_left", "_law_right_here"]
theorem sc_l_put : FnScope n_l_put ["_law_left", "_law_right_here"] (defScope s_l_put) := ⟨rfl, rfl, rfl, by decide +kernel, rfl, by decide +kernel, by decide +kernel⟩
abbrev s_l_off : Stmt := top 40
abbrev n_l_off : List Str := ["_law_trip_here"]
theorem sc_l_off : FnScope n_l_off ["_law_trip_here"] (defScope s_l_off) := ⟨rfl, rfl, rfl, by decide +kernel, rfl, by decide +kernel, by decide +kernel⟩
abbrev s_l_between : Stmt := top 44
abbrev n_l_between : List Str := ["_law_by", "_law_trip_here"]
theorem sc_l_between : FnScope n_l_between ["_law_by", "_law_trip_here"] (defScope s_l_between) := ⟨rfl, rfl, rfl, by decide +kernel, rfl, by decide +kernel, by decide +kernel⟩
abbrev s_l_one_of : Stmt := top 37
abbrev n_l_one_of : List Str := ["_law_reel_here", "_law_menu"]
theorem sc_l_one_of : FnScope n_l_one_of ["_law_reel_here", "_law_menu"] (defScope s_l_one_of) := ⟨rfl, rfl, rfl, by decide +kernel, rfl, by decide +kernel, by decide +kernel⟩
abbrev s_is_integer : Stmt := top 6
abbrev n_is_integer : List Str := ["value"]
theorem sc_is_integer : FnScope n_is_integer ["value"] (defScope s_is_integer) := ⟨rfl, rfl, rfl, by decide +kernel, rfl, by decide +kernel, by decide +kernel⟩
abbrev s_check_number : Stmt := top 7
abbrev n_check_number : List Str := ["value"]
theorem sc_check_number : FnScope n_check_number ["value"] (defScope s_check_number) := ⟨rfl, rfl, rfl, by decide +kernel, rfl, by decide +kernel, by decide +kernel⟩
abbrev s_Move_init : Stmt := inClass (top 24) 0
abbrev n_Move_init : List Str := ["self", "east", "north", "area"]
theorem sc_Move_init : FnScope n_Move_init ["self", "east", "north", "area"] (defScope s_Move_init) := ⟨rfl, rfl, rfl, by decide +kernel, rfl, by decide +kernel, by decide +kernel⟩
abbrev s_l_move : Stmt := top 42
abbrev n_l_move : List Str := ["_law_trip_here"]
theorem sc_l_move : FnScope n_l_move ["_law_trip_here"] (defScope s_l_move) := ⟨rfl, rfl, rfl, by decide +kernel, rfl, by decide +kernel, by decide +kernel⟩
abbrev s_check_move : Stmt := top 26
abbrev n_check_move : List Str := ["value"]
theorem sc_check_move : FnScope n_check_move ["value"] (defScope s_check_move) := ⟨rfl, rfl, rfl, by decide +kernel, rfl, by decide +kernel, by decide +kernel⟩
abbrev s_check_moves : Stmt := top 27
abbrev n_check_moves : List Str := ["one", "other"]
theorem sc_check_moves : FnScope n_check_moves ["one", "other"] (defScope s_check_moves) := ⟨rfl, rfl, rfl, by decide +kernel, rfl, by decide +kernel, by decide +kernel⟩
abbrev s_Move_east : Stmt := inClass (top 24) 2
abbrev n_Move_east : List Str := ["self"]
theorem sc_Move_east : FnScope n_Move_east ["self"] (defScope s_Move_east) := ⟨rfl, rfl, rfl, by decide +kernel, rfl, by decide +kernel, by decide +kernel⟩
abbrev s_Move_north : Stmt := inClass (top 24) 3
abbrev n_Move_north : List Str := ["self"]
theorem sc_Move_north : FnScope n_Move_north ["self"] (defScope s_Move_north) := ⟨rfl, rfl, rfl, by decide +kernel, rfl, by decide +kernel, by decide +kernel⟩
abbrev s_pivot_place : Stmt := top 11
abbrev n_pivot_place : List Str := ["line", "column", "number"]
theorem sc_pivot_place : FnScope n_pivot_place ["line"] (defScope s_pivot_place) := ⟨rfl, rfl, rfl, by decide +kernel, rfl, by decide +kernel, by decide +kernel⟩
abbrev s_less : Stmt := top 10
abbrev n_less : List Str := ["line", "times", "other", "number", "more"]
theorem sc_less : FnScope n_less ["line", "times", "other"] (defScope s_less) := ⟨rfl, rfl, rfl, by decide +kernel, rfl, by decide +kernel, by decide +kernel⟩
abbrev s_taken_by_lines : Stmt := top 14
abbrev n_taken_by_lines : List Str := ["lines", "numbers", "rest", "counts", "line", "column", "times"]
theorem sc_taken_by_lines : FnScope n_taken_by_lines ["lines", "numbers"] (defScope s_taken_by_lines) := ⟨rfl, rfl, rfl, by decide +kernel, rfl, by decide +kernel, by decide +kernel⟩
abbrev s_swept : Stmt := top 12
abbrev n_swept : List Str := ["rows", "column", "busy", "idle", "least", "rest", "row"]
theorem sc_swept : FnScope n_swept ["rows", "column"] (defScope s_swept) := ⟨rfl, rfl, rfl, by decide +kernel, rfl, by decide +kernel, by decide +kernel⟩
abbrev s_lines_of : Stmt := top 13
abbrev n_lines_of : List Str := ["rows", "width", "left", "lines", "column", "row", "line", "number", "upper"]
theorem sc_lines_of : FnScope n_lines_of ["rows", "width"] (defScope s_lines_of) := ⟨rfl, rfl, rfl, by decide +kernel, rfl, by decide +kernel, by decide +kernel⟩
abbrev s_times_for : Stmt := top 15
abbrev n_times_for : List Str := ["rows", "numbers", "width", "marked", "rest", "own", "row", "times", "at"]
theorem sc_times_for : FnScope n_times_for ["rows", "numbers"] (defScope s_times_for) := ⟨rfl, rfl, rfl, by decide +kernel, rfl, by decide +kernel, by decide +kernel⟩
abbrev s_Move_area : Stmt := inClass (top 24) 4
abbrev n_Move_area : List Str := ["self"]
theorem sc_Move_area : FnScope n_Move_area ["self"] (defScope s_Move_area) := ⟨rfl, rfl, rfl, by decide +kernel, rfl, by decide +kernel, by decide +kernel⟩
abbrev s_move_alike : Stmt := top 31
abbrev n_move_alike : List Str := ["one", "other", "counts"]
theorem sc_move_alike : FnScope n_move_alike ["one", "other"] (defScope s_move_alike) := ⟨rfl, rfl, rfl, by decide +kernel, rfl, by decide +kernel, by decide +kernel⟩
abbrev s_is_move_alike : Stmt := top 30
abbrev n_is_move_alike : List Str := ["one", "other"]
theorem sc_is_move_alike : FnScope n_is_move_alike ["one", "other"] (defScope s_is_move_alike) := ⟨rfl, rfl, rfl, by decide +kernel, rfl, by decide +kernel, by decide +kernel⟩
abbrev s_l_three : Stmt := top 43
abbrev n_l_three : List Str := ["_law_made"]
theorem sc_l_three : FnScope n_l_three ["_law_made"] (defScope s_l_three) := ⟨rfl, rfl, rfl, by decide +kernel, rfl, by decide +kernel, by decide +kernel⟩
abbrev s_cross : Stmt := top 28
abbrev n_cross : List Str := ["one", "other"]
theorem sc_cross : FnScope n_cross ["one", "other"] (defScope s_cross) := ⟨rfl, rfl, rfl, by decide +kernel, rfl, by decide +kernel, by decide +kernel⟩
abbrev s_do_moves_commute : Stmt := top 32
abbrev n_do_moves_commute : List Str := ["one", "other"]
theorem sc_do_moves_commute : FnScope n_do_moves_commute ["one", "other"] (defScope s_do_moves_commute) := ⟨rfl, rfl, rfl, by decide +kernel, rfl, by decide +kernel, by decide +kernel⟩
abbrev s_l_alike_right : Stmt := top 46
abbrev n_l_alike_right : List Str := ["_law_first", "_law_last", "_law_due", "_law_made", "_law_mate", "_law_ways", "_law_shown", "_law_begin", "_law_goal", "_law_told"]
theorem sc_l_alike_right : FnScope n_l_alike_right ["_law_first", "_law_last", "_law_due"] (defScope s_l_alike_right) := ⟨rfl, rfl, rfl, by decide +kernel, rfl, by decide +kernel, by decide +kernel⟩
abbrev s_l_are_alike : Stmt := top 45
abbrev n_l_are_alike : List Str := ["_law_first", "_law_last", "_law_x", "_law_y"]
theorem sc_l_are_alike : FnScope n_l_are_alike ["_law_first", "_law_last"] (defScope s_l_are_alike) := ⟨rfl, rfl, rfl, by decide +kernel, rfl, by decide +kernel, by decide +kernel⟩
abbrev s_l_power : Stmt := top 41
abbrev n_l_power : List Str := ["_law_trip_here", "_law_count", "_law_here", "_law_found", "_law_left", "_law_turn", "_law_figure"]
theorem sc_l_power : FnScope n_l_power ["_law_trip_here", "_law_count"] (defScope s_l_power) := ⟨rfl, rfl, rfl, by decide +kernel, rfl, by decide +kernel, by decide +kernel⟩
abbrev s_check_degree : Stmt := top 8
abbrev n_check_degree : List Str := ["value"]
theorem sc_check_degree : FnScope n_check_degree ["value"] (defScope s_check_degree) := ⟨rfl, rfl, rfl, by decide +kernel, rfl, by decide +kernel, by decide +kernel⟩
abbrev s_area_often : Stmt := top 29
abbrev n_area_often : List Str := ["east", "north", "area", "times"]
theorem sc_area_often : FnScope n_area_often ["east", "north", "area", "times"] (defScope s_area_often) := ⟨rfl, rfl, rfl, by decide +kernel, rfl, by decide +kernel, by decide +kernel⟩
abbrev s_move_root : Stmt := top 33
abbrev n_move_root : List Str := ["one", "degree", "east", "north", "left"]
theorem sc_move_root : FnScope n_move_root ["one", "degree"] (defScope s_move_root) := ⟨rfl, rfl, rfl, by decide +kernel, rfl, by decide +kernel, by decide +kernel⟩
abbrev s_l_has_root : Stmt := top 47
abbrev n_l_has_root : List Str := ["_law_trip_here", "_law_level", "_law_x", "_law_y", "_law_s"]
theorem sc_l_has_root : FnScope n_l_has_root ["_law_trip_here", "_law_level"] (defScope s_l_has_root) := ⟨rfl, rfl, rfl, by decide +kernel, rfl, by decide +kernel, by decide +kernel⟩
abbrev s_triple_of : Stmt := top 25
abbrev n_triple_of : List Str := ["move"]
theorem sc_triple_of : FnScope n_triple_of ["move"] (defScope s_triple_of) := ⟨rfl, rfl, rfl, by decide +kernel, rfl, by decide +kernel, by decide +kernel⟩
abbrev s_Move_eq : Stmt := inClass (top 24) 6
abbrev n_Move_eq : List Str := ["self", "other"]
theorem sc_Move_eq : FnScope n_Move_eq ["self", "other"] (defScope s_Move_eq) := ⟨rfl, rfl, rfl, by decide +kernel, rfl, by decide +kernel, by decide +kernel⟩
abbrev s_l_roots_right : Stmt := top 48
abbrev n_l_roots_right : List Str := ["_law_reel_here", "_law_level", "_law_trip_here", "_law_told", "_law_due", "_law_part", "_law_many", "_law_whole", "_law_each", "_law_number"]
theorem sc_l_roots_right : FnScope n_l_roots_right ["_law_reel_here"] (defScope s_l_roots_right) := ⟨rfl, rfl, rfl, by decide +kernel, rfl, by decide +kernel, by decide +kernel⟩
abbrev s_l_right : Stmt := top 49
abbrev n_l_right : List Str := ["_law_reel_here", "_law_turn", "_law_great", "_law_side", "_law_by", "_law_first", "_law_some", "_law_last", "_law_number"]
theorem sc_l_right : FnScope n_l_right ["_law_reel_here"] (defScope s_l_right) := ⟨rfl, rfl, rfl, by decide +kernel, rfl, by decide +kernel, by decide +kernel⟩
abbrev s_l_reel : Stmt := top 35
abbrev n_l_reel : List Str := ["_law_script", "_law_turn", "_law_own", "_law_mixed", "_law_entry"]
theorem sc_l_reel : FnScope n_l_reel ["_law_script", "_law_turn"] (defScope s_l_reel) := ⟨rfl, rfl, rfl, by decide +kernel, rfl, by decide +kernel, by decide +kernel⟩
abbrev s_law : Stmt := top 50
abbrev n_law : List Str := ["_law_script", "_law_turn"]
theorem sc_law : FnScope n_law ["_law_script"] (defScope s_law) := ⟨rfl, rfl, rfl, by decide +kernel, rfl, by decide +kernel, by decide +kernel⟩
structure Tx (w : World) (K : PySem.W.Frag) (mg : Str → Option Value) where
  f_l_wind : Addr
  d_l_wind : FuncData
  F_l_wind : Fun K "_law_wind" "_law_wind" s_l_wind f_l_wind d_l_wind
  b_l_wind : L2.Binds K d_l_wind ["_law_reel_here", "_law_many"] []
  mg_l_wind : mg "_law_wind" = some (.ref f_l_wind)
  f_l_trip : Addr
  d_l_trip : FuncData
  F_l_trip : Fun K "_law_trip" "_law_trip" s_l_trip f_l_trip d_l_trip
  b_l_trip : L2.Binds K d_l_trip ["_law_reel_here", "_law_size"] []
  mg_l_trip : mg "_law_trip" = some (.ref f_l_trip)
  f_l_put : Addr
  d_l_put : FuncData
  F_l_put : Fun K "_law_put" "_law_put" s_l_put f_l_put d_l_put
  b_l_put : L2.Binds K d_l_put ["_law_left", "_law_right_here"] []
  mg_l_put : mg "_law_put" = some (.ref f_l_put)
  f_l_off : Addr
  d_l_off : FuncData
  F_l_off : Fun K "_law_off" "_law_off" s_l_off f_l_off d_l_off
  b_l_off : L2.Binds K d_l_off ["_law_trip_here"] []
  mg_l_off : mg "_law_off" = some (.ref f_l_off)
  f_l_between : Addr
  d_l_between : FuncData
  F_l_between : Fun K "_law_between" "_law_between" s_l_between f_l_between d_l_between
  b_l_between : L2.Binds K d_l_between ["_law_by", "_law_trip_here"] []
  mg_l_between : mg "_law_between" = some (.ref f_l_between)
  f_l_one_of : Addr
  d_l_one_of : FuncData
  F_l_one_of : Fun K "_law_one_of" "_law_one_of" s_l_one_of f_l_one_of d_l_one_of
  b_l_one_of : L2.Binds K d_l_one_of ["_law_reel_here", "_law_menu"] []
  mg_l_one_of : mg "_law_one_of" = some (.ref f_l_one_of)
  f_is_integer : Addr
  d_is_integer : FuncData
  F_is_integer : Fun K "is_integer" "is_integer" s_is_integer f_is_integer d_is_integer
  b_is_integer : L2.Binds K d_is_integer ["value"] []
  mg_is_integer : mg "is_integer" = some (.ref f_is_integer)
  f_check_number : Addr
  d_check_number : FuncData
  F_check_number : Fun K "check_number" "check_number" s_check_number f_check_number d_check_number
  b_check_number : L2.Binds K d_check_number ["value"] []
  mg_check_number : mg "check_number" = some (.ref f_check_number)
  f_Move_init : Addr
  d_Move_init : FuncData
  F_Move_init : Fun K "__init__" "Move.__init__" s_Move_init f_Move_init d_Move_init
  b_Move_init : L2.Binds K d_Move_init ["self", "east", "north", "area"] []
  f_l_move : Addr
  d_l_move : FuncData
  F_l_move : Fun K "_law_move" "_law_move" s_l_move f_l_move d_l_move
  b_l_move : L2.Binds K d_l_move ["_law_trip_here"] []
  mg_l_move : mg "_law_move" = some (.ref f_l_move)
  f_check_move : Addr
  d_check_move : FuncData
  F_check_move : Fun K "check_move" "check_move" s_check_move f_check_move d_check_move
  b_check_move : L2.Binds K d_check_move ["value"] []
  mg_check_move : mg "check_move" = some (.ref f_check_move)
  f_check_moves : Addr
  d_check_moves : FuncData
  F_check_moves : Fun K "check_moves" "check_moves" s_check_moves f_check_moves d_check_moves
  b_check_moves : L2.Binds K d_check_moves ["one", "other"] []
  mg_check_moves : mg "check_moves" = some (.ref f_check_moves)
  f_Move_east : Addr
  d_Move_east : FuncData
  F_Move_east : Fun K "east" "Move.east" s_Move_east f_Move_east d_Move_east
  b_Move_east : L2.Binds K d_Move_east ["self"] []
  f_Move_north : Addr
  d_Move_north : FuncData
  F_Move_north : Fun K "north" "Move.north" s_Move_north f_Move_north d_Move_north
  b_Move_north : L2.Binds K d_Move_north ["self"] []
  f_pivot_place : Addr
  d_pivot_place : FuncData
  F_pivot_place : Fun K "pivot_place" "pivot_place" s_pivot_place f_pivot_place d_pivot_place
  b_pivot_place : L2.Binds K d_pivot_place ["line"] []
  mg_pivot_place : mg "pivot_place" = some (.ref f_pivot_place)
  f_less : Addr
  d_less : FuncData
  F_less : Fun K "less" "less" s_less f_less d_less
  b_less : L2.Binds K d_less ["line", "times", "other"] []
  mg_less : mg "less" = some (.ref f_less)
  f_taken_by_lines : Addr
  d_taken_by_lines : FuncData
  F_taken_by_lines : Fun K "taken_by_lines" "taken_by_lines" s_taken_by_lines f_taken_by_lines d_taken_by_lines
  b_taken_by_lines : L2.Binds K d_taken_by_lines ["lines", "numbers"] []
  mg_taken_by_lines : mg "taken_by_lines" = some (.ref f_taken_by_lines)
  c_swept : Addr
  P_swept : Addr
  f_swept : Addr
  d_swept : FuncData
  F_swept : FunC K "swept" "swept" s_swept f_swept d_swept c_swept
  b_swept : L2.Binds K d_swept ["rows", "column"] []
  mg_swept : mg "swept" = some (.ref f_swept)
  f_lines_of : Addr
  d_lines_of : FuncData
  F_lines_of : Fun K "lines_of" "lines_of" s_lines_of f_lines_of d_lines_of
  b_lines_of : L2.Binds K d_lines_of ["rows", "width"] []
  mg_lines_of : mg "lines_of" = some (.ref f_lines_of)
  f_times_for : Addr
  d_times_for : FuncData
  F_times_for : Fun K "times_for" "times_for" s_times_for f_times_for d_times_for
  b_times_for : L2.Binds K d_times_for ["rows", "numbers"] []
  mg_times_for : mg "times_for" = some (.ref f_times_for)
  f_Move_area : Addr
  d_Move_area : FuncData
  F_Move_area : Fun K "area" "Move.area" s_Move_area f_Move_area d_Move_area
  b_Move_area : L2.Binds K d_Move_area ["self"] []
  f_move_alike : Addr
  d_move_alike : FuncData
  F_move_alike : Fun K "move_alike" "move_alike" s_move_alike f_move_alike d_move_alike
  b_move_alike : L2.Binds K d_move_alike ["one", "other"] []
  mg_move_alike : mg "move_alike" = some (.ref f_move_alike)
  f_is_move_alike : Addr
  d_is_move_alike : FuncData
  F_is_move_alike : Fun K "is_move_alike" "is_move_alike" s_is_move_alike f_is_move_alike d_is_move_alike
  b_is_move_alike : L2.Binds K d_is_move_alike ["one", "other"] []
  mg_is_move_alike : mg "is_move_alike" = some (.ref f_is_move_alike)
  f_l_three : Addr
  d_l_three : FuncData
  F_l_three : Fun K "_law_three" "_law_three" s_l_three f_l_three d_l_three
  b_l_three : L2.Binds K d_l_three ["_law_made"] []
  mg_l_three : mg "_law_three" = some (.ref f_l_three)
  f_cross : Addr
  d_cross : FuncData
  F_cross : Fun K "cross" "cross" s_cross f_cross d_cross
  b_cross : L2.Binds K d_cross ["one", "other"] []
  mg_cross : mg "cross" = some (.ref f_cross)
  f_do_moves_commute : Addr
  d_do_moves_commute : FuncData
  F_do_moves_commute : Fun K "do_moves_commute" "do_moves_commute" s_do_moves_commute f_do_moves_commute d_do_moves_commute
  b_do_moves_commute : L2.Binds K d_do_moves_commute ["one", "other"] []
  mg_do_moves_commute : mg "do_moves_commute" = some (.ref f_do_moves_commute)
  f_l_alike_right : Addr
  d_l_alike_right : FuncData
  F_l_alike_right : Fun K "_law_alike_right" "_law_alike_right" s_l_alike_right f_l_alike_right d_l_alike_right
  b_l_alike_right : L2.Binds K d_l_alike_right ["_law_first", "_law_last", "_law_due"] []
  mg_l_alike_right : mg "_law_alike_right" = some (.ref f_l_alike_right)
  f_l_are_alike : Addr
  d_l_are_alike : FuncData
  F_l_are_alike : Fun K "_law_are_alike" "_law_are_alike" s_l_are_alike f_l_are_alike d_l_are_alike
  b_l_are_alike : L2.Binds K d_l_are_alike ["_law_first", "_law_last"] []
  mg_l_are_alike : mg "_law_are_alike" = some (.ref f_l_are_alike)
  f_l_power : Addr
  d_l_power : FuncData
  F_l_power : Fun K "_law_power" "_law_power" s_l_power f_l_power d_l_power
  b_l_power : L2.Binds K d_l_power ["_law_trip_here", "_law_count"] []
  mg_l_power : mg "_law_power" = some (.ref f_l_power)
  f_check_degree : Addr
  d_check_degree : FuncData
  F_check_degree : Fun K "check_degree" "check_degree" s_check_degree f_check_degree d_check_degree
  b_check_degree : L2.Binds K d_check_degree ["value"] []
  mg_check_degree : mg "check_degree" = some (.ref f_check_degree)
  f_area_often : Addr
  d_area_often : FuncData
  F_area_often : Fun K "area_often" "area_often" s_area_often f_area_often d_area_often
  b_area_often : L2.Binds K d_area_often ["east", "north", "area", "times"] []
  mg_area_often : mg "area_often" = some (.ref f_area_often)
  f_move_root : Addr
  d_move_root : FuncData
  F_move_root : Fun K "move_root" "move_root" s_move_root f_move_root d_move_root
  b_move_root : L2.Binds K d_move_root ["one", "degree"] []
  mg_move_root : mg "move_root" = some (.ref f_move_root)
  f_l_has_root : Addr
  d_l_has_root : FuncData
  F_l_has_root : Fun K "_law_has_root" "_law_has_root" s_l_has_root f_l_has_root d_l_has_root
  b_l_has_root : L2.Binds K d_l_has_root ["_law_trip_here", "_law_level"] []
  mg_l_has_root : mg "_law_has_root" = some (.ref f_l_has_root)
  f_triple_of : Addr
  d_triple_of : FuncData
  F_triple_of : Fun K "triple_of" "triple_of" s_triple_of f_triple_of d_triple_of
  b_triple_of : L2.Binds K d_triple_of ["move"] []
  mg_triple_of : mg "triple_of" = some (.ref f_triple_of)
  f_Move_eq : Addr
  d_Move_eq : FuncData
  F_Move_eq : Fun K "__eq__" "Move.__eq__" s_Move_eq f_Move_eq d_Move_eq
  b_Move_eq : L2.Binds K d_Move_eq ["self", "other"] []
  f_l_roots_right : Addr
  d_l_roots_right : FuncData
  F_l_roots_right : Fun K "_law_roots_right" "_law_roots_right" s_l_roots_right f_l_roots_right d_l_roots_right
  b_l_roots_right : L2.Binds K d_l_roots_right ["_law_reel_here"] []
  mg_l_roots_right : mg "_law_roots_right" = some (.ref f_l_roots_right)
  f_l_right : Addr
  d_l_right : FuncData
  F_l_right : Fun K "_law_right" "_law_right" s_l_right f_l_right d_l_right
  b_l_right : L2.Binds K d_l_right ["_law_reel_here"] []
  mg_l_right : mg "_law_right" = some (.ref f_l_right)
  f_l_reel : Addr
  d_l_reel : FuncData
  F_l_reel : Fun K "_law_reel" "_law_reel" s_l_reel f_l_reel d_l_reel
  b_l_reel : L2.Binds K d_l_reel ["_law_script", "_law_turn"] []
  mg_l_reel : mg "_law_reel" = some (.ref f_l_reel)
  f_law : Addr
  d_law : FuncData
  F_law : Fun K "law" "law" s_law f_law d_law
  b_law : L2.Binds K d_law ["_law_script"] []
  mg_law : mg "law" = some (.ref f_law)
  C_Move : Addr
  mg_Move : mg "Move" = some (.ref C_Move)
  ct_Move : CT K "Move" C_Move
  cl_Move : Cls K C_Move
  mk_Move : Mk K C_Move f_Move_init
  pp_Move_east : Addr
  pr_Move_east : PropOf K C_Move "east" pp_Move_east f_Move_east
  pp_Move_north : Addr
  pr_Move_north : PropOf K C_Move "north" pp_Move_north f_Move_north
  pp_Move_area : Addr
  pr_Move_area : PropOf K C_Move "area" pp_Move_area f_Move_area
  eqC_Move : EqC K C_Move f_Move_eq
  na_Move__area : NoAttr K C_Move "_area"
  na_Move__east : NoAttr K C_Move "_east"
  na_Move__north : NoAttr K C_Move "_north"
  isi_Move : IsiC K C_Move
  it_0 : PySem.W.kitOne K (.type "NoneType") (.type "int") = some false
  it_1 : PySem.W.kitOne K (.type "NoneType") (.type "bool") = some false
  it_2 : PySem.W.kitOne K (.type "NoneType") (.ref C_Move) = some false
  it_3 : PySem.W.kitOne K (.type "bool") (.type "int") = some true
  it_4 : PySem.W.kitOne K (.type "bool") (.type "bool") = some true
  it_5 : PySem.W.kitOne K (.type "bool") (.ref C_Move) = some false
  it_6 : PySem.W.kitOne K (.type "int") (.type "int") = some true
  it_7 : PySem.W.kitOne K (.type "int") (.type "bool") = some false
  it_8 : PySem.W.kitOne K (.type "int") (.ref C_Move) = some false
  it_9 : PySem.W.kitOne K (.type "str") (.type "int") = some false
  it_10 : PySem.W.kitOne K (.type "str") (.type "bool") = some false
  it_11 : PySem.W.kitOne K (.type "str") (.ref C_Move) = some false
  it_12 : PySem.W.kitOne K (.type "tuple") (.type "int") = some false
  it_13 : PySem.W.kitOne K (.type "tuple") (.type "bool") = some false
  it_14 : PySem.W.kitOne K (.type "tuple") (.ref C_Move) = some false
  it_15 : PySem.W.kitOne K (.type "list") (.type "int") = some false
  it_16 : PySem.W.kitOne K (.type "list") (.type "bool") = some false
  it_17 : PySem.W.kitOne K (.type "list") (.ref C_Move) = some false
  it_18 : PySem.W.kitOne K (.ref C_Move) (.type "int") = some false
  it_19 : PySem.W.kitOne K (.ref C_Move) (.type "bool") = some false
  it_20 : PySem.W.kitOne K (.ref C_Move) (.ref C_Move) = some true
  n_int : mg "int" = none
  n_bool : mg "bool" = none
  n_tuple : mg "tuple" = none
  n_list : mg "list" = none
  n_isinstance : mg "isinstance" = none
  n_len : mg "len" = none
  n_abs : mg "abs" = none
  n_repr : mg "repr" = none
  n_all : mg "all" = none
  n_range : mg "range" = none
  n_divmod : mg "divmod" = none
  n_zip : mg "zip" = none
  n_enumerate : mg "enumerate" = none
  n_sorted : mg "sorted" = none
structure Tb [TbC] {w : World} {K : PySem.W.Frag} {mg : Str → Option Value} (T : Tx w K mg) (base : Heap) : Prop where
  ne : TbC.T ≠ []
  tb_swept : TabB base mg T.c_swept T.P_swept
  m_swept : (T.P_swept, (("swept" : Str) ++ ".<locals>.") ++ "<lambda>") ∈ TbC.T
  u_swept : ∀ p ∈ TbC.T, p.1 = T.P_swept → p.2 = (("swept" : Str) ++ ".<locals>.") ++ "<lambda>"
section
variable {P : Program} {w : World} {K : PySem.W.Frag} {mg : Str → Option Value} {base : Heap} [TbC]
omit [TbC] in
theorem Tx.xt (T : Tx w K mg) : XTab K xt_ := by
  intro e he C D c1 c2
  simp only [xt_, List.mem_cons, List.not_mem_nil, or_false] at he
omit [TbC] in
theorem Tx.kt (T : Tx w K mg) : KTab K kt_ := by
  intro e he C D c1 c2
  simp only [kt_, List.mem_cons, List.not_mem_nil, or_false] at he
omit [TbC] in
theorem Tx.lv (T : Tx w K mg) : LTab K lv_ := by
  intro e he C c1
  simp only [lv_, List.mem_cons, List.not_mem_nil, or_false] at he
omit [TbC] in
theorem isiT (T : Tx w K mg) : IsiT K cs_ tb_ := by
  refine ⟨fun c hc C ct => ?_, fun e he tv cv h1 h2 => ?_⟩
  · simp only [cs_, List.mem_cons, List.not_mem_nil, or_false] at hc
    rcases hc with rfl
    · cases ct.one T.ct_Move; exact T.isi_Move
  · simp only [tb_, List.mem_cons, List.not_mem_nil, or_false] at he
    rcases he with he | he | he | he | he | he | he | he | he | he | he | he | he | he | he | he | he | he | he | he | he
    · subst he; cases h1; cases h2; exact T.it_0
    · subst he; cases h1; cases h2; exact T.it_1
    · subst he; cases h1; obtain ⟨C2, c2, e2⟩ := h2; subst e2; cases c2.one T.ct_Move; exact T.it_2
    · subst he; cases h1; cases h2; exact T.it_3
    · subst he; cases h1; cases h2; exact T.it_4
    · subst he; cases h1; obtain ⟨C2, c2, e2⟩ := h2; subst e2; cases c2.one T.ct_Move; exact T.it_5
    · subst he; cases h1; cases h2; exact T.it_6
    · subst he; cases h1; cases h2; exact T.it_7
    · subst he; cases h1; obtain ⟨C2, c2, e2⟩ := h2; subst e2; cases c2.one T.ct_Move; exact T.it_8
    · subst he; cases h1; cases h2; exact T.it_9
    · subst he; cases h1; cases h2; exact T.it_10
    · subst he; cases h1; obtain ⟨C2, c2, e2⟩ := h2; subst e2; cases c2.one T.ct_Move; exact T.it_11
    · subst he; cases h1; cases h2; exact T.it_12
    · subst he; cases h1; cases h2; exact T.it_13
    · subst he; cases h1; obtain ⟨C2, c2, e2⟩ := h2; subst e2; cases c2.one T.ct_Move; exact T.it_14
    · subst he; cases h1; cases h2; exact T.it_15
    · subst he; cases h1; cases h2; exact T.it_16
    · subst he; cases h1; obtain ⟨C2, c2, e2⟩ := h2; subst e2; cases c2.one T.ct_Move; exact T.it_17
    · subst he; obtain ⟨C1, c1, e1⟩ := h1; subst e1; cases c1.one T.ct_Move; cases h2; exact T.it_18
    · subst he; obtain ⟨C1, c1, e1⟩ := h1; subst e1; cases c1.one T.ct_Move; cases h2; exact T.it_19
    · subst he; obtain ⟨C1, c1, e1⟩ := h1; subst e1; cases c1.one T.ct_Move; obtain ⟨C2, c2, e2⟩ := h2; subst e2; cases c2.one T.ct_Move; exact T.it_20

theorem ok_l_wind (T : Tx w K mg) : FnOk P w K mg base CX0 1 T.f_l_wind T.d_l_wind ["_law_reel_here", "_law_many"] (spF K F_l_wind) := by
  refine T.F_l_wind.ok sc_l_wind (fun vs H Q E h => len_O (n := 3) (fS := B_l_wind) h) (fun cdv A outer s H vs Q E hr h => ?_)
  refine ⟨_, (pss_cons (ps_if (pt_cmpR op_gt (pe_ix (r := rIx K) (ix_K (K := K) rfl) (pv 0) pe_int (fun _ _ => rfl)) pe_int (nomark _)) (pss_cons (ps_asg (pe_callB call_divmod rfl T.n_divmod boot_divmod (pa_cons (pe_ix (r := rIx K) (ix_K (K := K) rfl) (pv 0) pe_int (fun _ _ => rfl)) (pa_cons (pv 1) pa_nil))) (pg_tup rfl (pgs_cons (pg_sub (pv 0) pe_int set_list) (pgs_cons (pg_name (i := 2) sc_l_wind.nd rfl (by first | exact Or.inl rfl | exact Or.inr rfl)) pgs_nil)))) (pss_one (ps_ret (pv 2)))) pss_nil) (pss_cons (ps_asg (pe_op (add_K (K := K) rfl) (pe_ix (r := rIx K) (ix_K (K := K) rfl) (pv 0) pe_int (fun _ _ => rfl)) pe_int) (pg_sub (pv 0) pe_int set_list)) (pss_cons (ps_asg (pe_op op_mod (pe_callTy call_int rfl T.n_int boot_int (pa_cons (pe_op (add_K (K := K) rfl) (pe_op (add_K (K := K) rfl) (pe_op (mul_K (K := K) rfl) (pe_ix (r := rIx K) (ix_K (K := K) rfl) (pv 0) pe_int (fun _ _ => rfl)) pe_int) (pe_op (mul_K (K := K) rfl) (pe_op (mul_K (K := K) rfl) (pe_ix (r := rIx K) (ix_K (K := K) rfl) (pv 0) pe_int (fun _ _ => rfl)) (pe_ix (r := rIx K) (ix_K (K := K) rfl) (pv 0) pe_int (fun _ _ => rfl))) pe_int)) pe_int) pa_nil)) pe_int) (pg_sub (pv 0) pe_int set_list)) (pss_one (ps_ret (pe_op op_mod (pe_callTy call_int rfl T.n_int boot_int (pa_cons (pe_op op_fdivW (pe_ix (r := rIx K) (ix_K (K := K) rfl) (pv 0) pe_int (fun _ _ => rfl)) pe_int) pa_nil)) (pv 1))))))), ?_⟩
  exact body_O (Ns := n_l_wind) (fS := B_l_wind) h (sim_seq (sim_ifS (sim_test (sim_op sim_gt (sim_ixO sim_int) sim_int)) (sim_seq (sim_asgG (sim_cb sim_divmod (sim_cons (sim_ixO sim_int) (sim_cons sim_var sim_nil))) (sim_gtup (sim_gcons (sim_gsub sim_int) (sim_gcons sim_gname sim_gnil)))) (sim_ret sim_var)) sim_next) (sim_seq (sim_asgG (sim_op sim_add (sim_ixO sim_int) sim_int) (sim_gsub sim_int)) (sim_seq (sim_asgG (sim_op sim_mod (sim_cb sim_int1 (sim_cons (sim_op sim_add (sim_op sim_add (sim_op sim_mul (sim_ixO sim_int) sim_int) (sim_op sim_mul (sim_op sim_mul (sim_ixO sim_int) (sim_ixO sim_int)) sim_int)) sim_int) sim_nil)) sim_int) (sim_gsub sim_int)) (sim_ret (sim_op sim_mod (sim_cb sim_int1 (sim_cons (sim_op sim_fdiv (sim_ixO sim_int) sim_int) sim_nil)) sim_var)))))
theorem ok_l_trip (T : Tx w K mg) : FnOk P w K mg base CX0 2 T.f_l_trip T.d_l_trip ["_law_reel_here", "_law_size"] (spF K F_l_trip) := by
  refine T.F_l_trip.ok sc_l_trip (fun vs H Q E h => len_O (n := 3) (fS := B_l_trip) h) (fun cdv A outer s H vs Q E hr h => ?_)
  refine ⟨_, (pss_one (ps_ret (pe_callTy (tupOf_K (K := K) rfl) rfl T.n_tuple boot_tuple (pa_cons (pe_lc (own := [("_law_spot", 2)]) (g := gName 2) (tt := tYes) rfl sc_l_trip.nd (pi_range1 rfl T.n_range (pa_cons pe_int pa_nil)) (blkOk_by (N := n_l_trip) (sc := defScope s_l_trip) (by decide +kernel)) (fun _ _ _ _ _ => pg_name (i := 2) sc_l_trip.nd rfl (by first | exact Or.inl rfl | exact Or.inr rfl)) (fun _ _ _ _ _ => pts_nil) (fun _ _ _ _ _ => (pe_op op_sub (pe_call (ok_l_wind T) (hr.mono (by decide)) rfl T.mg_l_wind T.F_l_wind.kp T.b_l_wind .nil pass0 (pa_cons (pv 0) (pa_cons (pe_op (add_K (K := K) rfl) (pe_op (mul_K (K := K) rfl) pe_int (pv 1)) pe_int) pa_nil))) (pv 1)))) pa_nil)))), ?_⟩
  exact body_O (Ns := n_l_trip) (fS := B_l_trip) h (sim_ret (sim_cb sim_tupOf (sim_cons (sim_lc (sim_rng1 (sim_cons sim_int sim_nil)) sim_gname sim_yes (sim_op sim_sub (sim_call hE0 (sim_cons sim_var (sim_cons (sim_op sim_add (sim_op sim_mul sim_int sim_var) sim_int) sim_nil))) sim_var)) sim_nil)))
theorem ok_l_put (T : Tx w K mg) : FnOk P w K mg base CX0 1 T.f_l_put T.d_l_put ["_law_left", "_law_right_here"] (spF K F_l_put) := by
  refine T.F_l_put.ok sc_l_put (fun vs H Q E h => len_O (n := 2) (fS := B_l_put) h) (fun cdv A outer s H vs Q E hr h => ?_)
  refine ⟨_, (pss_one (ps_ret (pe_tup (pa_cons (pe_op (add_K (K := K) rfl) (pe_ix (r := rIx K) (ix_K (K := K) rfl) (pv 0) pe_int (fun _ _ => rfl)) (pe_ix (r := rIx K) (ix_K (K := K) rfl) (pv 1) pe_int (fun _ _ => rfl))) (pa_cons (pe_op (add_K (K := K) rfl) (pe_ix (r := rIx K) (ix_K (K := K) rfl) (pv 0) pe_int (fun _ _ => rfl)) (pe_ix (r := rIx K) (ix_K (K := K) rfl) (pv 1) pe_int (fun _ _ => rfl))) (pa_cons (pe_op (add_K (K := K) rfl) (pe_op (add_K (K := K) rfl) (pe_ix (r := rIx K) (ix_K (K := K) rfl) (pv 0) pe_int (fun _ _ => rfl)) (pe_ix (r := rIx K) (ix_K (K := K) rfl) (pv 1) pe_int (fun _ _ => rfl))) (pe_op (mul_K (K := K) rfl) (pe_ix (r := rIx K) (ix_K (K := K) rfl) (pv 0) pe_int (fun _ _ => rfl)) (pe_ix (r := rIx K) (ix_K (K := K) rfl) (pv 1) pe_int (fun _ _ => rfl)))) pa_nil)))))), ?_⟩
  exact body_O (Ns := n_l_put) (fS := B_l_put) h (sim_ret (sim_tup (sim_cons (sim_op sim_add (sim_op sim_ix sim_var sim_int) (sim_op sim_ix sim_var sim_int)) (sim_cons (sim_op sim_add (sim_op sim_ix sim_var sim_int) (sim_op sim_ix sim_var sim_int)) (sim_cons (sim_op sim_add (sim_op sim_add (sim_op sim_ix sim_var sim_int) (sim_op sim_ix sim_var sim_int)) (sim_op sim_mul (sim_op sim_ix sim_var sim_int) (sim_op sim_ix sim_var sim_int))) sim_nil)))))
theorem ok_l_off (T : Tx w K mg) : FnOk P w K mg base CX0 1 T.f_l_off T.d_l_off ["_law_trip_here"] (spF K F_l_off) := by
  refine T.F_l_off.ok sc_l_off (fun vs H Q E h => len_O (n := 1) (fS := B_l_off) h) (fun cdv A outer s H vs Q E hr h => ?_)
  refine ⟨_, (pss_one (ps_ret (pe_tup (pa_cons (pe_op op_sub pe_int (pe_ix (r := rIx K) (ix_K (K := K) rfl) (pv 0) pe_int (fun _ _ => rfl))) (pa_cons (pe_op op_sub pe_int (pe_ix (r := rIx K) (ix_K (K := K) rfl) (pv 0) pe_int (fun _ _ => rfl))) (pa_cons (pe_op op_sub (pe_op (mul_K (K := K) rfl) (pe_ix (r := rIx K) (ix_K (K := K) rfl) (pv 0) pe_int (fun _ _ => rfl)) (pe_ix (r := rIx K) (ix_K (K := K) rfl) (pv 0) pe_int (fun _ _ => rfl))) (pe_ix (r := rIx K) (ix_K (K := K) rfl) (pv 0) pe_int (fun _ _ => rfl))) pa_nil)))))), ?_⟩
  exact body_O (Ns := n_l_off) (fS := B_l_off) h (sim_ret (sim_tup (sim_cons (sim_op sim_sub sim_int (sim_op sim_ix sim_var sim_int)) (sim_cons (sim_op sim_sub sim_int (sim_op sim_ix sim_var sim_int)) (sim_cons (sim_op sim_sub (sim_op sim_mul (sim_op sim_ix sim_var sim_int) (sim_op sim_ix sim_var sim_int)) (sim_op sim_ix sim_var sim_int)) sim_nil)))))
theorem ok_l_between (T : Tx w K mg) : FnOk P w K mg base CX0 2 T.f_l_between T.d_l_between ["_law_by", "_law_trip_here"] (spF K F_l_between) := by
  refine T.F_l_between.ok sc_l_between (fun vs H Q E h => len_O (n := 2) (fS := B_l_between) h) (fun cdv A outer s H vs Q E hr h => ?_)
  refine ⟨_, (pss_one (ps_ret (pe_call (ok_l_put T) (hr.mono (by decide)) rfl T.mg_l_put T.F_l_put.kp T.b_l_put .nil pass0 (pa_cons (pe_call (ok_l_put T) (hr.mono (by decide)) rfl T.mg_l_put T.F_l_put.kp T.b_l_put .nil pass0 (pa_cons (pv 0) (pa_cons (pv 1) pa_nil))) (pa_cons (pe_call (ok_l_off T) (hr.mono (by decide)) rfl T.mg_l_off T.F_l_off.kp T.b_l_off .nil pass0 (pa_cons (pv 0) pa_nil)) pa_nil))))), ?_⟩
  exact body_O (Ns := n_l_between) (fS := B_l_between) h (sim_ret (sim_call hE0 (sim_cons (sim_call hE0 (sim_cons sim_var (sim_cons sim_var sim_nil))) (sim_cons (sim_call hE0 (sim_cons sim_var sim_nil)) sim_nil))))
theorem ok_l_one_of (T : Tx w K mg) : FnOk P w K mg base CX0 2 T.f_l_one_of T.d_l_one_of ["_law_reel_here", "_law_menu"] (spF K F_l_one_of) := by
  refine T.F_l_one_of.ok sc_l_one_of (fun vs H Q E h => len_O (n := 2) (fS := B_l_one_of) h) (fun cdv A outer s H vs Q E hr h => ?_)
  refine ⟨_, (pss_one (ps_ret (pe_ix (r := rIx K) (ix_K (K := K) rfl) (pv 1) (pe_call (ok_l_wind T) (hr.mono (by decide)) rfl T.mg_l_wind T.F_l_wind.kp T.b_l_wind .nil pass0 (pa_cons (pv 0) (pa_cons (pe_callB (r := DF.rLen K) (len_K rfl) rfl T.n_len boot_len (pa_cons (pv 1) pa_nil)) pa_nil))) (fun _ _ => rfl)))), ?_⟩
  exact body_O (Ns := n_l_one_of) (fS := B_l_one_of) h (sim_ret (sim_op sim_ix sim_var (sim_call hE0 (sim_cons sim_var (sim_cons (sim_cb sim_len (sim_cons sim_var sim_nil)) sim_nil)))))
theorem ok_is_integer (T : Tx w K mg) : FnOk P w K mg base CX0 1 T.f_is_integer T.d_is_integer ["value"] (spF K F_is_integer) := by
  refine T.F_is_integer.ok sc_is_integer (fun vs H Q E h => len_O (n := 1) (fS := B_is_integer) h) (fun cdv A outer s H vs Q E hr h => ?_)
  refine ⟨_, (pss_one (ps_ret (pe_and (pe_callB (r := rIsi K) (isi_K rfl) rfl T.n_isinstance boot_isinstance (pa_cons (pv 0) (pa_cons (pe_bltn (v := .ty "int") rfl T.n_int boot_int rfl) pa_nil))) (pe_one (pe_not (pe_callB (r := rIsi K) (isi_K rfl) rfl T.n_isinstance boot_isinstance (pa_cons (pv 0) (pa_cons (pe_bltn (v := .ty "bool") rfl T.n_bool boot_bool rfl) pa_nil)))))))), ?_⟩
  exact body_O (Ns := n_is_integer) (fS := B_is_integer) h (sim_ret (sim_andV (sim_cb (sim_isi (isiT T)) (sim_cons sim_var (sim_cons sim_ty sim_nil))) (sim_notV (sim_cb (sim_isi (isiT T)) (sim_cons sim_var (sim_cons sim_ty sim_nil))))))
theorem ok_check_number (T : Tx w K mg) : FnOk P w K mg base CX0 2 T.f_check_number T.d_check_number ["value"] (spF K F_check_number) := by
  refine T.F_check_number.ok sc_check_number (fun vs H Q E h => len_O (n := 1) (fS := B_check_number) h) (fun cdv A outer s H vs Q E hr h => ?_)
  refine ⟨_, (pss_one (ps_if (pt_not (pt_truthK (K := K) rfl (pe_call (ok_is_integer T) (hr.mono (by decide)) rfl T.mg_is_integer T.F_is_integer.kp T.b_is_integer .nil pass0 (pa_cons (pv 0) pa_nil)) (fun _ => rfl))) (pss_one ps_never) pss_nil)), ?_⟩
  exact body_O (Ns := n_check_number) (fS := B_check_number) h (sim_ifS (sim_not (sim_tru (sim_call hE0 (sim_cons sim_var sim_nil)))) sim_never sim_next)
theorem ok_Move_init (T : Tx w K mg) : FnOk P w K mg base CX0 3 T.f_Move_init T.d_Move_init ["self", "east", "north", "area"] (spF K F_Move_init) := by
  refine T.F_Move_init.ok sc_Move_init (fun vs H Q E h => len_O (n := 4) (fS := B_Move_init) h) (fun cdv A outer s H vs Q E hr h => ?_)
  refine ⟨_, (pss_cons (ps_expr (pe_call (ok_check_number T) (hr.mono (by decide)) rfl T.mg_check_number T.F_check_number.kp T.b_check_number .nil pass0 (pa_cons (pv 1) pa_nil))) (pss_cons (ps_expr (pe_call (ok_check_number T) (hr.mono (by decide)) rfl T.mg_check_number T.F_check_number.kp T.b_check_number .nil pass0 (pa_cons (pv 2) pa_nil))) (pss_cons (ps_expr (pe_call (ok_check_number T) (hr.mono (by decide)) rfl T.mg_check_number T.F_check_number.kp T.b_check_number .nil pass0 (pa_cons (pv 3) pa_nil))) (pss_cons (ps_fld (pv 0) (pv 1) rfl) (pss_cons (ps_fld (pv 0) (pv 2) rfl) (pss_one (ps_fld (pv 0) (pv 3) rfl))))))), ?_⟩
  exact body_O (Ns := n_Move_init) (fS := B_Move_init) h (sim_seq (sim_drop (sim_call hE0 (sim_cons sim_var sim_nil))) (sim_seq (sim_drop (sim_call hE0 (sim_cons sim_var sim_nil))) (sim_seq (sim_drop (sim_call hE0 (sim_cons sim_var sim_nil))) (sim_seq (sim_setF T.ct_Move T.cl_Move T.na_Move__east sim_var) (sim_seq (sim_setF T.ct_Move T.cl_Move T.na_Move__north sim_var) (sim_setF T.ct_Move T.cl_Move T.na_Move__area sim_var))))))
theorem ok_l_move (T : Tx w K mg) : FnOk P w K mg base CX0 5 T.f_l_move T.d_l_move ["_law_trip_here"] (spF K F_l_move) := by
  refine T.F_l_move.ok sc_l_move (fun vs H Q E h => len_O (n := 1) (fS := B_l_move) h) (fun cdv A outer s H vs Q E hr h => ?_)
  refine ⟨_, (pss_one (ps_ret (pe_make T.mk_Move (ok_Move_init T) (hr.mono (by decide)) rfl T.mg_Move T.b_Move_init .nil pass0 (pa_cons (pe_ix (r := rIx K) (ix_K (K := K) rfl) (pv 0) pe_int (fun _ _ => rfl)) (pa_cons (pe_ix (r := rIx K) (ix_K (K := K) rfl) (pv 0) pe_int (fun _ _ => rfl)) (pa_cons (pe_ix (r := rIx K) (ix_K (K := K) rfl) (pv 0) pe_int (fun _ _ => rfl)) pa_nil)))))), ?_⟩
  exact body_O (Ns := n_l_move) (fS := B_l_move) h (sim_ret (sim_make T.ct_Move hE0 (sim_cons (sim_op sim_ix sim_var sim_int) (sim_cons (sim_op sim_ix sim_var sim_int) (sim_cons (sim_op sim_ix sim_var sim_int) sim_nil)))))
theorem ok_check_move (T : Tx w K mg) : FnOk P w K mg base CX0 1 T.f_check_move T.d_check_move ["value"] (spF K F_check_move) := by
  refine T.F_check_move.ok sc_check_move (fun vs H Q E h => len_O (n := 1) (fS := B_check_move) h) (fun cdv A outer s H vs Q E hr h => ?_)
  refine ⟨_, (pss_one (ps_if (pt_not (pt_truthK (K := K) rfl (pe_callB (r := rIsi K) (isi_K rfl) rfl T.n_isinstance boot_isinstance (pa_cons (pv 0) (pa_cons (pe_glob (v := .ref T.C_Move) rfl T.mg_Move rfl) pa_nil))) (fun _ => rfl))) (pss_one ps_never) pss_nil)), ?_⟩
  exact body_O (Ns := n_check_move) (fS := B_check_move) h (sim_ifS (sim_not (sim_tru (sim_cb (sim_isi (isiT T)) (sim_cons sim_var (sim_cons (sim_cls T.ct_Move) sim_nil))))) sim_never sim_next)
theorem ok_check_moves (T : Tx w K mg) : FnOk P w K mg base CX0 2 T.f_check_moves T.d_check_moves ["one", "other"] (spF K F_check_moves) := by
  refine T.F_check_moves.ok sc_check_moves (fun vs H Q E h => len_O (n := 2) (fS := B_check_moves) h) (fun cdv A outer s H vs Q E hr h => ?_)
  refine ⟨_, (pss_cons (ps_expr (pe_call (ok_check_move T) (hr.mono (by decide)) rfl T.mg_check_move T.F_check_move.kp T.b_check_move .nil pass0 (pa_cons (pv 0) pa_nil))) (pss_one (ps_expr (pe_call (ok_check_move T) (hr.mono (by decide)) rfl T.mg_check_move T.F_check_move.kp T.b_check_move .nil pass0 (pa_cons (pv 1) pa_nil))))), ?_⟩
  exact body_O (Ns := n_check_moves) (fS := B_check_moves) h (sim_seq (sim_drop (sim_call hE0 (sim_cons sim_var sim_nil))) (sim_drop (sim_call hE0 (sim_cons sim_var sim_nil))))
theorem ok_Move_east (T : Tx w K mg) : FnOk P w K mg base CX0 1 T.f_Move_east T.d_Move_east ["self"] (spF K F_Move_east) := by
  refine T.F_Move_east.ok sc_Move_east (fun vs H Q E h => len_O (n := 1) (fS := B_Move_east) h) (fun cdv A outer s H vs Q E hr h => ?_)
  refine ⟨_, (pss_one (ps_ret (pe_fldK (K := K) rfl (pv 0) rfl))), ?_⟩
  exact body_O (Ns := n_Move_east) (fS := B_Move_east) h (sim_ret (sim_fld T.ct_Move T.cl_Move T.na_Move__east sim_var))
theorem ok_Move_north (T : Tx w K mg) : FnOk P w K mg base CX0 1 T.f_Move_north T.d_Move_north ["self"] (spF K F_Move_north) := by
  refine T.F_Move_north.ok sc_Move_north (fun vs H Q E h => len_O (n := 1) (fS := B_Move_north) h) (fun cdv A outer s H vs Q E hr h => ?_)
  refine ⟨_, (pss_one (ps_ret (pe_fldK (K := K) rfl (pv 0) rfl))), ?_⟩
  exact body_O (Ns := n_Move_north) (fS := B_Move_north) h (sim_ret (sim_fld T.ct_Move T.cl_Move T.na_Move__north sim_var))
theorem ok_pivot_place (T : Tx w K mg) : FnOk P w K mg base CX0 1 T.f_pivot_place T.d_pivot_place ["line"] (spF K F_pivot_place) := by
  refine T.F_pivot_place.ok sc_pivot_place (fun vs H Q E h => len_O (n := 3) (fS := B_pivot_place) h) (fun cdv A outer s H vs Q E hr h => ?_)
  refine ⟨_, (pss_cons (ps_for PassesOwn.never rfl (pi_enumK (K := K) rfl rfl T.n_enumerate (pa_cons (pv 0) pa_nil)) (pg_tup rfl (pgs_cons (pg_name (i := 1) sc_pivot_place.nd rfl (by first | exact Or.inl rfl | exact Or.inr rfl)) (pgs_cons (pg_name (i := 2) sc_pivot_place.nd rfl (by first | exact Or.inl rfl | exact Or.inr rfl)) pgs_nil))) (pss_one (ps_if (pt_cmpR (ne_K (K := K) rfl (units64 hr)) (pv 2) pe_int (nomark _)) (pss_one (ps_ret (pv 1))) pss_nil))) (pss_one (ps_ret pe_non))), ?_⟩
  exact body_O (Ns := n_pivot_place) (fS := B_pivot_place) h (sim_seq (sim_for (sim_wEnum (sim_cons sim_var sim_nil)) (sim_gtup (sim_gcons sim_gname (sim_gcons sim_gname sim_gnil))) (sim_ifS (sim_test (sim_op sim_ne sim_var sim_int)) (sim_ret sim_var) sim_next)) (sim_ret sim_non))
theorem ok_less (T : Tx w K mg) : FnOk P w K mg base CX0 1 T.f_less T.d_less ["line", "times", "other"] (spF K F_less) := by
  refine T.F_less.ok sc_less (fun vs H Q E h => len_O (n := 5) (fS := B_less) h) (fun cdv A outer s H vs Q E hr h => ?_)
  refine ⟨_, (pss_one (ps_ret (pe_lc (own := [("number", 3), ("more", 4)]) (g := gTup K 2 (gCons (gName 3) (gCons (gName 4) gNil))) (tt := tYes) rfl sc_less.nd (pi_zipK (K := K) rfl rfl T.n_zip (pa_cons (pv 0) (pa_cons (pv 2) pa_nil))) (blkOk_by (N := n_less) (sc := defScope s_less) (by decide +kernel)) (fun _ _ _ _ _ => pg_tup rfl (pgs_cons (pg_name (i := 3) sc_less.nd rfl (by first | exact Or.inl rfl | exact Or.inr rfl)) (pgs_cons (pg_name (i := 4) sc_less.nd rfl (by first | exact Or.inl rfl | exact Or.inr rfl)) pgs_nil))) (fun _ _ _ _ _ => pts_nil) (fun _ _ _ _ _ => (pe_op op_sub (pv 3) (pe_op (mul_K (K := K) rfl) (pv 1) (pv 4))))))), ?_⟩
  exact body_O (Ns := n_less) (fS := B_less) h (sim_ret (sim_lc (sim_wZip (sim_cons sim_var (sim_cons sim_var sim_nil))) (sim_gtup (sim_gcons sim_gname (sim_gcons sim_gname sim_gnil))) sim_yes (sim_op sim_sub sim_var (sim_op sim_mul sim_var sim_var))))
theorem ok_taken_by_lines (T : Tx w K mg) : FnOk P w K mg base CX0 2 T.f_taken_by_lines T.d_taken_by_lines ["lines", "numbers"] (spF K F_taken_by_lines) := by
  refine T.F_taken_by_lines.ok sc_taken_by_lines (fun vs H Q E h => len_O (n := 7) (fS := B_taken_by_lines) h) (fun cdv A outer s H vs Q E hr h => ?_)
  refine ⟨_, (pss_cons (ps_set (i := 2) sc_taken_by_lines.nd rfl (by first | exact Or.inl rfl | exact Or.inr rfl) (pe_callTy (lstOf_K (K := K) rfl) rfl T.n_list boot_list (pa_cons (pv 1) pa_nil))) (pss_cons (ps_set (i := 3) sc_taken_by_lines.nd rfl (by first | exact Or.inl rfl | exact Or.inr rfl) (pe_lst pa_nil)) (pss_cons (ps_for PassesOwn.never rfl (pi_anyK (K := K) rfl (pv 0)) (pg_name (i := 4) sc_taken_by_lines.nd rfl (by first | exact Or.inl rfl | exact Or.inr rfl)) (pss_cons (ps_set (i := 5) sc_taken_by_lines.nd rfl (by first | exact Or.inl rfl | exact Or.inr rfl) (pe_call (ok_pivot_place T) (hr.mono (by decide)) rfl T.mg_pivot_place T.F_pivot_place.kp T.b_pivot_place .nil pass0 (pa_cons (pv 4) pa_nil))) (pss_cons (ps_set (i := 6) sc_taken_by_lines.nd rfl (by first | exact Or.inl rfl | exact Or.inr rfl) (pe_op op_fdivW (pe_ix (r := rIx K) (ix_K (K := K) rfl) (pv 2) (pv 5) (fun _ _ => rfl)) (pe_ix (r := rIx K) (ix_K (K := K) rfl) (pv 4) (pv 5) (fun _ _ => rfl)))) (pss_cons (ps_set (i := 2) sc_taken_by_lines.nd rfl (by first | exact Or.inl rfl | exact Or.inr rfl) (pe_call (ok_less T) (hr.mono (by decide)) rfl T.mg_less T.F_less.kp T.b_less .nil pass0 (pa_cons (pv 2) (pa_cons (pv 6) (pa_cons (pv 4) pa_nil))))) (pss_one (ps_expr (pe_bmK (K := K) rfl (r := rAppend) PySem.F.plainAttrs_list PySem.F.slot_list_append PySem.F.type_list_append mt_append (pv 3) (pa_cons (pv 6) pa_nil)))))))) (pss_one (ps_ret (pe_tup (pa_cons (pv 2) (pa_cons (pv 3) pa_nil)))))))), ?_⟩
  exact body_O (Ns := n_taken_by_lines) (fS := B_taken_by_lines) h (sim_seq (sim_asg (sim_cb sim_lstOf (sim_cons sim_var sim_nil))) (sim_seq (sim_asg (sim_lstO sim_nil)) (sim_seq (sim_for (sim_wAny sim_var) sim_gname (sim_seq (sim_asg (sim_call hE0 (sim_cons sim_var sim_nil))) (sim_seq (sim_asg (sim_op sim_fdiv (sim_op sim_ix sim_var sim_var) (sim_op sim_ix sim_var sim_var))) (sim_seq (sim_asg (sim_call hE0 (sim_cons sim_var (sim_cons sim_var (sim_cons sim_var sim_nil))))) (sim_drop (sim_append sim_var)))))) (sim_frz (sim_ret (sim_tup (sim_cons sim_var (sim_cons sim_var sim_nil))))))))
theorem ok_swept (T : Tx w K mg) (B : Tb T base) : FnOk P w K mg base CX0 4 T.f_swept T.d_swept ["rows", "column"] (spF K F_swept) := by
  have hT := B.ne
  refine T.F_swept.ok sc_swept (fun vs H Q E h => len_O (n := 7) (fS := B_swept) h) (fun A outer s H vs Q E hr h => ?_)
  refine ⟨_, (pss_cons (ps_setLc (i := 2) (own := [("row", 6)]) (g := gName 6) (tt := _) rfl sc_swept.nd rfl rfl (sw_true rfl rfl rfl (by decide +kernel)) (pi_anyK (K := K) rfl (pv 0)) (blkOk_by (N := n_swept) (sc := defScope s_swept) (by decide +kernel)) (fun _ _ _ _ _ => pg_name (i := 6) sc_swept.nd rfl (by first | exact Or.inl rfl | exact Or.inr rfl)) (fun _ _ _ _ _ => pts_one (pt_cmpR (ne_K (K := K) rfl (units64 hr)) (pe_ix (r := rIx K) (ix_K (K := K) rfl) (pv 6) (pv 1) (fun _ _ => rfl)) pe_int (nomark _))) (fun _ _ _ _ _ => (pv 6))) (pss_cons (ps_setLc (i := 3) (own := [("row", 6)]) (g := gName 6) (tt := _) rfl sc_swept.nd rfl rfl (sw_true rfl rfl rfl (by decide +kernel)) (pi_anyK (K := K) rfl (pv 0)) (blkOk_by (N := n_swept) (sc := defScope s_swept) (by decide +kernel)) (fun _ _ _ _ _ => pg_name (i := 6) sc_swept.nd rfl (by first | exact Or.inl rfl | exact Or.inr rfl)) (fun _ _ _ _ _ => pts_one (pt_cmpR (eq_K (K := K) rfl (units64 hr)) (pe_ix (r := rIx K) (ix_K (K := K) rfl) (pv 6) (pv 1) (fun _ _ => rfl)) pe_int (nomark _))) (fun _ _ _ _ _ => (pv 6))) (pss_cons (ps_while PassesOwn.never (pt_cmpR op_gt (pe_callB (r := DF.rLen K) (len_K rfl) rfl T.n_len boot_len (pa_cons (pv 2) pa_nil)) pe_int (nomark _)) (pss_cons (ps_set (i := 2) sc_swept.nd rfl (by first | exact Or.inl rfl | exact Or.inr rfl) (pe_sortK (T := TbC.T) (c := T.c_swept) (P := T.P_swept) (i := 1) (pv 2) rfl T.n_sorted T.n_abs (B.tb_swept) rfl B.m_swept B.u_swept hr rfl rfl rfl rfl rfl rfl (by decide) rfl rfl (by decide) rfl (by decide) (fun _ _ _ _ _ _ => rfl) rfl)) (pss_cons (ps_set (i := 4) sc_swept.nd rfl (by first | exact Or.inl rfl | exact Or.inr rfl) (pe_ix (r := rIx K) (ix_K (K := K) rfl) (pv 2) pe_int (fun _ _ => rfl))) (pss_cons (ps_setLc (i := 5) (own := [("row", 6)]) (g := gName 6) (tt := tYes) rfl sc_swept.nd rfl rfl (sw_true rfl rfl rfl (by decide +kernel)) (pi_anyK (K := K) rfl (pe_slice (sl_K (K := K) rfl) (pv 2) (po_some pe_int) po_none)) (blkOk_by (N := n_swept) (sc := defScope s_swept) (by decide +kernel)) (fun _ _ _ _ _ => pg_name (i := 6) sc_swept.nd rfl (by first | exact Or.inl rfl | exact Or.inr rfl)) (fun _ _ _ _ _ => pts_nil) (fun _ _ _ _ _ => (pe_call (ok_less T) (hr.mono (by decide)) rfl T.mg_less T.F_less.kp T.b_less .nil pass0 (pa_cons (pv 6) (pa_cons (pe_op op_fdivX (pe_ix (r := rIx K) (ix_K (K := K) rfl) (pv 6) (pv 1) (fun _ _ => rfl)) (pe_ix (r := rIx K) (ix_K (K := K) rfl) (pv 4) (pv 1) (fun _ _ => rfl))) (pa_cons (pv 4) pa_nil)))))) (pss_cons (ps_set (i := 2) sc_swept.nd rfl (by first | exact Or.inl rfl | exact Or.inr rfl) (pe_op (add_K (K := K) rfl) (pe_lst (pa_cons (pv 4) pa_nil)) (pe_lc (own := [("row", 6)]) (g := gName 6) (tt := _) rfl sc_swept.nd (pi_anyK (K := K) rfl (pv 5)) (blkOk_by (N := n_swept) (sc := defScope s_swept) (by decide +kernel)) (fun _ _ _ _ _ => pg_name (i := 6) sc_swept.nd rfl (by first | exact Or.inl rfl | exact Or.inr rfl)) (fun _ _ _ _ _ => pts_one (pt_cmpR (ne_K (K := K) rfl (units64 hr)) (pe_ix (r := rIx K) (ix_K (K := K) rfl) (pv 6) (pv 1) (fun _ _ => rfl)) pe_int (nomark _))) (fun _ _ _ _ _ => (pv 6))))) (pss_one (ps_set (i := 3) sc_swept.nd rfl (by first | exact Or.inl rfl | exact Or.inr rfl) (pe_op (add_K (K := K) rfl) (pv 3) (pe_lc (own := [("row", 6)]) (g := gName 6) (tt := _) rfl sc_swept.nd (pi_anyK (K := K) rfl (pv 5)) (blkOk_by (N := n_swept) (sc := defScope s_swept) (by decide +kernel)) (fun _ _ _ _ _ => pg_name (i := 6) sc_swept.nd rfl (by first | exact Or.inl rfl | exact Or.inr rfl)) (fun _ _ _ _ _ => pts_one (pt_cmpR (eq_K (K := K) rfl (units64 hr)) (pe_ix (r := rIx K) (ix_K (K := K) rfl) (pv 6) (pv 1) (fun _ _ => rfl)) pe_int (nomark _))) (fun _ _ _ _ _ => (pv 6))))))))))) (pss_one (ps_ret (pe_op (add_K (K := K) rfl) (pv 2) (pv 3))))))), ?_⟩
  exact body_O (Ns := n_swept) (fS := B_swept) h (sim_seq (sim_asg (sim_lc (sim_wAny sim_var) sim_gname (sim_test (sim_op sim_ne (sim_op sim_ix sim_var sim_var) sim_int)) sim_var)) (sim_seq (sim_asg (sim_lc (sim_wAny sim_var) sim_gname (sim_test (sim_op sim_eq (sim_op sim_ix sim_var sim_var) sim_int)) sim_var)) (sim_seq (sim_while (sim_test (sim_op sim_gt (sim_cb sim_len (sim_cons sim_var sim_nil)) sim_int)) (sim_seq (sim_asg (sim_sortK hT sim_var)) (sim_seq (sim_asg (sim_op sim_ix sim_var sim_int)) (sim_seq (sim_asg (sim_lc (sim_wAny (sim_sl sim_var (sim_part sim_int) sim_noPart)) sim_gname sim_yes (sim_call hE0 (sim_cons sim_var (sim_cons (sim_op sim_fdivN (sim_op sim_ix sim_var sim_var) (sim_op sim_ix sim_var sim_var)) (sim_cons sim_var sim_nil)))))) (sim_seq (sim_asg (sim_op sim_add (sim_lst (sim_cons sim_var sim_nil)) (sim_lc (sim_wAny sim_var) sim_gname (sim_test (sim_op sim_ne (sim_op sim_ix sim_var sim_var) sim_int)) sim_var))) (sim_asg (sim_op sim_add sim_var (sim_lc (sim_wAny sim_var) sim_gname (sim_test (sim_op sim_eq (sim_op sim_ix sim_var sim_var) sim_int)) sim_var)))))))) (sim_ret (sim_op sim_add sim_var sim_var)))))
theorem ok_lines_of (T : Tx w K mg) (B : Tb T base) : FnOk P w K mg base CX0 5 T.f_lines_of T.d_lines_of ["rows", "width"] (spF K F_lines_of) := by
  refine T.F_lines_of.ok sc_lines_of (fun vs H Q E h => len_O (n := 9) (fS := B_lines_of) h) (fun cdv A outer s H vs Q E hr h => ?_)
  refine ⟨_, (pss_cons (ps_setLc (i := 2) (own := [("row", 5)]) (g := gName 5) (tt := tYes) rfl sc_lines_of.nd rfl rfl (sw_true rfl rfl rfl (by decide +kernel)) (pi_anyK (K := K) rfl (pv 0)) (blkOk_by (N := n_lines_of) (sc := defScope s_lines_of) (by decide +kernel)) (fun _ _ _ _ _ => pg_name (i := 5) sc_lines_of.nd rfl (by first | exact Or.inl rfl | exact Or.inr rfl)) (fun _ _ _ _ _ => pts_nil) (fun _ _ _ _ _ => (pe_callTy (lstOf_K (K := K) rfl) rfl T.n_list boot_list (pa_cons (pv 5) pa_nil)))) (pss_cons (ps_set (i := 3) sc_lines_of.nd rfl (by first | exact Or.inl rfl | exact Or.inr rfl) (pe_lst pa_nil)) (pss_cons (ps_for PassesOwn.never rfl (pi_range1 rfl T.n_range (pa_cons (pv 1) pa_nil)) (pg_name (i := 4) sc_lines_of.nd rfl (by first | exact Or.inl rfl | exact Or.inr rfl)) (pss_cons (ps_set (i := 2) sc_lines_of.nd rfl (by first | exact Or.inl rfl | exact Or.inr rfl) (pe_call (ok_swept T B) (hr.mono (by decide)) rfl T.mg_swept T.F_swept.kp T.b_swept .nil pass0 (pa_cons (pv 2) (pa_cons (pv 4) pa_nil)))) (pss_one (ps_if (PW.pt (pw_and (pt_truthK (K := K) rfl (pv 2) (fun _ => rfl)) (pw_and1 (pt_cmpR (ne_K (K := K) rfl (units64 hr)) (pe_ix (r := rIx K) (ix_K (K := K) rfl) (pe_ix (r := rIx K) (ix_K (K := K) rfl) (pv 2) pe_int (fun _ _ => rfl)) (pv 4) (fun _ _ => rfl)) pe_int (nomark _))))) (pss_cons (ps_set (i := 6) sc_lines_of.nd rfl (by first | exact Or.inl rfl | exact Or.inr rfl) (pe_ifExp (pt_cmpR op_gt (pe_ix (r := rIx K) (ix_K (K := K) rfl) (pe_ix (r := rIx K) (ix_K (K := K) rfl) (pv 2) pe_int (fun _ _ => rfl)) (pv 4) (fun _ _ => rfl)) pe_int (nomark _)) (pe_ix (r := rIx K) (ix_K (K := K) rfl) (pv 2) pe_int (fun _ _ => rfl)) (pe_lc (own := [("number", 7)]) (g := gName 7) (tt := tYes) rfl sc_lines_of.nd (pi_anyK (K := K) rfl (pe_ix (r := rIx K) (ix_K (K := K) rfl) (pv 2) pe_int (fun _ _ => rfl))) (blkOk_by (N := n_lines_of) (sc := defScope s_lines_of) (by decide +kernel)) (fun _ _ _ _ _ => pg_name (i := 7) sc_lines_of.nd rfl (by first | exact Or.inl rfl | exact Or.inr rfl)) (fun _ _ _ _ _ => pts_nil) (fun _ _ _ _ _ => (pe_un un_neg (pv 7)))))) (pss_cons (ps_set (i := 2) sc_lines_of.nd rfl (by first | exact Or.inl rfl | exact Or.inr rfl) (pe_slice (sl_K (K := K) rfl) (pv 2) (po_some pe_int) po_none)) (pss_one (ps_set (i := 3) sc_lines_of.nd rfl (by first | exact Or.inl rfl | exact Or.inr rfl) (pe_op (add_K (K := K) rfl) (pe_lc (own := [("upper", 8)]) (g := gName 8) (tt := tYes) rfl sc_lines_of.nd (pi_anyK (K := K) rfl (pv 3)) (blkOk_by (N := n_lines_of) (sc := defScope s_lines_of) (by decide +kernel)) (fun _ _ _ _ _ => pg_name (i := 8) sc_lines_of.nd rfl (by first | exact Or.inl rfl | exact Or.inr rfl)) (fun _ _ _ _ _ => pts_nil) (fun _ _ _ _ _ => (pe_call (ok_less T) (hr.mono (by decide)) rfl T.mg_less T.F_less.kp T.b_less .nil pass0 (pa_cons (pv 8) (pa_cons (pe_op op_fdivW (pe_ix (r := rIx K) (ix_K (K := K) rfl) (pv 8) (pv 4) (fun _ _ => rfl)) (pe_ix (r := rIx K) (ix_K (K := K) rfl) (pv 6) (pv 4) (fun _ _ => rfl))) (pa_cons (pv 6) pa_nil)))))) (pe_lst (pa_cons (pv 6) pa_nil))))))) pss_nil)))) (pss_one (ps_ret (pv 3)))))), ?_⟩
  exact body_O (Ns := n_lines_of) (fS := B_lines_of) h (sim_seq (sim_asg (sim_lc (sim_wAny sim_var) sim_gname sim_yes (sim_cb sim_lstOf (sim_cons sim_var sim_nil)))) (sim_seq (sim_asg (sim_lst sim_nil)) (sim_seq (sim_for (sim_rng1 (sim_cons sim_var sim_nil)) sim_gname (sim_seq (sim_asg (sim_call hE0 (sim_cons sim_var (sim_cons sim_var sim_nil)))) (sim_ifS (sim_and (sim_tru sim_var) (sim_test (sim_op sim_ne (sim_op sim_ix (sim_op sim_ix sim_var sim_int) sim_var) sim_int))) (sim_seq (sim_asg (sim_if (sim_test (sim_op sim_gt (sim_op sim_ix (sim_op sim_ix sim_var sim_int) sim_var) sim_int)) (sim_op sim_ix sim_var sim_int) (sim_lc (sim_wAny (sim_op sim_ix sim_var sim_int)) sim_gname sim_yes (sim_un sim_neg sim_var)))) (sim_seq (sim_asg (sim_sl sim_var (sim_part sim_int) sim_noPart)) (sim_asg (sim_op sim_add (sim_lc (sim_wAny sim_var) sim_gname sim_yes (sim_call hE0 (sim_cons sim_var (sim_cons (sim_op sim_fdiv (sim_op sim_ix sim_var sim_var) (sim_op sim_ix sim_var sim_var)) (sim_cons sim_var sim_nil))))) (sim_lst (sim_cons sim_var sim_nil)))))) sim_next))) (sim_ret sim_var))))
theorem ok_times_for (T : Tx w K mg) (B : Tb T base) : FnOk P w K mg base CX0 6 T.f_times_for T.d_times_for ["rows", "numbers"] (spF K F_times_for) := by
  refine T.F_times_for.ok sc_times_for (fun vs H Q E h => len_O (n := 9) (fS := B_times_for) h) (fun cdv A outer s H vs Q E hr h => ?_)
  refine ⟨_, (pss_cons (ps_set (i := 2) sc_times_for.nd rfl (by first | exact Or.inl rfl | exact Or.inr rfl) (pe_callB (r := DF.rLen K) (len_K rfl) rfl T.n_len boot_len (pa_cons (pv 1) pa_nil))) (pss_cons (ps_setLc (i := 3) (own := [("own", 5), ("row", 6)]) (g := gTup K 2 (gCons (gName 5) (gCons (gName 6) gNil))) (tt := tYes) rfl sc_times_for.nd rfl rfl (sw_true rfl rfl rfl (by decide +kernel)) (pi_enumK (K := K) rfl rfl T.n_enumerate (pa_cons (pv 0) pa_nil)) (blkOk_by (N := n_times_for) (sc := defScope s_times_for) (by decide +kernel)) (fun _ _ _ _ _ => pg_tup rfl (pgs_cons (pg_name (i := 5) sc_times_for.nd rfl (by first | exact Or.inl rfl | exact Or.inr rfl)) (pgs_cons (pg_name (i := 6) sc_times_for.nd rfl (by first | exact Or.inl rfl | exact Or.inr rfl)) pgs_nil))) (fun _ _ _ _ _ => pts_nil) (fun _ _ _ _ _ => (pe_op (add_K (K := K) rfl) (pe_callTy (lstOf_K (K := K) rfl) rfl T.n_list boot_list (pa_cons (pv 6) pa_nil)) (pe_lc (own := [("at", 8)]) (g := gName 8) (tt := tYes) rfl sc_times_for.nd (pi_range1 rfl T.n_range (pa_cons (pe_callB (r := DF.rLen K) (len_K rfl) rfl T.n_len boot_len (pa_cons (pv 0) pa_nil)) pa_nil)) (blkOk_by (by kernel_rfl)) (fun _ _ _ _ _ => pg_name (i := 8) sc_times_for.nd rfl (by first | exact Or.inl rfl | exact Or.inr rfl)) (fun _ _ _ _ _ => pts_nil) (fun _ _ _ _ _ => (pe_callTy call_int rfl T.n_int boot_int (pa_cons (pe_cmpR (eq_K (K := K) rfl (units64 hr)) (pv 8) (pv 5) (nomark _)) pa_nil))))))) (pss_cons (ps_set (i := 4) sc_times_for.nd rfl (by first | exact Or.inl rfl | exact Or.inr rfl) (pe_ix (r := rIx K) (ix_K (K := K) rfl) (pe_call (ok_taken_by_lines T) (hr.mono (by decide)) rfl T.mg_taken_by_lines T.F_taken_by_lines.kp T.b_taken_by_lines .nil pass0 (pa_cons (pe_call (ok_lines_of T B) (hr.mono (by decide)) rfl T.mg_lines_of T.F_lines_of.kp T.b_lines_of .nil pass0 (pa_cons (pv 3) (pa_cons (pv 2) pa_nil))) (pa_cons (pe_op (add_K (K := K) rfl) (pe_callTy (lstOf_K (K := K) rfl) rfl T.n_list boot_list (pa_cons (pv 1) pa_nil)) (pe_op (mul_K (K := K) rfl) (pe_lst (pa_cons pe_int pa_nil)) (pe_callB (r := DF.rLen K) (len_K rfl) rfl T.n_len boot_len (pa_cons (pv 0) pa_nil)))) pa_nil))) pe_int (fun _ _ => rfl))) (pss_cons (ps_if (pt_cmp (pc_notN (pe_call (ok_pivot_place T) (hr.mono (by decide)) rfl T.mg_pivot_place T.F_pivot_place.kp T.b_pivot_place .nil pass0 (pa_cons (pe_slice (sl_K (K := K) rfl) (pv 4) po_none (po_some (pv 2))) pa_nil)))) (pss_one (ps_ret pe_non)) pss_nil) (pss_one (ps_ret (pe_lc (own := [("times", 7)]) (g := gName 7) (tt := tYes) rfl sc_times_for.nd (pi_anyK (K := K) rfl (pe_slice (sl_K (K := K) rfl) (pv 4) (po_some (pv 2)) po_none)) (blkOk_by (N := n_times_for) (sc := defScope s_times_for) (by decide +kernel)) (fun _ _ _ _ _ => pg_name (i := 7) sc_times_for.nd rfl (by first | exact Or.inl rfl | exact Or.inr rfl)) (fun _ _ _ _ _ => pts_nil) (fun _ _ _ _ _ => (pe_un un_neg (pv 7)))))))))), ?_⟩
  exact body_O (Ns := n_times_for) (fS := B_times_for) h (sim_seq (sim_asg (sim_cb sim_len (sim_cons sim_var sim_nil))) (sim_seq (sim_asg (sim_lc (sim_wEnum (sim_cons sim_var sim_nil)) (sim_gtup (sim_gcons sim_gname (sim_gcons sim_gname sim_gnil))) sim_yes (sim_op sim_add (sim_cb sim_lstOf (sim_cons sim_var sim_nil)) (sim_lc (sim_rng1 (sim_cons (sim_cb sim_len (sim_cons sim_var sim_nil)) sim_nil)) sim_gname sim_yes (sim_cb sim_int1 (sim_cons (sim_op sim_eq sim_var sim_var) sim_nil)))))) (sim_seq (sim_asg (sim_op sim_ix (sim_call hE0 (sim_cons (sim_call hE0 (sim_cons sim_var (sim_cons sim_var sim_nil))) (sim_cons (sim_op sim_add (sim_cb sim_lstOf (sim_cons sim_var sim_nil)) (sim_op sim_mul (sim_lst (sim_cons sim_int sim_nil)) (sim_cb sim_len (sim_cons sim_var sim_nil)))) sim_nil))) sim_int)) (sim_seq (sim_ifS (sim_test (sim_notN (sim_call hE0 (sim_cons (sim_sl sim_var sim_noPart (sim_part sim_var)) sim_nil)))) (sim_ret sim_non) sim_next) (sim_ret (sim_lc (sim_wAny (sim_sl sim_var (sim_part sim_var) sim_noPart)) sim_gname sim_yes (sim_un sim_neg sim_var)))))))
theorem ok_Move_area (T : Tx w K mg) : FnOk P w K mg base CX0 1 T.f_Move_area T.d_Move_area ["self"] (spF K F_Move_area) := by
  refine T.F_Move_area.ok sc_Move_area (fun vs H Q E h => len_O (n := 1) (fS := B_Move_area) h) (fun cdv A outer s H vs Q E hr h => ?_)
  refine ⟨_, (pss_one (ps_ret (pe_fldK (K := K) rfl (pv 0) rfl))), ?_⟩
  exact body_O (Ns := n_Move_area) (fS := B_Move_area) h (sim_ret (sim_fld T.ct_Move T.cl_Move T.na_Move__area sim_var))
theorem ok_move_alike (T : Tx w K mg) (B : Tb T base) : FnOk P w K mg base CX0 7 T.f_move_alike T.d_move_alike ["one", "other"] (spF K F_move_alike) := by
  refine T.F_move_alike.ok sc_move_alike (fun vs H Q E h => len_O (n := 3) (fS := B_move_alike) h) (fun cdv A outer s H vs Q E hr h => ?_)
  refine ⟨_, (pss_cons (ps_expr (pe_call (ok_check_moves T) (hr.mono (by decide)) rfl T.mg_check_moves T.F_check_moves.kp T.b_check_moves .nil pass0 (pa_cons (pv 0) (pa_cons (pv 1) pa_nil)))) (pss_cons (ps_if (PW.pt (pw_or (pt_cmpR (ne_K (K := K) rfl (units64 hr)) (pe_prop (pv 0) T.cl_Move T.pr_Move_east (ok_Move_east T) (hr.mono (by decide)) T.b_Move_east .nil pass0 rfl) (pe_prop (pv 1) T.cl_Move T.pr_Move_east (ok_Move_east T) (hr.mono (by decide)) T.b_Move_east .nil pass0 rfl) (nomark _)) (pw_or1 (pt_cmpR (ne_K (K := K) rfl (units64 hr)) (pe_prop (pv 0) T.cl_Move T.pr_Move_north (ok_Move_north T) (hr.mono (by decide)) T.b_Move_north .nil pass0 rfl) (pe_prop (pv 1) T.cl_Move T.pr_Move_north (ok_Move_north T) (hr.mono (by decide)) T.b_Move_north .nil pass0 rfl) (nomark _))))) (pss_one (ps_ret pe_non)) pss_nil) (pss_cons (ps_set (i := 2) sc_move_alike.nd rfl (by first | exact Or.inl rfl | exact Or.inr rfl) (pe_call (ok_times_for T B) (hr.mono (by decide)) rfl T.mg_times_for T.F_times_for.kp T.b_times_for .nil pass0 (pa_cons (pe_lst (pa_cons (pe_tup (pa_cons (pe_prop (pv 0) T.cl_Move T.pr_Move_north (ok_Move_north T) (hr.mono (by decide)) T.b_Move_north .nil pass0 rfl) pa_nil)) (pa_cons (pe_tup (pa_cons (pe_un un_neg (pe_prop (pv 0) T.cl_Move T.pr_Move_east (ok_Move_east T) (hr.mono (by decide)) T.b_Move_east .nil pass0 rfl)) pa_nil)) pa_nil))) (pa_cons (pe_tup (pa_cons (pe_op op_sub (pe_prop (pv 1) T.cl_Move T.pr_Move_area (ok_Move_area T) (hr.mono (by decide)) T.b_Move_area .nil pass0 rfl) (pe_prop (pv 0) T.cl_Move T.pr_Move_area (ok_Move_area T) (hr.mono (by decide)) T.b_Move_area .nil pass0 rfl)) pa_nil)) pa_nil)))) (pss_one (ps_ret (pe_ifExp (pt_cmp (pc_isN (pv 2))) pe_non (pe_make T.mk_Move (ok_Move_init T) (hr.mono (by decide)) rfl T.mg_Move T.b_Move_init .nil pass0 (pa_cons (pe_ix (r := rIx K) (ix_K (K := K) rfl) (pv 2) pe_int (fun _ _ => rfl)) (pa_cons (pe_ix (r := rIx K) (ix_K (K := K) rfl) (pv 2) pe_int (fun _ _ => rfl)) (pa_cons pe_int pa_nil)))))))))), ?_⟩
  exact body_O (Ns := n_move_alike) (fS := B_move_alike) h (sim_seq (sim_drop (sim_call hE0 (sim_cons sim_var (sim_cons sim_var sim_nil)))) (sim_seq (sim_ifS (sim_or (sim_test (sim_op sim_ne (sim_prop T.ct_Move hE0 sim_var) (sim_prop T.ct_Move hE0 sim_var))) (sim_test (sim_op sim_ne (sim_prop T.ct_Move hE0 sim_var) (sim_prop T.ct_Move hE0 sim_var)))) (sim_ret sim_non) sim_next) (sim_seq (sim_asg (sim_call hE0 (sim_cons (sim_lst (sim_cons (sim_tup (sim_cons (sim_prop T.ct_Move hE0 sim_var) sim_nil)) (sim_cons (sim_tup (sim_cons (sim_un sim_neg (sim_prop T.ct_Move hE0 sim_var)) sim_nil)) sim_nil))) (sim_cons (sim_tup (sim_cons (sim_op sim_sub (sim_prop T.ct_Move hE0 sim_var) (sim_prop T.ct_Move hE0 sim_var)) sim_nil)) sim_nil)))) (sim_ret (sim_if (sim_test (sim_isN sim_var)) sim_non (sim_make T.ct_Move hE0 (sim_cons (sim_op sim_ix sim_var sim_int) (sim_cons (sim_op sim_ix sim_var sim_int) (sim_cons sim_int sim_nil)))))))))
theorem kb_move_alike_0_other_one (T : Tx w K mg) : KBn K T.d_move_alike ["one", "other"] 0 ["other", "one"] (fun us ws => permU [1, 0] (us ++ ws)) (fun vs zs => permV [1, 0] (vs ++ zs)) :=
  kbn [1, 0] T.F_move_alike fun kV doc pm an cdv ct us ws h1 h2 => match us, ws, h1, h2 with | [], [_, _], _, _ => rfl
theorem ok_is_move_alike (T : Tx w K mg) (B : Tb T base) : FnOk P w K mg base CX0 8 T.f_is_move_alike T.d_is_move_alike ["one", "other"] (spF K F_is_move_alike) := by
  refine T.F_is_move_alike.ok sc_is_move_alike (fun vs H Q E h => len_O (n := 2) (fS := B_is_move_alike) h) (fun cdv A outer s H vs Q E hr h => ?_)
  refine ⟨_, (pss_one (ps_ret (pe_cmp (pc_notN (pe_call (ok_move_alike T B) (hr.mono (by decide)) rfl T.mg_move_alike T.F_move_alike.kp T.b_move_alike .nil pass0 (pa_cons (pv 0) (pa_cons (pv 1) pa_nil))))))), ?_⟩
  exact body_O (Ns := n_is_move_alike) (fS := B_is_move_alike) h (sim_ret (sim_notN (sim_call hE0 (sim_cons sim_var (sim_cons sim_var sim_nil)))))
theorem kb_is_move_alike_0_other_one (T : Tx w K mg) : KBn K T.d_is_move_alike ["one", "other"] 0 ["other", "one"] (fun us ws => permU [1, 0] (us ++ ws)) (fun vs zs => permV [1, 0] (vs ++ zs)) :=
  kbn [1, 0] T.F_is_move_alike fun kV doc pm an cdv ct us ws h1 h2 => match us, ws, h1, h2 with | [], [_, _], _, _ => rfl
theorem ok_l_three (T : Tx w K mg) : FnOk P w K mg base CX0 3 T.f_l_three T.d_l_three ["_law_made"] (spF K F_l_three) := by
  refine T.F_l_three.ok sc_l_three (fun vs H Q E h => len_O (n := 1) (fS := B_l_three) h) (fun cdv A outer s H vs Q E hr h => ?_)
  refine ⟨_, (pss_one (ps_ret (pe_tup (pa_cons (pe_prop (pv 0) T.cl_Move T.pr_Move_east (ok_Move_east T) (hr.mono (by decide)) T.b_Move_east .nil pass0 rfl) (pa_cons (pe_prop (pv 0) T.cl_Move T.pr_Move_north (ok_Move_north T) (hr.mono (by decide)) T.b_Move_north .nil pass0 rfl) (pa_cons (pe_prop (pv 0) T.cl_Move T.pr_Move_area (ok_Move_area T) (hr.mono (by decide)) T.b_Move_area .nil pass0 rfl) pa_nil)))))), ?_⟩
  exact body_O (Ns := n_l_three) (fS := B_l_three) h (sim_ret (sim_tup (sim_cons (sim_prop T.ct_Move hE0 sim_var) (sim_cons (sim_prop T.ct_Move hE0 sim_var) (sim_cons (sim_prop T.ct_Move hE0 sim_var) sim_nil)))))
theorem ok_cross (T : Tx w K mg) : FnOk P w K mg base CX0 3 T.f_cross T.d_cross ["one", "other"] (spF K F_cross) := by
  refine T.F_cross.ok sc_cross (fun vs H Q E h => len_O (n := 2) (fS := B_cross) h) (fun cdv A outer s H vs Q E hr h => ?_)
  refine ⟨_, (pss_one (ps_ret (pe_op op_sub (pe_op (mul_K (K := K) rfl) (pe_prop (pv 0) T.cl_Move T.pr_Move_east (ok_Move_east T) (hr.mono (by decide)) T.b_Move_east .nil pass0 rfl) (pe_prop (pv 1) T.cl_Move T.pr_Move_north (ok_Move_north T) (hr.mono (by decide)) T.b_Move_north .nil pass0 rfl)) (pe_op (mul_K (K := K) rfl) (pe_prop (pv 1) T.cl_Move T.pr_Move_east (ok_Move_east T) (hr.mono (by decide)) T.b_Move_east .nil pass0 rfl) (pe_prop (pv 0) T.cl_Move T.pr_Move_north (ok_Move_north T) (hr.mono (by decide)) T.b_Move_north .nil pass0 rfl))))), ?_⟩
  exact body_O (Ns := n_cross) (fS := B_cross) h (sim_ret (sim_op sim_sub (sim_op sim_mul (sim_prop T.ct_Move hE0 sim_var) (sim_prop T.ct_Move hE0 sim_var)) (sim_op sim_mul (sim_prop T.ct_Move hE0 sim_var) (sim_prop T.ct_Move hE0 sim_var))))
theorem ok_do_moves_commute (T : Tx w K mg) : FnOk P w K mg base CX0 4 T.f_do_moves_commute T.d_do_moves_commute ["one", "other"] (spF K F_do_moves_commute) := by
  refine T.F_do_moves_commute.ok sc_do_moves_commute (fun vs H Q E h => len_O (n := 2) (fS := B_do_moves_commute) h) (fun cdv A outer s H vs Q E hr h => ?_)
  refine ⟨_, (pss_cons (ps_expr (pe_call (ok_check_moves T) (hr.mono (by decide)) rfl T.mg_check_moves T.F_check_moves.kp T.b_check_moves .nil pass0 (pa_cons (pv 0) (pa_cons (pv 1) pa_nil)))) (pss_one (ps_ret (pe_cmpR (eq_K (K := K) rfl (units64 hr)) (pe_call (ok_cross T) (hr.mono (by decide)) rfl T.mg_cross T.F_cross.kp T.b_cross .nil pass0 (pa_cons (pv 0) (pa_cons (pv 1) pa_nil))) pe_int (nomark _))))), ?_⟩
  exact body_O (Ns := n_do_moves_commute) (fS := B_do_moves_commute) h (sim_seq (sim_drop (sim_call hE0 (sim_cons sim_var (sim_cons sim_var sim_nil)))) (sim_ret (sim_op sim_eq (sim_call hE0 (sim_cons sim_var (sim_cons sim_var sim_nil))) sim_int)))
theorem kb_do_moves_commute_0_other_one (T : Tx w K mg) : KBn K T.d_do_moves_commute ["one", "other"] 0 ["other", "one"] (fun us ws => permU [1, 0] (us ++ ws)) (fun vs zs => permV [1, 0] (vs ++ zs)) :=
  kbn [1, 0] T.F_do_moves_commute fun kV doc pm an cdv ct us ws h1 h2 => match us, ws, h1, h2 with | [], [_, _], _, _ => rfl
theorem ok_l_alike_right (T : Tx w K mg) (B : Tb T base) : FnG P w K mg base CX0 9 T.f_l_alike_right T.d_l_alike_right ["_law_first", "_law_last", "_law_due"] (spF K F_l_alike_right) := by
  refine okG T.F_l_alike_right sc_l_alike_right (fun vs H Q E h => len_O (n := 10) (fS := B_l_alike_right) h) (fun cdv A outer s H vs Q E hr hgd h => ?_)
  refine ⟨_, (pss_cons (ps_par (i := 3) (j := 4) rfl sc_l_alike_right.nd rfl rfl (by decide) rfl rfl (pa_cons (pe_call (ok_l_move T) (hr.mono (by decide)) rfl T.mg_l_move T.F_l_move.kp T.b_l_move .nil pass0 (pa_cons (pv 0) pa_nil)) (pa_cons (pe_call (ok_l_move T) (hr.mono (by decide)) rfl T.mg_l_move T.F_l_move.kp T.b_l_move .nil pass0 (pa_cons (pv 1) pa_nil)) pa_nil)) rfl) (pss_cons (ps_if (pt_cmpR (ne_K (K := K) rfl (units64 hr)) (pe_callB (r := DF.rReprU K) (repr_K rfl hgd (units128 hr)) rfl T.n_repr boot_repr (pa_cons (pe_lst (pa_cons (pe_call (ok_is_move_alike T B) (hr.mono (by decide)) rfl T.mg_is_move_alike T.F_is_move_alike.kp T.b_is_move_alike .nil pass0 (pa_cons (pv 3) (pa_cons (pv 4) pa_nil))) (pa_cons (pe_callN0 (ok_is_move_alike T B) (hr.mono (by decide)) rfl T.mg_is_move_alike T.F_is_move_alike.kp (kb_is_move_alike_0_other_one T) pass0 (pk_cons (pv 3) (pk_cons (pv 4) pk_nil))) pa_nil))) pa_nil)) (pe_callB (r := DF.rReprU K) (repr_K rfl hgd (units128 hr)) rfl T.n_repr boot_repr (pa_cons (pe_lst (pa_cons (pv 2) (pa_cons (pv 2) pa_nil))) pa_nil)) (nomark _)) (pss_one (ps_ret pe_bl)) pss_nil) (pss_cons (ps_set (i := 5) sc_l_alike_right.nd rfl (by first | exact Or.inl rfl | exact Or.inr rfl) (pe_lst (pa_cons (pe_tup (pa_cons (pe_call (ok_move_alike T B) (hr.mono (by decide)) rfl T.mg_move_alike T.F_move_alike.kp T.b_move_alike .nil pass0 (pa_cons (pv 3) (pa_cons (pv 4) pa_nil))) (pa_cons (pv 0) (pa_cons (pv 1) pa_nil)))) (pa_cons (pe_tup (pa_cons (pe_callN0 (ok_move_alike T B) (hr.mono (by decide)) rfl T.mg_move_alike T.F_move_alike.kp (kb_move_alike_0_other_one T) pass0 (pk_cons (pv 3) (pk_cons (pv 4) pk_nil))) (pa_cons (pv 1) (pa_cons (pv 0) pa_nil)))) pa_nil)))) (pss_cons (ps_for PassesOwn.never rfl (pi_anyK (K := K) rfl (pv 5)) (pg_tup rfl (pgs_cons (pg_name (i := 6) sc_l_alike_right.nd rfl (by first | exact Or.inl rfl | exact Or.inr rfl)) (pgs_cons (pg_name (i := 7) sc_l_alike_right.nd rfl (by first | exact Or.inl rfl | exact Or.inr rfl)) (pgs_cons (pg_name (i := 8) sc_l_alike_right.nd rfl (by first | exact Or.inl rfl | exact Or.inr rfl)) pgs_nil)))) (pss_cons (ps_if (pt_cmpR (ne_K (K := K) rfl (units64 hr)) (pe_cmp (pc_notN (pv 6))) (pv 2) (nomark _)) (pss_one (ps_ret pe_bl)) pss_nil) (pss_one (ps_if (PW.pt (pw_and (pt_truthK (K := K) rfl (pv 2) (fun _ => rfl)) (pw_and1 (pt_cmpR (ne_K (K := K) rfl (units64 hr)) (pe_call (ok_l_between T) (hr.mono (by decide)) rfl T.mg_l_between T.F_l_between.kp T.b_l_between .nil pass0 (pa_cons (pe_call (ok_l_three T) (hr.mono (by decide)) rfl T.mg_l_three T.F_l_three.kp T.b_l_three .nil pass0 (pa_cons (pv 6) pa_nil)) (pa_cons (pv 7) pa_nil))) (pv 8) (nomark _))))) (pss_one (ps_ret pe_bl)) pss_nil)))) (pss_cons (ps_set (i := 9) sc_l_alike_right.nd rfl (by first | exact Or.inl rfl | exact Or.inr rfl) (pe_lst (pa_cons (pe_call (ok_do_moves_commute T) (hr.mono (by decide)) rfl T.mg_do_moves_commute T.F_do_moves_commute.kp T.b_do_moves_commute .nil pass0 (pa_cons (pv 3) (pa_cons (pv 4) pa_nil))) (pa_cons (pe_callN0 (ok_do_moves_commute T) (hr.mono (by decide)) rfl T.mg_do_moves_commute T.F_do_moves_commute.kp (kb_do_moves_commute_0_other_one T) pass0 (pk_cons (pv 3) (pk_cons (pv 4) pk_nil))) pa_nil)))) (pss_one (ps_ret (pe_cmpR (eq_K (K := K) rfl (units64 hr)) (pe_callB (r := DF.rReprU K) (repr_K rfl hgd (units128 hr)) rfl T.n_repr boot_repr (pa_cons (pv 9) pa_nil)) (pe_callB (r := DF.rReprU K) (repr_K rfl hgd (units128 hr)) rfl T.n_repr boot_repr (pa_cons (pe_op (mul_K (K := K) rfl) (pe_lst (pa_cons (pe_cmpR (eq_K (K := K) rfl (units64 hr)) (pe_call (ok_l_put T) (hr.mono (by decide)) rfl T.mg_l_put T.F_l_put.kp T.b_l_put .nil pass0 (pa_cons (pv 0) (pa_cons (pv 1) pa_nil))) (pe_call (ok_l_put T) (hr.mono (by decide)) rfl T.mg_l_put T.F_l_put.kp T.b_l_put .nil pass0 (pa_cons (pv 1) (pa_cons (pv 0) pa_nil))) (nomark _)) pa_nil)) pe_int) pa_nil)) (nomark _))))))))), ?_⟩
  exact body_O (Ns := n_l_alike_right) (fS := B_l_alike_right) h (sim_seq (sim_par (sim_cons (sim_call hE0 (sim_cons sim_var sim_nil)) (sim_cons (sim_call hE0 (sim_cons sim_var sim_nil)) sim_nil))) (sim_seq (sim_ifS (sim_test (sim_op sim_ne (sim_cb sim_repr (sim_cons (sim_lst (sim_cons (sim_call hE0 (sim_cons sim_var (sim_cons sim_var sim_nil))) (sim_cons (sim_callN hE0 sim_nil (sim_cons sim_var (sim_cons sim_var sim_nil))) sim_nil))) sim_nil)) (sim_cb sim_repr (sim_cons (sim_lst (sim_cons sim_var (sim_cons sim_var sim_nil))) sim_nil)))) (sim_ret sim_bl) sim_next) (sim_seq (sim_asg (sim_lst (sim_cons (sim_tup (sim_cons (sim_call hE0 (sim_cons sim_var (sim_cons sim_var sim_nil))) (sim_cons sim_var (sim_cons sim_var sim_nil)))) (sim_cons (sim_tup (sim_cons (sim_callN hE0 sim_nil (sim_cons sim_var (sim_cons sim_var sim_nil))) (sim_cons sim_var (sim_cons sim_var sim_nil)))) sim_nil)))) (sim_seq (sim_for (sim_wAny sim_var) (sim_gtup (sim_gcons sim_gname (sim_gcons sim_gname (sim_gcons sim_gname sim_gnil)))) (sim_seq (sim_ifS (sim_test (sim_op sim_ne (sim_notN sim_var) sim_var)) (sim_ret sim_bl) sim_next) (sim_ifS (sim_and (sim_tru sim_var) (sim_test (sim_op sim_ne (sim_call hE0 (sim_cons (sim_call hE0 (sim_cons sim_var sim_nil)) (sim_cons sim_var sim_nil))) sim_var))) (sim_ret sim_bl) sim_next))) (sim_seq (sim_asg (sim_lst (sim_cons (sim_call hE0 (sim_cons sim_var (sim_cons sim_var sim_nil))) (sim_cons (sim_callN hE0 sim_nil (sim_cons sim_var (sim_cons sim_var sim_nil))) sim_nil)))) (sim_ret (sim_op sim_eq (sim_cb sim_repr (sim_cons sim_var sim_nil)) (sim_cb sim_repr (sim_cons (sim_op sim_mul (sim_lst (sim_cons (sim_op sim_eq (sim_call hE0 (sim_cons sim_var (sim_cons sim_var sim_nil))) (sim_call hE0 (sim_cons sim_var (sim_cons sim_var sim_nil)))) sim_nil)) sim_int) sim_nil)))))))))
theorem ok_l_are_alike (T : Tx w K mg) : FnOk P w K mg base CX0 3 T.f_l_are_alike T.d_l_are_alike ["_law_first", "_law_last"] (spF K F_l_are_alike) := by
  refine T.F_l_are_alike.ok sc_l_are_alike (fun vs H Q E h => len_O (n := 4) (fS := B_l_are_alike) h) (fun cdv A outer s H vs Q E hr h => ?_)
  refine ⟨_, (pss_cons (ps_if (pt_cmpR (ne_K (K := K) rfl (units64 hr)) (pe_slice (sl_K (K := K) rfl) (pv 0) po_none (po_some pe_int)) (pe_slice (sl_K (K := K) rfl) (pv 1) po_none (po_some pe_int)) (nomark _)) (pss_one (ps_ret pe_bl)) pss_nil) (pss_cons (ps_for PassesOwn.never rfl (pi_range2 rfl T.n_range (pa_cons (pe_un un_neg pe_int) (pa_cons pe_int pa_nil))) (pg_name (i := 2) sc_l_are_alike.nd rfl (by first | exact Or.inl rfl | exact Or.inr rfl)) (pss_one (ps_if (pt_cmpR (ne_K (K := K) rfl (units64 hr)) (pe_lc (own := [("_law_y", 3)]) (g := gName 3) (tt := _) rfl sc_l_are_alike.nd (pi_range2 rfl T.n_range (pa_cons (pe_un un_neg pe_int) (pa_cons pe_int pa_nil))) (blkOk_by (N := n_l_are_alike) (sc := defScope s_l_are_alike) (by decide +kernel)) (fun _ _ _ _ _ => pg_name (i := 3) sc_l_are_alike.nd rfl (by first | exact Or.inl rfl | exact Or.inr rfl)) (fun _ _ _ _ _ => pts_one (pt_cmpR (eq_K (K := K) rfl (units64 hr)) (pe_call (ok_l_between T) (hr.mono (by decide)) rfl T.mg_l_between T.F_l_between.kp T.b_l_between .nil pass0 (pa_cons (pe_tup (pa_cons (pv 2) (pa_cons (pv 3) (pa_cons pe_int pa_nil)))) (pa_cons (pv 0) pa_nil))) (pv 1) (nomark _))) (fun _ _ _ _ _ => (pv 3))) (pe_lst pa_nil) (nomark _)) (pss_one (ps_ret pe_bl)) pss_nil))) (pss_one (ps_ret pe_bl)))), ?_⟩
  exact body_O (Ns := n_l_are_alike) (fS := B_l_are_alike) h (sim_seq (sim_ifS (sim_test (sim_op sim_ne (sim_sl sim_var sim_noPart (sim_part sim_int)) (sim_sl sim_var sim_noPart (sim_part sim_int)))) (sim_ret sim_bl) sim_next) (sim_seq (sim_for (sim_rng2 (sim_cons (sim_un sim_neg sim_int) (sim_cons sim_int sim_nil))) sim_gname (sim_ifS (sim_test (sim_op sim_ne (sim_lc (sim_rng2 (sim_cons (sim_un sim_neg sim_int) (sim_cons sim_int sim_nil))) sim_gname (sim_test (sim_op sim_eq (sim_call hE0 (sim_cons (sim_tup (sim_cons sim_var (sim_cons sim_var (sim_cons sim_int sim_nil)))) (sim_cons sim_var sim_nil))) sim_var)) sim_var) (sim_lst sim_nil))) (sim_ret sim_bl) sim_next)) (sim_ret sim_bl)))
theorem ok_l_power (T : Tx w K mg) : FnOk P w K mg base CX0 2 T.f_l_power T.d_l_power ["_law_trip_here", "_law_count"] (spF K F_l_power) := by
  refine T.F_l_power.ok sc_l_power (fun vs H Q E h => len_O (n := 7) (fS := B_l_power) h) (fun cdv A outer s H vs Q E hr h => ?_)
  refine ⟨_, (pss_cons (ps_par3 (i := 2) (j := 3) (l := 4) rfl sc_l_power.nd rfl rfl rfl (by decide) (by decide) (by decide) rfl rfl rfl (pa_cons (pe_ifExp (pt_cmpR op_ge (pv 1) pe_int (nomark _)) (pv 0) (pe_call (ok_l_off T) (hr.mono (by decide)) rfl T.mg_l_off T.F_l_off.kp T.b_l_off .nil pass0 (pa_cons (pv 0) pa_nil))) (pa_cons (pe_tup (pa_cons pe_int (pa_cons pe_int (pa_cons pe_int pa_nil)))) (pa_cons (pe_callB call_abs rfl T.n_abs boot_abs (pa_cons (pv 1) pa_nil)) pa_nil))) rfl) (pss_cons (ps_for PassesOwn.never rfl (pi_range1 rfl T.n_range (pa_cons pe_int pa_nil)) (pg_name (i := 5) sc_l_power.nd rfl (by first | exact Or.inl rfl | exact Or.inr rfl)) (pss_cons (ps_if (pt_cmpR (eq_K (K := K) rfl (units64 hr)) (pv 4) pe_int (nomark _)) (pss_one ps_break) pss_nil) (pss_cons (ps_asg (pe_callB call_divmod rfl T.n_divmod boot_divmod (pa_cons (pv 4) (pa_cons pe_int pa_nil))) (pg_tup rfl (pgs_cons (pg_name (i := 4) sc_l_power.nd rfl (by first | exact Or.inl rfl | exact Or.inr rfl)) (pgs_cons (pg_name (i := 6) sc_l_power.nd rfl (by first | exact Or.inl rfl | exact Or.inr rfl)) pgs_nil)))) (pss_cons (ps_set (i := 3) sc_l_power.nd rfl (by first | exact Or.inl rfl | exact Or.inr rfl) (pe_ifExp (pt_cmpR (eq_K (K := K) rfl (units64 hr)) (pv 6) pe_int (nomark _)) (pe_call (ok_l_put T) (hr.mono (by decide)) rfl T.mg_l_put T.F_l_put.kp T.b_l_put .nil pass0 (pa_cons (pv 3) (pa_cons (pv 2) pa_nil))) (pv 3))) (pss_one (ps_set (i := 2) sc_l_power.nd rfl (by first | exact Or.inl rfl | exact Or.inr rfl) (pe_call (ok_l_put T) (hr.mono (by decide)) rfl T.mg_l_put T.F_l_put.kp T.b_l_put .nil pass0 (pa_cons (pv 2) (pa_cons (pv 2) pa_nil))))))))) (pss_one (ps_ret (pv 3))))), ?_⟩
  exact body_O (Ns := n_l_power) (fS := B_l_power) h (sim_seq (sim_par3 (sim_cons (sim_if (sim_test (sim_op sim_ge sim_var sim_int)) sim_var (sim_call hE0 (sim_cons sim_var sim_nil))) (sim_cons (sim_tup (sim_cons sim_int (sim_cons sim_int (sim_cons sim_int sim_nil)))) (sim_cons (sim_cb sim_abs (sim_cons sim_var sim_nil)) sim_nil)))) (sim_seq (sim_for (sim_rng1 (sim_cons sim_int sim_nil)) sim_gname (sim_seq (sim_ifS (sim_test (sim_op sim_eq sim_var sim_int)) sim_brk sim_next) (sim_seq (sim_asgG (sim_cb sim_divmod (sim_cons sim_var (sim_cons sim_int sim_nil))) (sim_gtup (sim_gcons sim_gname (sim_gcons sim_gname sim_gnil)))) (sim_seq (sim_asg (sim_if (sim_test (sim_op sim_eq sim_var sim_int)) (sim_call hE0 (sim_cons sim_var (sim_cons sim_var sim_nil))) sim_var)) (sim_asg (sim_call hE0 (sim_cons sim_var (sim_cons sim_var sim_nil)))))))) (sim_ret sim_var)))
theorem ok_check_degree (T : Tx w K mg) : FnOk P w K mg base CX0 2 T.f_check_degree T.d_check_degree ["value"] (spF K F_check_degree) := by
  refine T.F_check_degree.ok sc_check_degree (fun vs H Q E h => len_O (n := 1) (fS := B_check_degree) h) (fun cdv A outer s H vs Q E hr h => ?_)
  refine ⟨_, (pss_one (ps_if (PW.pt (pw_or (pt_not (pt_truthK (K := K) rfl (pe_call (ok_is_integer T) (hr.mono (by decide)) rfl T.mg_is_integer T.F_is_integer.kp T.b_is_integer .nil pass0 (pa_cons (pv 0) pa_nil)) (fun _ => rfl))) (pw_or1 (pt_cmpR op_ltU (pv 0) pe_int (nomark _))))) (pss_one ps_never) pss_nil)), ?_⟩
  exact body_O (Ns := n_check_degree) (fS := B_check_degree) h (sim_ifS (sim_or (sim_not (sim_tru (sim_call hE0 (sim_cons sim_var sim_nil)))) (sim_test (sim_op sim_lt sim_var sim_int))) sim_never sim_next)
theorem ok_area_often (T : Tx w K mg) : FnOk P w K mg base CX0 1 T.f_area_often T.d_area_often ["east", "north", "area", "times"] (spF K F_area_often) := by
  refine T.F_area_often.ok sc_area_often (fun vs H Q E h => len_O (n := 4) (fS := B_area_often) h) (fun cdv A outer s H vs Q E hr h => ?_)
  refine ⟨_, (pss_one (ps_ret (pe_op (add_K (K := K) rfl) (pe_op (mul_K (K := K) rfl) (pv 3) (pv 2)) (pe_op (mul_K (K := K) rfl) (pe_op (mul_K (K := K) rfl) (pe_op op_fdivW (pe_op (mul_K (K := K) rfl) (pv 3) (pe_op op_sub (pv 3) pe_int)) pe_int) (pv 0)) (pv 1))))), ?_⟩
  exact body_O (Ns := n_area_often) (fS := B_area_often) h (sim_ret (sim_op sim_add (sim_op sim_mul sim_var sim_var) (sim_op sim_mul (sim_op sim_mul (sim_op sim_fdiv (sim_op sim_mul sim_var (sim_op sim_sub sim_var sim_int)) sim_int) sim_var) sim_var)))
theorem ok_move_root (T : Tx w K mg) : FnOk P w K mg base CX0 5 T.f_move_root T.d_move_root ["one", "degree"] (spF K F_move_root) := by
  refine T.F_move_root.ok sc_move_root (fun vs H Q E h => len_O (n := 5) (fS := B_move_root) h) (fun cdv A outer s H vs Q E hr h => ?_)
  refine ⟨_, (pss_cons (ps_expr (pe_call (ok_check_move T) (hr.mono (by decide)) rfl T.mg_check_move T.F_check_move.kp T.b_check_move .nil pass0 (pa_cons (pv 0) pa_nil))) (pss_cons (ps_expr (pe_call (ok_check_degree T) (hr.mono (by decide)) rfl T.mg_check_degree T.F_check_degree.kp T.b_check_degree .nil pass0 (pa_cons (pv 1) pa_nil))) (pss_cons (ps_if (PW.pt (pw_or (pt_cmpR (ne_K (K := K) rfl (units64 hr)) (pe_op op_mod (pe_prop (pv 0) T.cl_Move T.pr_Move_east (ok_Move_east T) (hr.mono (by decide)) T.b_Move_east .nil pass0 rfl) (pv 1)) pe_int (nomark _)) (pw_or1 (pt_cmpR (ne_K (K := K) rfl (units64 hr)) (pe_op op_mod (pe_prop (pv 0) T.cl_Move T.pr_Move_north (ok_Move_north T) (hr.mono (by decide)) T.b_Move_north .nil pass0 rfl) (pv 1)) pe_int (nomark _))))) (pss_one (ps_ret pe_non)) pss_nil) (pss_cons (ps_set (i := 2) sc_move_root.nd rfl (by first | exact Or.inl rfl | exact Or.inr rfl) (pe_op op_fdivW (pe_prop (pv 0) T.cl_Move T.pr_Move_east (ok_Move_east T) (hr.mono (by decide)) T.b_Move_east .nil pass0 rfl) (pv 1))) (pss_cons (ps_set (i := 3) sc_move_root.nd rfl (by first | exact Or.inl rfl | exact Or.inr rfl) (pe_op op_fdivW (pe_prop (pv 0) T.cl_Move T.pr_Move_north (ok_Move_north T) (hr.mono (by decide)) T.b_Move_north .nil pass0 rfl) (pv 1))) (pss_cons (ps_set (i := 4) sc_move_root.nd rfl (by first | exact Or.inl rfl | exact Or.inr rfl) (pe_op op_sub (pe_prop (pv 0) T.cl_Move T.pr_Move_area (ok_Move_area T) (hr.mono (by decide)) T.b_Move_area .nil pass0 rfl) (pe_call (ok_area_often T) (hr.mono (by decide)) rfl T.mg_area_often T.F_area_often.kp T.b_area_often .nil pass0 (pa_cons (pv 2) (pa_cons (pv 3) (pa_cons pe_int (pa_cons (pv 1) pa_nil))))))) (pss_one (ps_ret (pe_ifExp (pt_truthK (K := K) rfl (pe_op op_mod (pv 4) (pv 1)) (fun _ => rfl)) pe_non (pe_make T.mk_Move (ok_Move_init T) (hr.mono (by decide)) rfl T.mg_Move T.b_Move_init .nil pass0 (pa_cons (pv 2) (pa_cons (pv 3) (pa_cons (pe_op op_fdivW (pv 4) (pv 1)) pa_nil))))))))))))), ?_⟩
  exact body_O (Ns := n_move_root) (fS := B_move_root) h (sim_seq (sim_drop (sim_call hE0 (sim_cons sim_var sim_nil))) (sim_seq (sim_drop (sim_call hE0 (sim_cons sim_var sim_nil))) (sim_seq (sim_ifS (sim_or (sim_test (sim_op sim_ne (sim_op sim_mod (sim_prop T.ct_Move hE0 sim_var) sim_var) sim_int)) (sim_test (sim_op sim_ne (sim_op sim_mod (sim_prop T.ct_Move hE0 sim_var) sim_var) sim_int))) (sim_ret sim_non) sim_next) (sim_seq (sim_asg (sim_op sim_fdiv (sim_prop T.ct_Move hE0 sim_var) sim_var)) (sim_seq (sim_asg (sim_op sim_fdiv (sim_prop T.ct_Move hE0 sim_var) sim_var)) (sim_seq (sim_asg (sim_op sim_sub (sim_prop T.ct_Move hE0 sim_var) (sim_call hE0 (sim_cons sim_var (sim_cons sim_var (sim_cons sim_int (sim_cons sim_var sim_nil))))))) (sim_ret (sim_if (sim_tru (sim_op sim_mod sim_var sim_var)) sim_non (sim_make T.ct_Move hE0 (sim_cons sim_var (sim_cons sim_var (sim_cons (sim_op sim_fdiv sim_var sim_var) sim_nil))))))))))))
theorem kb_move_root_0_degree_one (T : Tx w K mg) : KBn K T.d_move_root ["one", "degree"] 0 ["degree", "one"] (fun us ws => permU [1, 0] (us ++ ws)) (fun vs zs => permV [1, 0] (vs ++ zs)) :=
  kbn [1, 0] T.F_move_root fun kV doc pm an cdv ct us ws h1 h2 => match us, ws, h1, h2 with | [], [_, _], _, _ => rfl
theorem ok_l_has_root (T : Tx w K mg) : FnOk P w K mg base CX0 3 T.f_l_has_root T.d_l_has_root ["_law_trip_here", "_law_level"] (spF K F_l_has_root) := by
  refine T.F_l_has_root.ok sc_l_has_root (fun vs H Q E h => len_O (n := 5) (fS := B_l_has_root) h) (fun cdv A outer s H vs Q E hr h => ?_)
  refine ⟨_, (pss_cons (ps_for PassesOwn.never rfl (pi_range2 rfl T.n_range (pa_cons (pe_un un_neg pe_int) (pa_cons pe_int pa_nil))) (pg_name (i := 2) sc_l_has_root.nd rfl (by first | exact Or.inl rfl | exact Or.inr rfl)) (pss_one (ps_for PassesOwn.never rfl (pi_range2 rfl T.n_range (pa_cons (pe_un un_neg pe_int) (pa_cons pe_int pa_nil))) (pg_name (i := 3) sc_l_has_root.nd rfl (by first | exact Or.inl rfl | exact Or.inr rfl)) (pss_one (ps_if (PW.pt (pw_and (pt_cmpR (eq_K (K := K) rfl (units64 hr)) (pe_op (mul_K (K := K) rfl) (pv 2) (pv 1)) (pe_ix (r := rIx K) (ix_K (K := K) rfl) (pv 0) pe_int (fun _ _ => rfl)) (nomark _)) (pw_and1 (pt_cmpR (eq_K (K := K) rfl (units64 hr)) (pe_op (mul_K (K := K) rfl) (pv 3) (pv 1)) (pe_ix (r := rIx K) (ix_K (K := K) rfl) (pv 0) pe_int (fun _ _ => rfl)) (nomark _))))) (pss_one (ps_ret (pe_cmpR (ne_K (K := K) rfl (units64 hr)) (pe_lc (own := [("_law_s", 4)]) (g := gName 4) (tt := _) rfl sc_l_has_root.nd (pi_range2 rfl T.n_range (pa_cons (pe_un un_neg pe_int) (pa_cons pe_int pa_nil))) (blkOk_by (N := n_l_has_root) (sc := defScope s_l_has_root) (by decide +kernel)) (fun _ _ _ _ _ => pg_name (i := 4) sc_l_has_root.nd rfl (by first | exact Or.inl rfl | exact Or.inr rfl)) (fun _ _ _ _ _ => pts_one (pt_cmpR (eq_K (K := K) rfl (units64 hr)) (pe_call (ok_l_power T) (hr.mono (by decide)) rfl T.mg_l_power T.F_l_power.kp T.b_l_power .nil pass0 (pa_cons (pe_tup (pa_cons (pv 2) (pa_cons (pv 3) (pa_cons (pv 4) pa_nil)))) (pa_cons (pv 1) pa_nil))) (pv 0) (nomark _))) (fun _ _ _ _ _ => (pv 4))) (pe_lst pa_nil) (nomark _)))) pss_nil))))) (pss_one (ps_ret pe_bl))), ?_⟩
  exact body_O (Ns := n_l_has_root) (fS := B_l_has_root) h (sim_seq (sim_for (sim_rng2 (sim_cons (sim_un sim_neg sim_int) (sim_cons sim_int sim_nil))) sim_gname (sim_for (sim_rng2 (sim_cons (sim_un sim_neg sim_int) (sim_cons sim_int sim_nil))) sim_gname (sim_ifS (sim_and (sim_test (sim_op sim_eq (sim_op sim_mul sim_var sim_var) (sim_op sim_ix sim_var sim_int))) (sim_test (sim_op sim_eq (sim_op sim_mul sim_var sim_var) (sim_op sim_ix sim_var sim_int)))) (sim_ret (sim_op sim_ne (sim_lc (sim_rng2 (sim_cons (sim_un sim_neg sim_int) (sim_cons sim_int sim_nil))) sim_gname (sim_test (sim_op sim_eq (sim_call hE0 (sim_cons (sim_tup (sim_cons sim_var (sim_cons sim_var (sim_cons sim_var sim_nil)))) (sim_cons sim_var sim_nil))) sim_var)) sim_var) (sim_lst sim_nil))) sim_next))) (sim_ret sim_bl))
theorem ok_triple_of (T : Tx w K mg) : FnOk P w K mg base CX0 3 T.f_triple_of T.d_triple_of ["move"] (spF K F_triple_of) := by
  refine T.F_triple_of.ok sc_triple_of (fun vs H Q E h => len_O (n := 1) (fS := B_triple_of) h) (fun cdv A outer s H vs Q E hr h => ?_)
  refine ⟨_, (pss_one (ps_ret (pe_tup (pa_cons (pe_prop (pv 0) T.cl_Move T.pr_Move_east (ok_Move_east T) (hr.mono (by decide)) T.b_Move_east .nil pass0 rfl) (pa_cons (pe_prop (pv 0) T.cl_Move T.pr_Move_north (ok_Move_north T) (hr.mono (by decide)) T.b_Move_north .nil pass0 rfl) (pa_cons (pe_prop (pv 0) T.cl_Move T.pr_Move_area (ok_Move_area T) (hr.mono (by decide)) T.b_Move_area .nil pass0 rfl) pa_nil)))))), ?_⟩
  exact body_O (Ns := n_triple_of) (fS := B_triple_of) h (sim_ret (sim_tup (sim_cons (sim_prop T.ct_Move hE0 sim_var) (sim_cons (sim_prop T.ct_Move hE0 sim_var) (sim_cons (sim_prop T.ct_Move hE0 sim_var) sim_nil)))))
theorem ok_Move_eq (T : Tx w K mg) : FnOk P w K mg base CX0 4 T.f_Move_eq T.d_Move_eq ["self", "other"] (spF K F_Move_eq) := by
  refine T.F_Move_eq.ok sc_Move_eq (fun vs H Q E h => len_O (n := 2) (fS := B_Move_eq) h) (fun cdv A outer s H vs Q E hr h => ?_)
  refine ⟨_, (pss_one (ps_ret (pe_and (pe_callB (r := rIsi K) (isi_K rfl) rfl T.n_isinstance boot_isinstance (pa_cons (pv 1) (pa_cons (pe_glob (v := .ref T.C_Move) rfl T.mg_Move rfl) pa_nil))) (pe_one (pe_cmpR (eq_K (K := K) rfl (units64 hr)) (pe_call (ok_triple_of T) (hr.mono (by decide)) rfl T.mg_triple_of T.F_triple_of.kp T.b_triple_of .nil pass0 (pa_cons (pv 0) pa_nil)) (pe_call (ok_triple_of T) (hr.mono (by decide)) rfl T.mg_triple_of T.F_triple_of.kp T.b_triple_of .nil pass0 (pa_cons (pv 1) pa_nil)) (nomark _)))))), ?_⟩
  exact body_O (Ns := n_Move_eq) (fS := B_Move_eq) h (sim_ret (sim_andV (sim_cb (sim_isi (isiT T)) (sim_cons sim_var (sim_cons (sim_cls T.ct_Move) sim_nil))) (sim_op sim_eq (sim_call hE0 (sim_cons sim_var sim_nil)) (sim_call hE0 (sim_cons sim_var sim_nil)))))
theorem ok_l_roots_right (T : Tx w K mg) : FnOk P w K mg base CX0 6 T.f_l_roots_right T.d_l_roots_right ["_law_reel_here"] (spF K F_l_roots_right) := by
  refine T.F_l_roots_right.ok sc_l_roots_right (fun vs H Q E h => len_O (n := 10) (fS := B_l_roots_right) h) (fun cdv A outer s H vs Q E hr h => ?_)
  refine ⟨_, (pss_cons (ps_set (i := 1) sc_l_roots_right.nd rfl (by first | exact Or.inl rfl | exact Or.inr rfl) (pe_op (add_K (K := K) rfl) pe_int (pe_call (ok_l_wind T) (hr.mono (by decide)) rfl T.mg_l_wind T.F_l_wind.kp T.b_l_wind .nil pass0 (pa_cons (pv 0) (pa_cons pe_int pa_nil))))) (pss_cons (ps_set (i := 2) sc_l_roots_right.nd rfl (by first | exact Or.inl rfl | exact Or.inr rfl) (pe_call (ok_l_one_of T) (hr.mono (by decide)) rfl T.mg_l_one_of T.F_l_one_of.kp T.b_l_one_of .nil pass0 (pa_cons (pv 0) (pa_cons (pe_lst (pa_cons (pe_call (ok_l_trip T) (hr.mono (by decide)) rfl T.mg_l_trip T.F_l_trip.kp T.b_l_trip .nil pass0 (pa_cons (pv 0) (pa_cons pe_int pa_nil))) (pa_cons (pe_call (ok_l_power T) (hr.mono (by decide)) rfl T.mg_l_power T.F_l_power.kp T.b_l_power .nil pass0 (pa_cons (pe_call (ok_l_trip T) (hr.mono (by decide)) rfl T.mg_l_trip T.F_l_trip.kp T.b_l_trip .nil pass0 (pa_cons (pv 0) (pa_cons pe_int pa_nil))) (pa_cons (pv 1) pa_nil))) pa_nil))) pa_nil)))) (pss_cons (ps_set (i := 3) sc_l_roots_right.nd rfl (by first | exact Or.inl rfl | exact Or.inr rfl) (pe_lst (pa_cons (pe_call (ok_move_root T) (hr.mono (by decide)) rfl T.mg_move_root T.F_move_root.kp T.b_move_root .nil pass0 (pa_cons (pe_call (ok_l_move T) (hr.mono (by decide)) rfl T.mg_l_move T.F_l_move.kp T.b_l_move .nil pass0 (pa_cons (pv 2) pa_nil)) (pa_cons (pv 1) pa_nil))) (pa_cons (pe_callN0 (ok_move_root T) (hr.mono (by decide)) rfl T.mg_move_root T.F_move_root.kp (kb_move_root_0_degree_one T) pass0 (pk_cons (pv 1) (pk_cons (pe_call (ok_l_move T) (hr.mono (by decide)) rfl T.mg_l_move T.F_l_move.kp T.b_l_move .nil pass0 (pa_cons (pv 2) pa_nil)) pk_nil))) pa_nil)))) (pss_cons (ps_set (i := 4) sc_l_roots_right.nd rfl (by first | exact Or.inl rfl | exact Or.inr rfl) (pe_call (ok_l_has_root T) (hr.mono (by decide)) rfl T.mg_l_has_root T.F_l_has_root.kp T.b_l_has_root .nil pass0 (pa_cons (pv 2) (pa_cons (pv 1) pa_nil)))) (pss_cons (ps_if (pt_cmpR (DF.OpR.or (ne_K (K := K) rfl (units64 hr)) (neI_K (K := K) rfl T.eqC_Move (ok_Move_eq T) T.b_Move_eq (hr.mono (by decide)))) (pe_lc (own := [("_law_each", 8)]) (g := gName 8) (tt := tYes) rfl sc_l_roots_right.nd (pi_anyK (K := K) rfl (pv 3)) (blkOk_by (N := n_l_roots_right) (sc := defScope s_l_roots_right) (by decide +kernel)) (fun _ _ _ _ _ => pg_name (i := 8) sc_l_roots_right.nd rfl (by first | exact Or.inl rfl | exact Or.inr rfl)) (fun _ _ _ _ _ => pts_nil) (fun _ _ _ _ _ => (pe_cmp (pc_notN (pv 8))))) (pe_lst (pa_cons (pv 4) (pa_cons (pv 4) pa_nil))) (nomark _)) (pss_one (ps_ret pe_bl)) pss_nil) (pss_cons (ps_if (pt_truthK (K := K) rfl (pv 4) (fun _ => rfl)) (pss_one (ps_if (pt_cmpR (DF.OpR.or (ne_K (K := K) rfl (units64 hr)) (neI_K (K := K) rfl T.eqC_Move (ok_Move_eq T) T.b_Move_eq (hr.mono (by decide)))) (pe_lc (own := [("_law_each", 8)]) (g := gName 8) (tt := tYes) rfl sc_l_roots_right.nd (pi_anyK (K := K) rfl (pv 3)) (blkOk_by (N := n_l_roots_right) (sc := defScope s_l_roots_right) (by decide +kernel)) (fun _ _ _ _ _ => pg_name (i := 8) sc_l_roots_right.nd rfl (by first | exact Or.inl rfl | exact Or.inr rfl)) (fun _ _ _ _ _ => pts_nil) (fun _ _ _ _ _ => (pe_call (ok_l_power T) (hr.mono (by decide)) rfl T.mg_l_power T.F_l_power.kp T.b_l_power .nil pass0 (pa_cons (pe_call (ok_l_three T) (hr.mono (by decide)) rfl T.mg_l_three T.F_l_three.kp T.b_l_three .nil pass0 (pa_cons (pv 8) pa_nil)) (pa_cons (pv 1) pa_nil))))) (pe_lst (pa_cons (pv 2) (pa_cons (pv 2) pa_nil))) (nomark _)) (pss_one (ps_ret pe_bl)) pss_nil)) pss_nil) (pss_cons (ps_par (i := 5) (j := 6) rfl sc_l_roots_right.nd rfl rfl (by decide) rfl rfl (pa_cons (pe_callTy (tupOf_K (K := K) rfl) rfl T.n_tuple boot_tuple (pa_cons (pe_lc (own := [("_law_number", 9)]) (g := gName 9) (tt := tYes) rfl sc_l_roots_right.nd (pi_anyK (K := K) rfl (pe_call (ok_l_trip T) (hr.mono (by decide)) rfl T.mg_l_trip T.F_l_trip.kp T.b_l_trip .nil pass0 (pa_cons (pv 0) (pa_cons pe_int pa_nil)))) (blkOk_by (N := n_l_roots_right) (sc := defScope s_l_roots_right) (by decide +kernel)) (fun _ _ _ _ _ => pg_name (i := 9) sc_l_roots_right.nd rfl (by first | exact Or.inl rfl | exact Or.inr rfl)) (fun _ _ _ _ _ => pts_nil) (fun _ _ _ _ _ => (pe_op (add_K (K := K) rfl) (pe_op (mul_K (K := K) rfl) (pv 9) (pe_op op_pow pe_int pe_int)) pe_int))) pa_nil)) (pa_cons (pe_op (add_K (K := K) rfl) (pe_op op_pow pe_int pe_int) (pe_call (ok_l_wind T) (hr.mono (by decide)) rfl T.mg_l_wind T.F_l_wind.kp T.b_l_wind .nil pass0 (pa_cons (pv 0) (pa_cons pe_int pa_nil)))) pa_nil)) rfl) (pss_cons (ps_set (i := 7) sc_l_roots_right.nd rfl (by first | exact Or.inl rfl | exact Or.inr rfl) (pe_call (ok_l_power T) (hr.mono (by decide)) rfl T.mg_l_power T.F_l_power.kp T.b_l_power .nil pass0 (pa_cons (pv 5) (pa_cons (pv 6) pa_nil)))) (pss_cons (ps_if (pt_cmpR (DF.OpR.or (ne_K (K := K) rfl (units64 hr)) (neI_K (K := K) rfl T.eqC_Move (ok_Move_eq T) T.b_Move_eq (hr.mono (by decide)))) (pe_call (ok_move_root T) (hr.mono (by decide)) rfl T.mg_move_root T.F_move_root.kp T.b_move_root .nil pass0 (pa_cons (pe_call (ok_l_move T) (hr.mono (by decide)) rfl T.mg_l_move T.F_l_move.kp T.b_l_move .nil pass0 (pa_cons (pv 7) pa_nil)) (pa_cons (pv 6) pa_nil))) (pe_call (ok_l_move T) (hr.mono (by decide)) rfl T.mg_l_move T.F_l_move.kp T.b_l_move .nil pass0 (pa_cons (pv 5) pa_nil)) (nomark _)) (pss_one (ps_ret pe_bl)) pss_nil) (pss_cons (ps_if (pt_cmp (pc_notN (pe_call (ok_move_root T) (hr.mono (by decide)) rfl T.mg_move_root T.F_move_root.kp T.b_move_root .nil pass0 (pa_cons (pe_call (ok_l_move T) (hr.mono (by decide)) rfl T.mg_l_move T.F_l_move.kp T.b_l_move .nil pass0 (pa_cons (pe_op (add_K (K := K) rfl) (pe_slice (sl_K (K := K) rfl) (pv 7) po_none (po_some pe_int)) (pe_tup (pa_cons (pe_op (add_K (K := K) rfl) (pe_ix (r := rIx K) (ix_K (K := K) rfl) (pv 7) pe_int (fun _ _ => rfl)) pe_int) pa_nil))) pa_nil)) (pa_cons (pv 6) pa_nil))))) (pss_one (ps_ret pe_bl)) pss_nil) (pss_one (ps_ret (pe_cmpR (DF.OpR.or (eq_K (K := K) rfl (units64 hr)) (eqI_K (K := K) rfl T.eqC_Move (ok_Move_eq T) T.b_Move_eq (hr.mono (by decide)))) (pe_call (ok_move_root T) (hr.mono (by decide)) rfl T.mg_move_root T.F_move_root.kp T.b_move_root .nil pass0 (pa_cons (pe_make T.mk_Move (ok_Move_init T) (hr.mono (by decide)) rfl T.mg_Move T.b_Move_init .nil pass0 (pa_cons pe_int (pa_cons pe_int (pa_cons pe_int pa_nil)))) (pa_cons (pv 6) pa_nil))) (pe_make T.mk_Move (ok_Move_init T) (hr.mono (by decide)) rfl T.mg_Move T.b_Move_init .nil pass0 (pa_cons pe_int (pa_cons pe_int (pa_cons pe_int pa_nil)))) (nomark _)))))))))))))), ?_⟩
  exact body_O (Ns := n_l_roots_right) (fS := B_l_roots_right) h (sim_seq (sim_asg (sim_op sim_add sim_int (sim_call hE0 (sim_cons sim_var (sim_cons sim_int sim_nil))))) (sim_seq (sim_asg (sim_call hE0 (sim_cons sim_var (sim_cons (sim_lst (sim_cons (sim_call hE0 (sim_cons sim_var (sim_cons sim_int sim_nil))) (sim_cons (sim_call hE0 (sim_cons (sim_call hE0 (sim_cons sim_var (sim_cons sim_int sim_nil))) (sim_cons sim_var sim_nil))) sim_nil))) sim_nil)))) (sim_seq (sim_asg (sim_lst (sim_cons (sim_call hE0 (sim_cons (sim_call hE0 (sim_cons sim_var sim_nil)) (sim_cons sim_var sim_nil))) (sim_cons (sim_callN hE0 sim_nil (sim_cons sim_var (sim_cons (sim_call hE0 (sim_cons sim_var sim_nil)) sim_nil))) sim_nil)))) (sim_seq (sim_asg (sim_call hE0 (sim_cons sim_var (sim_cons sim_var sim_nil)))) (sim_seq (sim_ifS (sim_test (sim_op (DF.SimR2.or sim_ne (sim_eqI (isiT T) T.ct_Move)) (sim_lc (sim_wAny sim_var) sim_gname sim_yes (sim_notN sim_var)) (sim_lst (sim_cons sim_var (sim_cons sim_var sim_nil))))) (sim_ret sim_bl) sim_next) (sim_seq (sim_ifS (sim_tru sim_var) (sim_ifS (sim_test (sim_op (DF.SimR2.or sim_ne (sim_eqI (isiT T) T.ct_Move)) (sim_lc (sim_wAny sim_var) sim_gname sim_yes (sim_call hE0 (sim_cons (sim_call hE0 (sim_cons sim_var sim_nil)) (sim_cons sim_var sim_nil)))) (sim_lst (sim_cons sim_var (sim_cons sim_var sim_nil))))) (sim_ret sim_bl) sim_next) sim_next) (sim_seq (sim_par (sim_cons (sim_cb sim_tupOf (sim_cons (sim_lc (sim_wAny (sim_call hE0 (sim_cons sim_var (sim_cons sim_int sim_nil)))) sim_gname sim_yes (sim_op sim_add (sim_op sim_mul sim_var (sim_op sim_pow sim_int sim_int)) sim_int)) sim_nil)) (sim_cons (sim_op sim_add (sim_op sim_pow sim_int sim_int) (sim_call hE0 (sim_cons sim_var (sim_cons sim_int sim_nil)))) sim_nil))) (sim_seq (sim_asg (sim_call hE0 (sim_cons sim_var (sim_cons sim_var sim_nil)))) (sim_seq (sim_ifS (sim_test (sim_op (DF.SimR2.or sim_ne (sim_eqI (isiT T) T.ct_Move)) (sim_call hE0 (sim_cons (sim_call hE0 (sim_cons sim_var sim_nil)) (sim_cons sim_var sim_nil))) (sim_call hE0 (sim_cons sim_var sim_nil)))) (sim_ret sim_bl) sim_next) (sim_seq (sim_ifS (sim_test (sim_notN (sim_call hE0 (sim_cons (sim_call hE0 (sim_cons (sim_op sim_add (sim_sl sim_var sim_noPart (sim_part sim_int)) (sim_tup (sim_cons (sim_op sim_add (sim_op sim_ix sim_var sim_int) sim_int) sim_nil))) sim_nil)) (sim_cons sim_var sim_nil))))) (sim_ret sim_bl) sim_next) (sim_ret (sim_op (DF.SimR2.or sim_eq (sim_eqI (isiT T) T.ct_Move)) (sim_call hE0 (sim_cons (sim_make T.ct_Move hE0 (sim_cons sim_int (sim_cons sim_int (sim_cons sim_int sim_nil)))) (sim_cons sim_var sim_nil))) (sim_make T.ct_Move hE0 (sim_cons sim_int (sim_cons sim_int (sim_cons sim_int sim_nil))))))))))))))))
theorem ok_l_right (T : Tx w K mg) (B : Tb T base) : FnG P w K mg base CX0 10 T.f_l_right T.d_l_right ["_law_reel_here"] (spF K F_l_right) := by
  refine okG T.F_l_right sc_l_right (fun vs H Q E h => len_O (n := 9) (fS := B_l_right) h) (fun cdv A outer s H vs Q E hr hgd h => ?_)
  refine ⟨_, (pss_cons (ps_for PassesOwn.never rfl (pi_range1 rfl T.n_range (pa_cons pe_int pa_nil)) (pg_name (i := 1) sc_l_right.nd rfl (by first | exact Or.inl rfl | exact Or.inr rfl)) (pss_cons (ps_par (i := 5) (j := 4) rfl sc_l_right.nd rfl rfl (by decide) rfl rfl (pa_cons (pe_call (ok_l_trip T) (hr.mono (by decide)) rfl T.mg_l_trip T.F_l_trip.kp T.b_l_trip .nil pass0 (pa_cons (pv 0) (pa_cons pe_int pa_nil))) (pa_cons (pe_call (ok_l_trip T) (hr.mono (by decide)) rfl T.mg_l_trip T.F_l_trip.kp T.b_l_trip .nil pass0 (pa_cons (pv 0) (pa_cons pe_int pa_nil))) pa_nil)) rfl) (pss_cons (ps_set (i := 6) sc_l_right.nd rfl (by first | exact Or.inl rfl | exact Or.inr rfl) (pe_lst (pa_cons (pe_call (ok_l_between T) (hr.mono (by decide)) rfl T.mg_l_between T.F_l_between.kp T.b_l_between .nil pass0 (pa_cons (pv 4) (pa_cons (pv 5) pa_nil))) (pa_cons (pe_op (add_K (K := K) rfl) (pe_slice (sl_K (K := K) rfl) (pv 5) po_none (po_some pe_int)) (pe_tup (pa_cons (pe_op op_sub (pe_call (ok_l_wind T) (hr.mono (by decide)) rfl T.mg_l_wind T.F_l_wind.kp T.b_l_wind .nil pass0 (pa_cons (pv 0) (pa_cons pe_int pa_nil))) pe_int) pa_nil))) (pa_cons (pe_call (ok_l_trip T) (hr.mono (by decide)) rfl T.mg_l_trip T.F_l_trip.kp T.b_l_trip .nil pass0 (pa_cons (pv 0) (pa_cons pe_int pa_nil))) (pa_cons (pv 5) pa_nil)))))) (pss_cons (ps_set (i := 7) sc_l_right.nd rfl (by first | exact Or.inl rfl | exact Or.inr rfl) (pe_call (ok_l_one_of T) (hr.mono (by decide)) rfl T.mg_l_one_of T.F_l_one_of.kp T.b_l_one_of .nil pass0 (pa_cons (pv 0) (pa_cons (pv 6) pa_nil)))) (pss_cons (ps_if (PW.pt (pw_and (pt_cmpR op_ltU (pe_callB call_abs rfl T.n_abs boot_abs (pa_cons (pe_op op_sub (pe_ix (r := rIx K) (ix_K (K := K) rfl) (pv 7) pe_int (fun _ _ => rfl)) (pe_ix (r := rIx K) (ix_K (K := K) rfl) (pv 5) pe_int (fun _ _ => rfl))) pa_nil)) pe_int (nomark _)) (pw_and1 (pt_not (pt_truthK (K := K) rfl (pe_callG (ok_l_alike_right T B) (hr.mono (by decide)) hgd rfl T.mg_l_alike_right T.F_l_alike_right.kp T.b_l_alike_right (pa_cons (pv 5) (pa_cons (pv 7) (pa_cons (pe_call (ok_l_are_alike T) (hr.mono (by decide)) rfl T.mg_l_are_alike T.F_l_are_alike.kp T.b_l_are_alike .nil pass0 (pa_cons (pv 5) (pa_cons (pv 7) pa_nil))) pa_nil)))) (fun _ => rfl)))))) (pss_one (ps_ret pe_bl)) pss_nil) (pss_one (ps_if (PW.pt (pw_or (pt_not (pt_truthK (K := K) rfl (pe_callG (ok_l_alike_right T B) (hr.mono (by decide)) hgd rfl T.mg_l_alike_right T.F_l_alike_right.kp T.b_l_alike_right (pa_cons (pv 5) (pa_cons (pe_ix (r := rIx K) (ix_K (K := K) rfl) (pv 6) pe_int (fun _ _ => rfl)) (pa_cons pe_bl pa_nil)))) (fun _ => rfl))) (pw_or1 (pt_not (pt_truthK (K := K) rfl (pe_call (ok_l_roots_right T) (hr.mono (by decide)) rfl T.mg_l_roots_right T.F_l_roots_right.kp T.b_l_roots_right .nil pass0 (pa_cons (pv 0) pa_nil)) (fun _ => rfl)))))) (pss_one (ps_ret pe_bl)) pss_nil))))))) (pss_cons (ps_par (i := 2) (j := 3) rfl sc_l_right.nd rfl rfl (by decide) rfl rfl (pa_cons (pe_call (ok_l_trip T) (hr.mono (by decide)) rfl T.mg_l_trip T.F_l_trip.kp T.b_l_trip .nil pass0 (pa_cons (pv 0) (pa_cons pe_int pa_nil))) (pa_cons (pe_op (mul_K (K := K) rfl) (pe_op op_pow pe_int pe_int) (pe_op (add_K (K := K) rfl) pe_int (pe_call (ok_l_wind T) (hr.mono (by decide)) rfl T.mg_l_wind T.F_l_wind.kp T.b_l_wind .nil pass0 (pa_cons (pv 0) (pa_cons pe_int pa_nil))))) pa_nil)) rfl) (pss_cons (ps_set (i := 2) sc_l_right.nd rfl (by first | exact Or.inl rfl | exact Or.inr rfl) (pe_tup (pa_cons (pe_op (mul_K (K := K) rfl) (pe_ix (r := rIx K) (ix_K (K := K) rfl) (pv 2) pe_int (fun _ _ => rfl)) (pv 3)) (pa_cons (pe_op (add_K (K := K) rfl) (pe_op (mul_K (K := K) rfl) (pe_ix (r := rIx K) (ix_K (K := K) rfl) (pv 2) pe_int (fun _ _ => rfl)) (pv 3)) (pe_op (mul_K (K := K) rfl) pe_int (pv 3))) (pa_cons (pe_ix (r := rIx K) (ix_K (K := K) rfl) (pv 2) pe_int (fun _ _ => rfl)) pa_nil))))) (pss_cons (ps_set (i := 4) sc_l_right.nd rfl (by first | exact Or.inl rfl | exact Or.inr rfl) (pe_callTy (tupOf_K (K := K) rfl) rfl T.n_tuple boot_tuple (pa_cons (pe_lc (own := [("_law_number", 8)]) (g := gName 8) (tt := tYes) rfl sc_l_right.nd (pi_anyK (K := K) rfl (pe_call (ok_l_trip T) (hr.mono (by decide)) rfl T.mg_l_trip T.F_l_trip.kp T.b_l_trip .nil pass0 (pa_cons (pv 0) (pa_cons pe_int pa_nil)))) (blkOk_by (N := n_l_right) (sc := defScope s_l_right) (by decide +kernel)) (fun _ _ _ _ _ => pg_name (i := 8) sc_l_right.nd rfl (by first | exact Or.inl rfl | exact Or.inr rfl)) (fun _ _ _ _ _ => pts_nil) (fun _ _ _ _ _ => (pe_op (add_K (K := K) rfl) (pe_op (mul_K (K := K) rfl) (pv 8) (pe_op op_pow pe_int pe_int)) pe_int))) pa_nil))) (pss_cons (ps_if (pt_not (pt_truthK (K := K) rfl (pe_callG (ok_l_alike_right T B) (hr.mono (by decide)) hgd rfl T.mg_l_alike_right T.F_l_alike_right.kp T.b_l_alike_right (pa_cons (pv 2) (pa_cons (pe_call (ok_l_between T) (hr.mono (by decide)) rfl T.mg_l_between T.F_l_between.kp T.b_l_between .nil pass0 (pa_cons (pv 4) (pa_cons (pv 2) pa_nil))) (pa_cons pe_bl pa_nil)))) (fun _ => rfl))) (pss_one (ps_ret pe_bl)) pss_nil) (pss_one (ps_ret (pe_callG (ok_l_alike_right T B) (hr.mono (by decide)) hgd rfl T.mg_l_alike_right T.F_l_alike_right.kp T.b_l_alike_right (pa_cons (pv 2) (pa_cons (pe_op (add_K (K := K) rfl) (pe_slice (sl_K (K := K) rfl) (pv 2) po_none (po_some pe_int)) (pe_tup (pa_cons (pe_op (add_K (K := K) rfl) (pe_ix (r := rIx K) (ix_K (K := K) rfl) (pv 2) pe_int (fun _ _ => rfl)) pe_int) pa_nil))) (pa_cons pe_bl pa_nil))))))))))), ?_⟩
  exact body_O (Ns := n_l_right) (fS := B_l_right) h (sim_seq (sim_for (sim_rng1 (sim_cons sim_int sim_nil)) sim_gname (sim_seq (sim_par (sim_cons (sim_call hE0 (sim_cons sim_var (sim_cons sim_int sim_nil))) (sim_cons (sim_call hE0 (sim_cons sim_var (sim_cons sim_int sim_nil))) sim_nil))) (sim_seq (sim_asg (sim_lst (sim_cons (sim_call hE0 (sim_cons sim_var (sim_cons sim_var sim_nil))) (sim_cons (sim_op sim_add (sim_sl sim_var sim_noPart (sim_part sim_int)) (sim_tup (sim_cons (sim_op sim_sub (sim_call hE0 (sim_cons sim_var (sim_cons sim_int sim_nil))) sim_int) sim_nil))) (sim_cons (sim_call hE0 (sim_cons sim_var (sim_cons sim_int sim_nil))) (sim_cons sim_var sim_nil)))))) (sim_seq (sim_asg (sim_call hE0 (sim_cons sim_var (sim_cons sim_var sim_nil)))) (sim_seq (sim_ifS (sim_and (sim_test (sim_op sim_lt (sim_cb sim_abs (sim_cons (sim_op sim_sub (sim_op sim_ix sim_var sim_int) (sim_op sim_ix sim_var sim_int)) sim_nil)) sim_int)) (sim_not (sim_tru (sim_call hE0 (sim_cons sim_var (sim_cons sim_var (sim_cons (sim_call hE0 (sim_cons sim_var (sim_cons sim_var sim_nil))) sim_nil))))))) (sim_ret sim_bl) sim_next) (sim_ifS (sim_or (sim_not (sim_tru (sim_call hE0 (sim_cons sim_var (sim_cons (sim_op sim_ix sim_var sim_int) (sim_cons sim_bl sim_nil)))))) (sim_not (sim_tru (sim_call hE0 (sim_cons sim_var sim_nil))))) (sim_ret sim_bl) sim_next)))))) (sim_seq (sim_par (sim_cons (sim_call hE0 (sim_cons sim_var (sim_cons sim_int sim_nil))) (sim_cons (sim_op sim_mul (sim_op sim_pow sim_int sim_int) (sim_op sim_add sim_int (sim_call hE0 (sim_cons sim_var (sim_cons sim_int sim_nil))))) sim_nil))) (sim_seq (sim_asg (sim_tup (sim_cons (sim_op sim_mul (sim_op sim_ix sim_var sim_int) sim_var) (sim_cons (sim_op sim_add (sim_op sim_mul (sim_op sim_ix sim_var sim_int) sim_var) (sim_op sim_mul sim_int sim_var)) (sim_cons (sim_op sim_ix sim_var sim_int) sim_nil))))) (sim_seq (sim_asg (sim_cb sim_tupOf (sim_cons (sim_lc (sim_wAny (sim_call hE0 (sim_cons sim_var (sim_cons sim_int sim_nil)))) sim_gname sim_yes (sim_op sim_add (sim_op sim_mul sim_var (sim_op sim_pow sim_int sim_int)) sim_int)) sim_nil))) (sim_seq (sim_ifS (sim_not (sim_tru (sim_call hE0 (sim_cons sim_var (sim_cons (sim_call hE0 (sim_cons sim_var (sim_cons sim_var sim_nil))) (sim_cons sim_bl sim_nil)))))) (sim_ret sim_bl) sim_next) (sim_ret (sim_call hE0 (sim_cons sim_var (sim_cons (sim_op sim_add (sim_sl sim_var sim_noPart (sim_part sim_int)) (sim_tup (sim_cons (sim_op sim_add (sim_op sim_ix sim_var sim_int) sim_int) sim_nil))) (sim_cons sim_bl sim_nil))))))))))
theorem ok_l_reel (T : Tx w K mg) : FnOk P w K mg base CX0 1 T.f_l_reel T.d_l_reel ["_law_script", "_law_turn"] (spF K F_l_reel) := by
  refine T.F_l_reel.ok sc_l_reel (fun vs H Q E h => len_O (n := 5) (fS := B_l_reel) h) (fun cdv A outer s H vs Q E hr h => ?_)
  refine ⟨_, (pss_cons (ps_set (i := 2) sc_l_reel.nd rfl (by first | exact Or.inl rfl | exact Or.inr rfl) (pe_ifExp (pt_cmpR op_ltU (pv 1) (pe_callB (r := DF.rLen K) (len_K rfl) rfl T.n_len boot_len (pa_cons (pv 0) pa_nil)) (nomark _)) (pe_ix (r := rIx K) (ix_K (K := K) rfl) (pv 0) (pv 1) (fun _ _ => rfl)) (pe_op (add_K (K := K) rfl) (pe_op (mul_K (K := K) rfl) pe_int (pv 1)) pe_int))) (pss_cons (ps_set (i := 3) sc_l_reel.nd rfl (by first | exact Or.inl rfl | exact Or.inr rfl) (pe_op (add_K (K := K) rfl) pe_int (pe_op (mul_K (K := K) rfl) pe_int (pv 1)))) (pss_cons (ps_for PassesOwn.never rfl (pi_anyK (K := K) rfl (pe_op (add_K (K := K) rfl) (pe_slice (sl_K (K := K) rfl) (pv 0) po_none (po_some pe_int)) (pe_lst (pa_cons (pv 2) pa_nil)))) (pg_name (i := 4) sc_l_reel.nd rfl (by first | exact Or.inl rfl | exact Or.inr rfl)) (pss_one (ps_set (i := 3) sc_l_reel.nd rfl (by first | exact Or.inl rfl | exact Or.inr rfl) (pe_op op_mod (pe_callTy call_int rfl T.n_int boot_int (pa_cons (pe_op (add_K (K := K) rfl) (pe_op (mul_K (K := K) rfl) (pv 3) pe_int) (pe_op op_mod (pe_callTy call_int rfl T.n_int boot_int (pa_cons (pv 4) pa_nil)) pe_int)) pa_nil)) pe_int)))) (pss_one (ps_ret (pe_lst (pa_cons (pe_ifExp (PW.pt (pw_or (pt_cmpR op_ltU (pv 2) pe_int (nomark _)) (pw_or1 (pt_cmpR op_ge (pv 2) (pe_op op_pow pe_int pe_int) (nomark _))))) (pe_callB call_abs rfl T.n_abs boot_abs (pa_cons (pv 2) pa_nil)) pe_int) (pa_cons (pv 3) (pa_cons pe_int pa_nil))))))))), ?_⟩
  exact body_O (Ns := n_l_reel) (fS := B_l_reel) h (sim_seq (sim_asg (sim_if (sim_test (sim_op sim_lt sim_var (sim_cb sim_len (sim_cons sim_var sim_nil)))) (sim_op sim_ix sim_var sim_var) (sim_op sim_add (sim_op sim_mul sim_int sim_var) sim_int))) (sim_seq (sim_asg (sim_op sim_add sim_int (sim_op sim_mul sim_int sim_var))) (sim_seq (sim_for (sim_wAny (sim_op sim_add (sim_sl sim_var sim_noPart (sim_part sim_int)) (sim_lst (sim_cons sim_var sim_nil)))) sim_gname (sim_asg (sim_op sim_mod (sim_cb sim_int1 (sim_cons (sim_op sim_add (sim_op sim_mul sim_var sim_int) (sim_op sim_mod (sim_cb sim_int1 (sim_cons sim_var sim_nil)) sim_int)) sim_nil)) sim_int))) (sim_ret (sim_lstO (sim_cons (sim_if (sim_or (sim_test (sim_op sim_lt sim_var sim_int)) (sim_test (sim_op sim_ge sim_var (sim_op sim_pow sim_int sim_int)))) (sim_cb sim_abs (sim_cons sim_var sim_nil)) sim_int) (sim_cons sim_var (sim_cons sim_int sim_nil))))))))
theorem ok_law (T : Tx w K mg) (B : Tb T base) : FnG P w K mg base CX0 11 T.f_law T.d_law ["_law_script"] (spF K F_law) := by
  refine okG T.F_law sc_law (fun vs H Q E h => len_O (n := 2) (fS := B_law) h) (fun cdv A outer s H vs Q E hr hgd h => ?_)
  refine ⟨_, (pss_one (ps_ret (pe_callB (r := rAll K) (all_K rfl rfl) rfl T.n_all boot_all (pa_cons (pe_lc (own := [("_law_turn", 1)]) (g := gName 1) (tt := tYes) rfl sc_law.nd (pi_range1 rfl T.n_range (pa_cons pe_int pa_nil)) (blkOk_by (N := n_law) (sc := defScope s_law) (by decide +kernel)) (fun _ _ _ _ _ => pg_name (i := 1) sc_law.nd rfl (by first | exact Or.inl rfl | exact Or.inr rfl)) (fun _ _ _ _ _ => pts_nil) (fun _ _ _ _ _ => (pe_callG (ok_l_right T B) (hr.mono (by decide)) hgd rfl T.mg_l_right T.F_l_right.kp T.b_l_right (pa_cons (pe_call (ok_l_reel T) (hr.mono (by decide)) rfl T.mg_l_reel T.F_l_reel.kp T.b_l_reel .nil pass0 (pa_cons (pv 0) (pa_cons (pv 1) pa_nil))) pa_nil)))) pa_nil)))), ?_⟩
  exact body_O (Ns := n_law) (fS := B_law) h (sim_ret (sim_cb sim_all (sim_cons (sim_lc (sim_rng1 (sim_cons sim_int sim_nil)) sim_gname sim_yes (sim_call hE0 (sim_cons (sim_call hE0 (sim_cons sim_var (sim_cons sim_var sim_nil))) sim_nil))) sim_nil)))
end
end Kr

set_option linter.all false
set_option maxRecDepth 100000
set_option pp.maxSteps 500
set_option maxHeartbeats 1000000
namespace Kr
open PySem PySem.Spec PyProof.Rows L2 DF TL NumText
variable [TbC]
/-! ### one step -/
local macro_rules | `(tactic| walk_at "set") => `(tactic| (refine' e_set ?qa ?_; (case qa => (simp only [wipeF, backF, List.set, List.getD_cons_succ, List.getD_cons_zero, Int.reduceToNat]; rfl))))
local macro_rules | `(tactic| walk_at "cnd") => `(tactic| first | assumption | decide | omega)
local macro_rules | `(tactic| walk_at "mul") => `(tactic| first | exact mulOk_r (by decide) (by decide) | exact mulOk_l (by decide) (by decide) | exact mulOk_l (by omega) (by omega) | exact mulOk_r (by omega) (by omega))
local macro_rules | `(tactic| walk_at "x") => `(tactic| first
  | with_reducible apply x_seq
  | with_reducible apply k_nx
  | with_reducible apply k_rt
  | with_reducible apply x_nx
  | with_reducible refine x_asgK (fa := fLstO _) ?_
  | with_reducible refine x_asgK (fa := fLcO _ _ _ _ _) ?_
  | with_reducible apply ak_own
  | with_reducible apply ak_val
  | with_reducible apply x_asg
  | with_reducible refine x_retK (fa := fLstO _) ?_
  | with_reducible apply rk_own
  | with_reducible apply x_ret
  | with_reducible apply x_ifS
  | with_reducible apply x_asgG
  | with_reducible apply x_drop
  | with_reducible apply x_par
  | with_reducible apply x_par3
  | with_reducible apply x_asg3
  | with_reducible apply x_for
  | with_reducible refine x_aug ⟨_, rfl, ?_⟩
  | with_reducible apply xv_c
  | (with_reducible refine xv_var rfl ?_)
  | (with_reducible refine x_varV rfl ?_)
  | (with_reducible refine x_varO rfl ?_)
  | with_reducible apply xv_op
  | with_reducible apply xv_un
  | with_reducible apply xv_cb
  | with_reducible apply xs_nil
  | with_reducible apply xs_cons
  | with_reducible apply xa_nil
  | with_reducible apply xa_cons
  | with_reducible apply xv_tup
  | with_reducible apply xv_lst
  | with_reducible apply x_lstO
  | with_reducible apply xv_if
  | with_reducible apply xv_andV
  | with_reducible apply xv_orV
  | with_reducible apply xv_notV
  | with_reducible apply xv_isN
  | with_reducible apply xv_notN
  | with_reducible apply xt_test
  | with_reducible apply xt_tru
  | with_reducible apply xt_not
  | with_reducible apply xt_and
  | with_reducible apply xt_or
  | with_reducible apply xt_yes
  | with_reducible apply xv_call
  | with_reducible apply xv_callN
  | with_reducible apply xv_cmeth
  | with_reducible apply xv_cmethN
  | with_reducible apply xv_fld
  | with_reducible apply xv_prop
  | with_reducible apply x_setF
  | with_reducible apply xv_make
  | with_reducible apply xv_makeN
  | (with_reducible refine xv_makeL rfl ?_)
  | with_reducible apply xg_name
  | with_reducible apply xg_nil
  | with_reducible apply xg_cons
  | (with_reducible refine xg_tup rfl ?_)
  | (with_reducible refine xg_unl rfl ?_)
  | (with_reducible refine xg_sub rfl ?_)
  | (with_reducible refine xv_ixO rfl ?_)
  | ((with_reducible refine' xv_pk ?qa ?_); (case qa => (simp only [List.map, seeO, odD]; rfl)))
  | ((with_reducible refine' xt_pk ?qa ?_); (case qa => (simp only [List.map, seeO, odD]; rfl)))
  | with_reducible apply xv_bm
  | with_reducible apply xv_bm0
  | with_reducible apply xv_sl
  | with_reducible apply xo_no
  | with_reducible apply xo_some
  | with_reducible apply xv_revS
  | with_reducible apply xv_revL
  | with_reducible apply xv_fmt
  | with_reducible apply xw_any
  | with_reducible apply xw_rng1
  | with_reducible apply xw_rng2
  | with_reducible apply xv_lc
  | with_reducible apply vk_val
  | with_reducible apply bk_none
  | with_reducible apply bk_tmp
  | (with_reducible refine bk_slot rfl ?_)
  | with_reducible apply rk_val
  | with_reducible apply fk_nx
  | with_reducible apply fk_rt
  | ((with_reducible refine' e_par ?qa ?_); (case qa => (simp only [List.set]; rfl)))
  | ((with_reducible refine' e_par3 ?qa ?_); (case qa => (simp only [List.set]; rfl)))
  | ((with_reducible refine' e_ixO ?qa ?qb ?_); (case qa => exact rfl); (case qb => exact rfl))
  | ((with_reducible refine' e_sub ?qa ?qb ?qc ?_); (case qa => exact rfl); (case qb => exact rfl); (case qc => (simp only [List.set, Int.reduceToNat]; rfl)))
  | ((with_reducible refine' e_setF ?qa ?qb ?qc ?_); (case qa => exact rfl); (case qb => (simp only [List.length_cons, List.length_nil]; decide)); (case qc => (simp only [List.set, Int.reduceToNat]; rfl)))
  | ((with_reducible refine' e_fields ?qa ?qb ?_); (case qa => exact rfl); (case qb => exact rfl))
  | ((with_reducible refine' e_has ?qa ?_); (case qa => exact rfl))
  | with_reducible apply r_addI
  | with_reducible apply r_sub
  | with_reducible apply r_lt
  | with_reducible apply r_gt
  | with_reducible apply r_le
  | with_reducible apply r_ge
  | with_reducible apply r_int
  | with_reducible apply r_intB
  | with_reducible apply r_abs
  | with_reducible refine r_dec2 (fun h => ?_) (fun h => ?_)
  | with_reducible refine r_decN2 (fun h => ?_) (fun h => ?_)
  | with_reducible refine r_decM2 (fun h => ?_) (fun h => ?_)
  | with_reducible apply r_bool
  | with_reducible apply r_truB
  | with_reducible apply r_len
  | with_reducible apply r_lenS
  | with_reducible apply r_orEqS
  | with_reducible apply r_orNeS
  | with_reducible apply r_orEqI
  | with_reducible apply r_orNeI
  | with_reducible apply xv_joined
  | with_reducible apply xj_cons
  | with_reducible apply xj_nil
  | with_reducible apply r_eqI
  | with_reducible apply r_neI
  | with_reducible apply r_eqS
  | with_reducible apply r_neS
  | ((with_reducible refine' e_addD ?qa ?_); (case qa => exact rfl))
  | ((with_reducible refine' e_subD ?qa ?_); (case qa => exact rfl))
  | ((with_reducible refine' r_mul ?qa ?_); (case qa => walk_at "mul"))
  | ((with_reducible refine' r_mod ?qa ?_); (case qa => walk_at "cnd"))
  | ((with_reducible refine' r_fdiv ?qa ?qb ?_); (case qa => walk_at "cnd"); (case qb => walk_at "cnd"))
  | ((with_reducible refine' r_divmod ?qa ?qb ?_); (case qa => walk_at "cnd"); (case qb => walk_at "cnd"))
  | ((with_reducible refine' e_ltD ?qa ?_); (case qa => exact rfl))
  | ((with_reducible refine' e_leD ?qa ?_); (case qa => exact rfl))
  | ((with_reducible refine' e_gtD ?qa ?_); (case qa => exact rfl))
  | ((with_reducible refine' e_geD ?qa ?_); (case qa => exact rfl))
  | ((with_reducible refine' e_negD ?qa ?_); (case qa => exact rfl))
  | ((with_reducible refine' e_ixD ?qa ?_); (case qa => exact rfl))
  | ((with_reducible refine' e_intD ?qa ?_); (case qa => exact rfl))
  | ((with_reducible refine' e_absD ?qa ?_); (case qa => exact rfl))
  | ((with_reducible refine' e_intOf ?qa ?_); (case qa => exact rfl))
  | ((with_reducible refine' e_tupOf ?qa ?_); (case qa => exact rfl))
  | ((with_reducible refine' e_lstOf ?qa ?_); (case qa => exact rfl))
  | ((with_reducible refine' e2_boolOf ?qa ?_ ?_); (case qa => exact rfl))
  | ((with_reducible refine' e_boolOf ?qa ?_); (case qa => exact rfl))
  | ((with_reducible refine' e_truD ?qa ?_); (case qa => exact rfl))
  | ((with_reducible refine' e_itemsOf ?qa ?_); (case qa => exact rfl))
  | ((with_reducible refine' e_slD ?qa ?_); (case qa => exact rfl))
  | ((with_reducible refine' e_isiD ?qa ?_); (case qa => exact rfl))
  | ((with_reducible refine' e_boolI ?qa ?_); (case qa => exact rfl))
  | ((with_reducible refine' e_rng ?qa ?_); (case qa => exact ⟨by omega, by omega⟩))
  | with_reducible apply e_some
  | with_reducible apply e_str
  | with_reducible apply e_rev
  | ((with_reducible refine' en_val ?qa ?_); (case qa => exact rfl))
  | ((with_reducible refine' en_own ?qa ?_); (case qa => exact rfl))
  | ((with_reducible refine' en_nx ?qa ?_); (case qa => exact rfl))
  | with_reducible apply x_call
  | with_reducible refine x_ofV (fa := fC _) ?_
  | with_reducible refine x_ofV (fa := fOp _ _ _) ?_
  | with_reducible refine x_ofV (fa := fUn _ _) ?_
  | with_reducible refine x_ofV (fa := fCB _ _) ?_
  | with_reducible refine x_ofV (fa := fTup _) ?_
  | with_reducible refine x_ofV (fa := fLst _) ?_
  | with_reducible refine x_ofV (fa := fBM _ _ _ _) ?_
  | with_reducible refine x_ofV (fa := fBM0 _ _ _) ?_
  | with_reducible refine x_ofV (fa := fLc _ _ _ _ _) ?_
  | with_reducible refine x_ofV (fa := fFld _ _ _) ?_
  | with_reducible refine x_ofV (fa := fProp _ _ _) ?_
  | with_reducible refine x_ofV (fa := fMake _ _ _) ?_
  | with_reducible refine x_ofV (fa := fMakeN _ _ _ _ _ _ _) ?_
  | with_reducible refine x_ofV (fa := fSl _ _ _) ?_
  | with_reducible refine x_ofV (fa := fJoined _) ?_
  | with_reducible refine x_ofV (fa := fAndV _ _) ?_
  | with_reducible refine x_ofV (fa := fOrV _ _) ?_
  | with_reducible refine x_ofV (fa := fNotV _) ?_
  | with_reducible refine x_ofV (fa := fIf _ _ _) ?_
  | with_reducible refine x_ofV (fa := fIxO _ _) ?_
  | with_reducible refine x_ofV (fa := fCMeth _ _ _) ?_
  | with_reducible refine x_ofV (fa := fCMethN _ _ _ _ _) ?_
  | with_reducible refine x_ofV (fa := fCallN _ _ _ _ _ _) ?_
  | with_reducible refine x_ofV (fa := fIsN _) ?_
  | with_reducible refine x_ofV (fa := fNotN _) ?_
  | with_reducible apply xl_nil
  | with_reducible refine xl_cons rfl ?_
  | (refine And.intro (show List.length _ ≤ 16777216 from by simp only [List.length_cons, List.length_nil]; decide) ?_)
  | (refine And.intro (show tyS _ = some _ from rfl) ?_)
  | (refine And.intro (show flat _ = true from rfl) ?_)
  | (refine And.intro (show List.length _ = _ from rfl) ?_)
  | (refine And.intro (show List.length _ < 16777216 from by simp only [List.length_cons, List.length_nil]; decide) ?_)
  | (refine And.intro (show List.map isOwn _ = List.map isOwn _ from rfl) ?_)
  | with_reducible apply tt_intro
  | with_reducible apply nt_intro
  | with_reducible apply nnf_intro
  | with_reducible apply nnt_intro
  | with_reducible apply nf_intro
  | with_reducible apply ff_intro
  | walk_at "set")
/-! ### the script's reel -/
abbrev rl (a b c : Int) : OD := .lst [.int a, .int b, .int c]
structure RO (n a b c : Int) : Prop where
  a0 : 0 ≤ a
  b0 : 0 ≤ b
  b1 : b < 2147480009
  c0 : 0 ≤ c
  c1 : c ≤ n
theorem RO.up {m n a b c : Int} (h : RO m a b c) (hm : m ≤ n) : RO n a b c := ⟨h.a0, h.b0, h.b1, h.c0, Int.le_trans h.c1 hm⟩
theorem p_wind {n a b c m : Int} {Φ : Vr → Option OD → Prop} (h : RO n a b c) (hn : n ≤ 10 ^ 15) (hm : 0 < m) (hm2 : m < 1073741824)
    (k : ∀ x a b c, 0 ≤ x → x < m → RO (n + 1) a b c → Φ (.val (.int x)) (some (rl a b c))) : Fp F_l_wind [.own 1 (rl a b c), .val (.int m)] Φ := by
  obtain ⟨a0, b0, b1, c0, c1⟩ := h
  refine f_def rfl ?_
  show X _ [_, _, _] _
  unfold B_l_wind
  repeat' walk_at "x"
  · exact k _ _ _ _ (Int.emod_nonneg _ (by omega)) (Int.emod_lt_of_pos _ hm) ⟨Int.ediv_nonneg a0 (by omega), b0, b1, c0, by omega⟩
  · exact k _ _ _ _ (Int.emod_nonneg _ (by omega)) (Int.emod_lt_of_pos _ hm) ⟨a0, Int.emod_nonneg _ (by decide), Int.emod_lt_of_pos _ (by decide), by omega, by omega⟩
/-- one of a menu -/
theorem p_one_of {n a b c m : Int} {menu : D} {Φ : Vr → Option OD → Prop} (h : RO n a b c) (hn : n ≤ 10 ^ 15) (hl : lenD [menu] = some (.int m)) (hm : 0 < m) (hm2 : m < 1073741824)
    (k : ∀ x a b c, 0 ≤ x → x < m → RO (n + 1) a b c → ∃ d, ixD menu (.int x) = some d ∧ Φ (.val d) (some (rl a b c))) : Fp F_l_one_of [.own 1 (rl a b c), .val menu] Φ := by
  refine f_def rfl ?_
  show X _ [_, _] _
  unfold B_l_one_of
  repeat' walk_at "x"
  refine e_lenD hl ?_
  repeat' walk_at "x"
  refine x_callF rfl ?_
  refine (p_wind h hn hm hm2 fun x a b c h0 h1 hr => ?_)
  repeat' walk_at "x"
  obtain ⟨d, e, p⟩ := k x a b c h0 h1 hr
  refine e_ixD e ?_
  repeat' walk_at "x"
  exact p
/-- three numbers -/
theorem p_trip {n a b c s : Int} {Φ : Vr → Option OD → Prop} (h : RO n a b c) (hn : n ≤ 10 ^ 14) (hs : 0 ≤ s) (hs2 : s < 1000)
    (k : ∀ x y z a b c, (-s ≤ x ∧ x ≤ s) → (-s ≤ y ∧ y ≤ s) → (-s ≤ z ∧ z ≤ s) → RO (n + 3) a b c → Φ (.val (.tup [.int x, .int y, .int z])) (some (rl a b c))) : Fp F_l_trip [.own 1 (rl a b c), .val (.int s)] Φ := by
  refine f_def rfl ?_
  show X _ [_, _, _] _
  unfold B_l_trip
  repeat' walk_at "x"
  show List.length [D.int 0, .int 1, .int 2] < 16777216 ∧ X (lcL _ _ _ _ [D.int 0, .int 1, .int 2] _) _ _
  refine ⟨by decide, ?_⟩
  repeat' walk_at "x"
  refine x_callF rfl ?_
  refine (p_wind h (by omega) (by omega) (by omega) fun x a b c x0 x1 h => ?_)
  repeat' walk_at "x"
  refine x_callF rfl ?_
  refine (p_wind h (by omega) (by omega) (by omega) fun y a b c y0 y1 h => ?_)
  repeat' walk_at "x"
  refine x_callF rfl ?_
  refine (p_wind h (by omega) (by omega) (by omega) fun z a b c z0 z1 h => ?_)
  repeat' walk_at "x"
  exact k _ _ _ _ _ _ (by omega) (by omega) (by omega) (h.up (by omega))
theorem p_reel {ns : List Int} {t : Int} {Φ : Vr → Option OD → Prop} (hns : ns.length ≤ 63) (ht : 0 ≤ t) (ht2 : t < 10)
    (k : ∀ a b c, RO 1 a b c → Φ (.own (rl a b c)) none) : Fp F_l_reel [.val (.scr ns), .val (.int t)] Φ := by
  refine f_def rfl ?_
  show X _ [_, _, _, _, _] _
  unfold B_l_reel
  refine x_seq (x_asg ?_)
  refine X.imp (Φ := fun d Γ' => (∃ own, d = D.int own) ∧ Γ' = [.val (.scr ns), .val (.int t), .no, .no, .no]) ?_ ?_
  · repeat' walk_at "x"
    · rename_i h
      obtain ⟨i, e⟩ := ix_scr ht h
      exact e_ixD e ⟨⟨_, rfl⟩, rfl⟩
    · exact ⟨⟨_, rfl⟩, rfl⟩
  rintro _ _ ⟨⟨own, rfl⟩, rfl⟩
  obtain ⟨ms, em, hl⟩ := cut_ints (ns := ns) (lo := none) (hi := some 5)
  repeat' walk_at "x"
  rw [em]
  refine r_addL ?_ ?_
  · rw [List.length_map, List.length_singleton]; omega
  repeat' walk_at "x"
  refine x_forL (fun ds Γ => (∀ d ∈ ds, ∃ i, d = D.int i) ∧ ∃ m w, 0 ≤ m ∧ m < 2147480009 ∧ Γ = [.val (.scr ns), .val (.int t), .val (.int own), .val (.int m), w]) ?_ ?_ ?_
  · refine ⟨fun d hd => ?_, _, _, ?_, ?_, rfl⟩
    · rcases List.mem_append.mp hd with h | h
      · obtain ⟨i, _, e⟩ := List.mem_map.mp h; exact ⟨i, e.symm⟩
      · exact ⟨own, List.mem_singleton.mp h⟩
    · omega
    · omega
  · rintro d ds Γ ⟨hd, m, w, m0, m1, rfl⟩
    obtain ⟨i, rfl⟩ := hd _ List.mem_cons_self
    repeat' walk_at "x"
    exact ⟨fun d h => hd d (List.mem_cons_of_mem _ h), _, _, Int.emod_nonneg _ (by decide), Int.emod_lt_of_pos _ (by decide), rfl⟩
  · rintro Γ ⟨_, m, w, m0, m1, rfl⟩
    repeat' walk_at "x"
    · exact k _ _ _ ⟨by omega, m0, m1, by decide, by decide⟩
    refine r_pow (v := 10 ^ 16) (by decide) (by decide) ?_
    repeat' walk_at "x"
    · exact k _ _ _ ⟨by omega, m0, m1, by decide, by decide⟩
    · exact k _ _ _ ⟨by omega, m0, m1, by decide, by decide⟩
end Kr

set_option linter.all false
set_option maxRecDepth 100000
set_option pp.maxSteps 500
set_option maxHeartbeats 1000000
namespace Kr
open PySem PySem.Spec PyProof.Rows L2 DF TL NumText
variable [TbC]
/-! ### one step -/
local macro_rules | `(tactic| walk_at "set") => `(tactic| (refine' e_set ?qa ?_; (case qa => (simp only [wipeF, backF, List.set, List.getD_cons_succ, List.getD_cons_zero, Int.reduceToNat]; rfl))))
local macro_rules | `(tactic| walk_at "cnd") => `(tactic| first | assumption | decide | omega)
local macro_rules | `(tactic| walk_at "mul") => `(tactic| first | exact mulOk_r (by decide) (by decide) | exact mulOk_l (by decide) (by decide) | exact mulOk_l (by omega) (by omega) | exact mulOk_r (by omega) (by omega))
local macro_rules | `(tactic| walk_at "x") => `(tactic| first
  | with_reducible apply x_seq
  | with_reducible apply k_nx
  | with_reducible apply k_rt
  | with_reducible apply x_nx
  | with_reducible refine x_asgK (fa := fLstO _) ?_
  | with_reducible refine x_asgK (fa := fLcO _ _ _ _ _) ?_
  | with_reducible apply ak_own
  | with_reducible apply ak_val
  | with_reducible apply x_asg
  | with_reducible refine x_retK (fa := fLstO _) ?_
  | with_reducible apply rk_own
  | with_reducible apply x_ret
  | with_reducible apply x_ifS
  | with_reducible apply x_asgG
  | with_reducible apply x_drop
  | with_reducible apply x_par
  | with_reducible apply x_par3
  | with_reducible apply x_asg3
  | with_reducible apply x_for
  | with_reducible refine x_aug ⟨_, rfl, ?_⟩
  | with_reducible apply xv_c
  | (with_reducible refine xv_var rfl ?_)
  | (with_reducible refine x_varV rfl ?_)
  | (with_reducible refine x_varO rfl ?_)
  | with_reducible apply xv_op
  | with_reducible apply xv_un
  | with_reducible apply xv_cb
  | with_reducible apply xs_nil
  | with_reducible apply xs_cons
  | with_reducible apply xa_nil
  | with_reducible apply xa_cons
  | with_reducible apply xv_tup
  | with_reducible apply xv_lst
  | with_reducible apply x_lstO
  | with_reducible apply xv_if
  | with_reducible apply xv_andV
  | with_reducible apply xv_orV
  | with_reducible apply xv_notV
  | with_reducible apply xv_isN
  | with_reducible apply xv_notN
  | with_reducible apply xt_test
  | with_reducible apply xt_tru
  | with_reducible apply xt_not
  | with_reducible apply xt_and
  | with_reducible apply xt_or
  | with_reducible apply xt_yes
  | with_reducible apply xv_call
  | with_reducible apply xv_callN
  | with_reducible apply xv_cmeth
  | with_reducible apply xv_cmethN
  | with_reducible apply xv_fld
  | with_reducible apply xv_prop
  | with_reducible apply x_setF
  | with_reducible apply xv_make
  | with_reducible apply xv_makeN
  | (with_reducible refine xv_makeL rfl ?_)
  | with_reducible apply xg_name
  | with_reducible apply xg_nil
  | with_reducible apply xg_cons
  | (with_reducible refine xg_tup rfl ?_)
  | (with_reducible refine xg_unl rfl ?_)
  | (with_reducible refine xg_sub rfl ?_)
  | (with_reducible refine xv_ixO rfl ?_)
  | ((with_reducible refine' xv_pk ?qa ?_); (case qa => (simp only [List.map, seeO, odD]; rfl)))
  | ((with_reducible refine' xt_pk ?qa ?_); (case qa => (simp only [List.map, seeO, odD]; rfl)))
  | with_reducible apply xv_bm
  | with_reducible apply xv_bm0
  | with_reducible apply xv_sl
  | with_reducible apply xo_no
  | with_reducible apply xo_some
  | with_reducible apply xv_revS
  | with_reducible apply xv_revL
  | with_reducible apply xv_fmt
  | with_reducible apply xw_any
  | with_reducible apply xw_rng1
  | with_reducible apply xw_rng2
  | with_reducible apply xv_lc
  | with_reducible apply vk_val
  | with_reducible apply bk_none
  | with_reducible apply bk_tmp
  | (with_reducible refine bk_slot rfl ?_)
  | with_reducible apply rk_val
  | with_reducible apply fk_nx
  | with_reducible apply fk_rt
  | ((with_reducible refine' e_par ?qa ?_); (case qa => (simp only [List.set]; rfl)))
  | ((with_reducible refine' e_par3 ?qa ?_); (case qa => (simp only [List.set]; rfl)))
  | ((with_reducible refine' e_ixO ?qa ?qb ?_); (case qa => exact rfl); (case qb => exact rfl))
  | ((with_reducible refine' e_sub ?qa ?qb ?qc ?_); (case qa => exact rfl); (case qb => exact rfl); (case qc => (simp only [List.set, Int.reduceToNat]; rfl)))
  | ((with_reducible refine' e_setF ?qa ?qb ?qc ?_); (case qa => exact rfl); (case qb => (simp only [List.length_cons, List.length_nil]; decide)); (case qc => (simp only [List.set, Int.reduceToNat]; rfl)))
  | ((with_reducible refine' e_fields ?qa ?qb ?_); (case qa => exact rfl); (case qb => exact rfl))
  | ((with_reducible refine' e_has ?qa ?_); (case qa => exact rfl))
  | with_reducible apply r_addI
  | with_reducible apply r_sub
  | with_reducible apply r_lt
  | with_reducible apply r_gt
  | with_reducible apply r_le
  | with_reducible apply r_ge
  | with_reducible apply r_int
  | with_reducible apply r_intB
  | with_reducible apply r_abs
  | with_reducible refine r_dec2 (fun h => ?_) (fun h => ?_)
  | with_reducible refine r_decN2 (fun h => ?_) (fun h => ?_)
  | with_reducible refine r_decM2 (fun h => ?_) (fun h => ?_)
  | with_reducible apply r_bool
  | with_reducible apply r_truB
  | with_reducible apply r_len
  | with_reducible apply r_lenS
  | with_reducible apply r_orEqS
  | with_reducible apply r_orNeS
  | with_reducible apply r_orEqI
  | with_reducible apply r_orNeI
  | with_reducible apply xv_joined
  | with_reducible apply xj_cons
  | with_reducible apply xj_nil
  | with_reducible apply r_eqI
  | with_reducible apply r_neI
  | with_reducible apply r_eqS
  | with_reducible apply r_neS
  | ((with_reducible refine' e_addD ?qa ?_); (case qa => exact rfl))
  | ((with_reducible refine' e_subD ?qa ?_); (case qa => exact rfl))
  | ((with_reducible refine' r_mul ?qa ?_); (case qa => walk_at "mul"))
  | ((with_reducible refine' r_mod ?qa ?_); (case qa => walk_at "cnd"))
  | ((with_reducible refine' r_fdiv ?qa ?qb ?_); (case qa => walk_at "cnd"); (case qb => walk_at "cnd"))
  | ((with_reducible refine' r_divmod ?qa ?qb ?_); (case qa => walk_at "cnd"); (case qb => walk_at "cnd"))
  | ((with_reducible refine' e_ltD ?qa ?_); (case qa => exact rfl))
  | ((with_reducible refine' e_leD ?qa ?_); (case qa => exact rfl))
  | ((with_reducible refine' e_gtD ?qa ?_); (case qa => exact rfl))
  | ((with_reducible refine' e_geD ?qa ?_); (case qa => exact rfl))
  | ((with_reducible refine' e_negD ?qa ?_); (case qa => exact rfl))
  | ((with_reducible refine' e_ixD ?qa ?_); (case qa => exact rfl))
  | ((with_reducible refine' e_intD ?qa ?_); (case qa => exact rfl))
  | ((with_reducible refine' e_absD ?qa ?_); (case qa => exact rfl))
  | ((with_reducible refine' e_intOf ?qa ?_); (case qa => exact rfl))
  | ((with_reducible refine' e_tupOf ?qa ?_); (case qa => exact rfl))
  | ((with_reducible refine' e_lstOf ?qa ?_); (case qa => exact rfl))
  | ((with_reducible refine' e2_boolOf ?qa ?_ ?_); (case qa => exact rfl))
  | ((with_reducible refine' e_boolOf ?qa ?_); (case qa => exact rfl))
  | ((with_reducible refine' e_truD ?qa ?_); (case qa => exact rfl))
  | ((with_reducible refine' e_itemsOf ?qa ?_); (case qa => exact rfl))
  | ((with_reducible refine' e_slD ?qa ?_); (case qa => exact rfl))
  | ((with_reducible refine' e_isiD ?qa ?_); (case qa => exact rfl))
  | ((with_reducible refine' e_boolI ?qa ?_); (case qa => exact rfl))
  | ((with_reducible refine' e_rng ?qa ?_); (case qa => exact ⟨by omega, by omega⟩))
  | with_reducible apply e_some
  | with_reducible apply e_str
  | with_reducible apply e_rev
  | ((with_reducible refine' en_val ?qa ?_); (case qa => exact rfl))
  | ((with_reducible refine' en_own ?qa ?_); (case qa => exact rfl))
  | ((with_reducible refine' en_nx ?qa ?_); (case qa => exact rfl))
  | with_reducible apply x_call
  | with_reducible refine x_ofV (fa := fC _) ?_
  | with_reducible refine x_ofV (fa := fOp _ _ _) ?_
  | with_reducible refine x_ofV (fa := fUn _ _) ?_
  | with_reducible refine x_ofV (fa := fCB _ _) ?_
  | with_reducible refine x_ofV (fa := fTup _) ?_
  | with_reducible refine x_ofV (fa := fLst _) ?_
  | with_reducible refine x_ofV (fa := fBM _ _ _ _) ?_
  | with_reducible refine x_ofV (fa := fBM0 _ _ _) ?_
  | with_reducible refine x_ofV (fa := fLc _ _ _ _ _) ?_
  | with_reducible refine x_ofV (fa := fFld _ _ _) ?_
  | with_reducible refine x_ofV (fa := fProp _ _ _) ?_
  | with_reducible refine x_ofV (fa := fMake _ _ _) ?_
  | with_reducible refine x_ofV (fa := fMakeN _ _ _ _ _ _ _) ?_
  | with_reducible refine x_ofV (fa := fSl _ _ _) ?_
  | with_reducible refine x_ofV (fa := fJoined _) ?_
  | with_reducible refine x_ofV (fa := fAndV _ _) ?_
  | with_reducible refine x_ofV (fa := fOrV _ _) ?_
  | with_reducible refine x_ofV (fa := fNotV _) ?_
  | with_reducible refine x_ofV (fa := fIf _ _ _) ?_
  | with_reducible refine x_ofV (fa := fIxO _ _) ?_
  | with_reducible refine x_ofV (fa := fCMeth _ _ _) ?_
  | with_reducible refine x_ofV (fa := fCMethN _ _ _ _ _) ?_
  | with_reducible refine x_ofV (fa := fCallN _ _ _ _ _ _) ?_
  | with_reducible refine x_ofV (fa := fIsN _) ?_
  | with_reducible refine x_ofV (fa := fNotN _) ?_
  | with_reducible apply xl_nil
  | with_reducible refine xl_cons rfl ?_
  | (refine And.intro (show List.length _ ≤ 16777216 from by simp only [List.length_cons, List.length_nil]; decide) ?_)
  | (refine And.intro (show tyS _ = some _ from rfl) ?_)
  | (refine And.intro (show flat _ = true from rfl) ?_)
  | (refine And.intro (show List.length _ = _ from rfl) ?_)
  | (refine And.intro (show List.length _ < 16777216 from by simp only [List.length_cons, List.length_nil]; decide) ?_)
  | (refine And.intro (show List.map isOwn _ = List.map isOwn _ from rfl) ?_)
  | with_reducible apply tt_intro
  | with_reducible apply nt_intro
  | with_reducible apply nnf_intro
  | with_reducible apply nnt_intro
  | with_reducible apply nf_intro
  | with_reducible apply ff_intro
  | walk_at "set")
/-! ### sizes -/
def S (n : Nat) (i : Int) : Prop := i.natAbs < 2 ^ n
theorem S.up {m n : Nat} {i : Int} (h : S m i) (l : m ≤ n) : S n i := Nat.lt_of_lt_of_le h (Nat.pow_le_pow_right (by decide) l)
theorem S.neg {n : Nat} {i : Int} (h : S n i) : S n (-i) := by unfold S at *; rwa [Int.natAbs_neg]
theorem S.add {n : Nat} {i j : Int} (h : S n i) (k : S n j) : S (n + 1) (i + j) := by
  unfold S at *
  have := Int.natAbs_add_le i j
  rw [Nat.pow_succ]
  omega
theorem S.sub {n : Nat} {i j : Int} (h : S n i) (k : S n j) : S (n + 1) (i - j) := by rw [Int.sub_eq_add_neg]; exact h.add k.neg
theorem S.mul {m n : Nat} {i j : Int} (h : S m i) (k : S n j) : S (m + n) (i * j) := by
  unfold S at *
  rw [Int.natAbs_mul, Nat.pow_add]
  exact Nat.mul_lt_mul'' h k
theorem S.log {n : Nat} {i : Int} (h : S n i) : i.natAbs.log2 ≤ n := by
  unfold S at h
  by_cases z : i.natAbs = 0
  · rw [z]; exact Nat.zero_le _
  · exact Nat.le_of_lt ((Nat.log2_lt z).mpr h)
theorem S.mulOk {m n : Nat} {i j : Int} (h : S m i) (k : S n j) (l : m + n < 1000000) : mulOk i j = true := by
  have h1 := h.log
  have h2 := k.log
  unfold DF.mulOk
  rw [Bool.or_eq_true]
  exact .inr (decide_eq_true (by omega))
/-! ### moves -/
abbrev mv (x y z : Int) : D := .ins "Move" [("_east", .int x), ("_north", .int y), ("_area", .int z)]
abbrev tr (x y z : Int) : D := .tup [.int x, .int y, .int z]
theorem f_is_integer {x : Int} : F_is_integer [.val (.int x)] = some (.ok (.val (.bl true)) none) := by kernel_rfl
theorem f_check_number {x : Int} : F_check_number [.val (.int x)] = some (.ok (.val .non) none) := by kernel_rfl
theorem f_init {x y z : Int} : F_Move_init [.own 1 (.ins "Move" []), .val (.int x), .val (.int y), .val (.int z)] = some (.ok (.val .non) (some (.ins "Move" [("_east", .int x), ("_north", .int y), ("_area", .int z)]))) := by kernel_rfl
theorem f_move {x y z : Int} : F_l_move [.val (tr x y z)] = some (.ok (.val (mv x y z)) none) := by kernel_rfl
theorem f_triple {x y z : Int} : F_triple_of [.val (mv x y z)] = some (.ok (.val (tr x y z)) none) := by kernel_rfl
theorem f_three {x y z : Int} : F_l_three [.val (mv x y z)] = some (.ok (.val (tr x y z)) none) := by kernel_rfl
theorem f_east {x y z : Int} : F_Move_east [.val (mv x y z)] = some (.ok (.val (.int x)) none) := by kernel_rfl
theorem f_north {x y z : Int} : F_Move_north [.val (mv x y z)] = some (.ok (.val (.int y)) none) := by kernel_rfl
theorem f_area {x y z : Int} : F_Move_area [.val (mv x y z)] = some (.ok (.val (.int z)) none) := by kernel_rfl
theorem f_check_move {x y z : Int} : F_check_move [.val (mv x y z)] = some (.ok (.val .non) none) := by kernel_rfl
theorem f_check_moves {x y z u v w : Int} : F_check_moves [.val (mv x y z), .val (mv u v w)] = some (.ok (.val .non) none) := by kernel_rfl
theorem f_off {x y z : Int} {n : Nat} (hx : S n x) (hy : S n y) (hn : n ≤ 400000) : F_l_off [.val (tr x y z)] = some (.ok (.val (tr (-x) (-y) (x * y - z))) none) := by
  refine Fp.eq (f_def rfl ?_)
  show X _ [_] _
  unfold B_l_off
  repeat' walk_at "x"
  refine r_mul (hx.mulOk hy (by omega)) ?_
  repeat' walk_at "x"
  exact ⟨by rw [Int.zero_sub, Int.zero_sub], rfl⟩
theorem f_put {a b c x y z : Int} {n : Nat} (ha : S n a) (hy : S n y) (hn : n ≤ 400000) : F_l_put [.val (tr a b c), .val (tr x y z)] = some (.ok (.val (tr (a + x) (b + y) (c + z + a * y))) none) := by
  refine Fp.eq (f_def rfl ?_)
  show X _ [_, _] _
  unfold B_l_put
  repeat' walk_at "x"
  refine r_mul (ha.mulOk hy (by omega)) ?_
  repeat' walk_at "x"
  exact ⟨rfl, rfl⟩
theorem f_between {x y z e n a : Int} {k : Nat} (hx : S k x) (hy : S k y) (he : S k e) (hn : S k n) (hk : k ≤ 90000) :
    F_l_between [.val (tr x y z), .val (tr e n a)] = some (.ok (.val (tr e n (a + x * n - y * e))) none) := by
  refine Fp.eq (f_def rfl ?_)
  show X _ [_, _] _
  unfold B_l_between
  repeat' walk_at "x"
  refine x_callF rfl (fp_of (f_put hx hn (by omega)) ?_)
  repeat' walk_at "x"
  refine x_callF rfl (fp_of (f_off hx hy (by omega)) ?_)
  repeat' walk_at "x"
  refine x_callF rfl (fp_of (f_put (n := k + 1) (hx.add he) (hy.neg.up (by omega)) (by omega)) ?_)
  repeat' walk_at "x"
  refine ⟨?_, rfl⟩
  have e1 : x + e + -x = e := by omega
  have e2 : y + n + -y = n := by omega
  have e3 : z + a + x * n + (x * y - z) + (x + e) * -y = a + x * n - y * e := by
    rw [Int.add_mul, Int.mul_neg, Int.mul_neg, Int.mul_comm e y]; omega
  rw [e1, e2, e3]
theorem f_cross {x y z u v w : Int} {k : Nat} (hx : S k x) (hy : S k y) (hu : S k u) (hv : S k v) (hk : k ≤ 90000) : F_cross [.val (mv x y z), .val (mv u v w)] = some (.ok (.val (.int (x * v - u * y))) none) := by
  refine Fp.eq (f_def rfl ?_)
  show X _ [_, _] _
  unfold B_cross
  repeat' walk_at "x"
  refine x_callF rfl (fp_of f_east ?_)
  repeat' walk_at "x"
  refine x_callF rfl (fp_of f_north ?_)
  repeat' walk_at "x"
  refine r_mul (hx.mulOk hv (by omega)) ?_
  repeat' walk_at "x"
  refine x_callF rfl (fp_of f_east ?_)
  repeat' walk_at "x"
  refine x_callF rfl (fp_of f_north ?_)
  repeat' walk_at "x"
  refine r_mul (hu.mulOk hy (by omega)) ?_
  repeat' walk_at "x"
  exact ⟨rfl, rfl⟩
abbrev E3 (x y z u v w : Int) : Bool := PyData.eqv (py (tr x y z)) (py (tr u v w))
theorem f_eq {x y z u v w : Int} : F_Move_eq [.val (mv x y z), .val (mv u v w)] = some (.ok (.val (.bl (E3 x y z u v w))) none) := by
  refine Fp.eq (f_def rfl ?_)
  show X _ [_, _] _
  unfold B_Move_eq
  repeat' walk_at "x"
  refine x_callF rfl (fp_of f_triple ?_)
  repeat' walk_at "x"
  refine x_callF rfl (fp_of f_triple ?_)
  repeat' walk_at "x"
  refine r_eq rfl rfl rfl ?_
  repeat' walk_at "x"
  exact ⟨rfl, rfl⟩
theorem E3_self {x y z : Int} : E3 x y z x y z = true := SeqAt.eqv_refl _ rfl
end Kr

set_option linter.all false
set_option maxRecDepth 100000
set_option pp.maxSteps 500
set_option maxHeartbeats 1000000
namespace Kr
open PySem PySem.Spec PyProof.Rows L2 DF TL NumText
variable [TbC]
/-! ### one step -/
local macro_rules | `(tactic| walk_at "set") => `(tactic| (refine' e_set ?qa ?_; (case qa => (simp only [wipeF, backF, List.set, List.getD_cons_succ, List.getD_cons_zero, Int.reduceToNat]; rfl))))
local macro_rules | `(tactic| walk_at "cnd") => `(tactic| first | assumption | decide | omega)
local macro_rules | `(tactic| walk_at "mul") => `(tactic| first | exact mulOk_r (by decide) (by decide) | exact mulOk_l (by decide) (by decide) | exact mulOk_l (by omega) (by omega) | exact mulOk_r (by omega) (by omega))
local macro_rules | `(tactic| walk_at "x") => `(tactic| first
  | with_reducible apply x_seq
  | with_reducible apply k_nx
  | with_reducible apply k_rt
  | with_reducible apply x_nx
  | with_reducible refine x_asgK (fa := fLstO _) ?_
  | with_reducible refine x_asgK (fa := fLcO _ _ _ _ _) ?_
  | with_reducible apply ak_own
  | with_reducible apply ak_val
  | with_reducible apply x_asg
  | with_reducible refine x_retK (fa := fLstO _) ?_
  | with_reducible apply rk_own
  | with_reducible apply x_ret
  | with_reducible apply x_ifS
  | with_reducible apply x_asgG
  | with_reducible apply x_drop
  | with_reducible apply x_par
  | with_reducible apply x_par3
  | with_reducible apply x_asg3
  | with_reducible apply x_for
  | with_reducible refine x_aug ⟨_, rfl, ?_⟩
  | with_reducible apply xv_c
  | (with_reducible refine xv_var rfl ?_)
  | (with_reducible refine x_varV rfl ?_)
  | (with_reducible refine x_varO rfl ?_)
  | with_reducible apply xv_op
  | with_reducible apply xv_un
  | with_reducible apply xv_cb
  | with_reducible apply xs_nil
  | with_reducible apply xs_cons
  | with_reducible apply xa_nil
  | with_reducible apply xa_cons
  | with_reducible apply xv_tup
  | with_reducible apply xv_lst
  | with_reducible apply x_lstO
  | with_reducible apply xv_if
  | with_reducible apply xv_andV
  | with_reducible apply xv_orV
  | with_reducible apply xv_notV
  | with_reducible apply xv_isN
  | with_reducible apply xv_notN
  | with_reducible apply xt_test
  | with_reducible apply xt_tru
  | with_reducible apply xt_not
  | with_reducible apply xt_and
  | with_reducible apply xt_or
  | with_reducible apply xt_yes
  | with_reducible apply xv_call
  | with_reducible apply xv_callN
  | with_reducible apply xv_cmeth
  | with_reducible apply xv_cmethN
  | with_reducible apply xv_fld
  | with_reducible apply xv_prop
  | with_reducible apply x_setF
  | with_reducible apply xv_make
  | with_reducible apply xv_makeN
  | (with_reducible refine xv_makeL rfl ?_)
  | with_reducible apply xg_name
  | with_reducible apply xg_nil
  | with_reducible apply xg_cons
  | (with_reducible refine xg_tup rfl ?_)
  | (with_reducible refine xg_unl rfl ?_)
  | (with_reducible refine xg_sub rfl ?_)
  | (with_reducible refine xv_ixO rfl ?_)
  | ((with_reducible refine' xv_pk ?qa ?_); (case qa => (simp only [List.map, seeO, odD]; rfl)))
  | ((with_reducible refine' xt_pk ?qa ?_); (case qa => (simp only [List.map, seeO, odD]; rfl)))
  | with_reducible apply xv_bm
  | with_reducible apply xv_bm0
  | with_reducible apply xv_sl
  | with_reducible apply xo_no
  | with_reducible apply xo_some
  | with_reducible apply xv_revS
  | with_reducible apply xv_revL
  | with_reducible apply xv_fmt
  | with_reducible apply xw_any
  | with_reducible apply xw_rng1
  | with_reducible apply xw_rng2
  | with_reducible apply xv_lc
  | with_reducible apply vk_val
  | with_reducible apply bk_none
  | with_reducible apply bk_tmp
  | (with_reducible refine bk_slot rfl ?_)
  | with_reducible apply rk_val
  | with_reducible apply fk_nx
  | with_reducible apply fk_rt
  | ((with_reducible refine' e_par ?qa ?_); (case qa => (simp only [List.set]; rfl)))
  | ((with_reducible refine' e_par3 ?qa ?_); (case qa => (simp only [List.set]; rfl)))
  | ((with_reducible refine' e_ixO ?qa ?qb ?_); (case qa => exact rfl); (case qb => exact rfl))
  | ((with_reducible refine' e_sub ?qa ?qb ?qc ?_); (case qa => exact rfl); (case qb => exact rfl); (case qc => (simp only [List.set, Int.reduceToNat]; rfl)))
  | ((with_reducible refine' e_setF ?qa ?qb ?qc ?_); (case qa => exact rfl); (case qb => (simp only [List.length_cons, List.length_nil]; decide)); (case qc => (simp only [List.set, Int.reduceToNat]; rfl)))
  | ((with_reducible refine' e_fields ?qa ?qb ?_); (case qa => exact rfl); (case qb => exact rfl))
  | ((with_reducible refine' e_has ?qa ?_); (case qa => exact rfl))
  | with_reducible apply r_addI
  | with_reducible apply r_sub
  | with_reducible apply r_lt
  | with_reducible apply r_gt
  | with_reducible apply r_le
  | with_reducible apply r_ge
  | with_reducible apply r_int
  | with_reducible apply r_intB
  | with_reducible apply r_abs
  | with_reducible refine r_dec2 (fun h => ?_) (fun h => ?_)
  | with_reducible refine r_decN2 (fun h => ?_) (fun h => ?_)
  | with_reducible refine r_decM2 (fun h => ?_) (fun h => ?_)
  | with_reducible apply r_bool
  | with_reducible apply r_truB
  | with_reducible apply r_len
  | with_reducible apply r_lenS
  | with_reducible apply r_orEqS
  | with_reducible apply r_orNeS
  | with_reducible apply r_orEqI
  | with_reducible apply r_orNeI
  | with_reducible apply xv_joined
  | with_reducible apply xj_cons
  | with_reducible apply xj_nil
  | with_reducible apply r_eqI
  | with_reducible apply r_neI
  | with_reducible apply r_eqS
  | with_reducible apply r_neS
  | ((with_reducible refine' e_addD ?qa ?_); (case qa => exact rfl))
  | ((with_reducible refine' e_subD ?qa ?_); (case qa => exact rfl))
  | ((with_reducible refine' r_mul ?qa ?_); (case qa => walk_at "mul"))
  | ((with_reducible refine' r_mod ?qa ?_); (case qa => walk_at "cnd"))
  | ((with_reducible refine' r_fdiv ?qa ?qb ?_); (case qa => walk_at "cnd"); (case qb => walk_at "cnd"))
  | ((with_reducible refine' r_divmod ?qa ?qb ?_); (case qa => walk_at "cnd"); (case qb => walk_at "cnd"))
  | ((with_reducible refine' e_ltD ?qa ?_); (case qa => exact rfl))
  | ((with_reducible refine' e_leD ?qa ?_); (case qa => exact rfl))
  | ((with_reducible refine' e_gtD ?qa ?_); (case qa => exact rfl))
  | ((with_reducible refine' e_geD ?qa ?_); (case qa => exact rfl))
  | ((with_reducible refine' e_negD ?qa ?_); (case qa => exact rfl))
  | ((with_reducible refine' e_ixD ?qa ?_); (case qa => exact rfl))
  | ((with_reducible refine' e_intD ?qa ?_); (case qa => exact rfl))
  | ((with_reducible refine' e_absD ?qa ?_); (case qa => exact rfl))
  | ((with_reducible refine' e_intOf ?qa ?_); (case qa => exact rfl))
  | ((with_reducible refine' e_tupOf ?qa ?_); (case qa => exact rfl))
  | ((with_reducible refine' e_lstOf ?qa ?_); (case qa => exact rfl))
  | ((with_reducible refine' e2_boolOf ?qa ?_ ?_); (case qa => exact rfl))
  | ((with_reducible refine' e_boolOf ?qa ?_); (case qa => exact rfl))
  | ((with_reducible refine' e_truD ?qa ?_); (case qa => exact rfl))
  | ((with_reducible refine' e_itemsOf ?qa ?_); (case qa => exact rfl))
  | ((with_reducible refine' e_slD ?qa ?_); (case qa => exact rfl))
  | ((with_reducible refine' e_isiD ?qa ?_); (case qa => exact rfl))
  | ((with_reducible refine' e_boolI ?qa ?_); (case qa => exact rfl))
  | ((with_reducible refine' e_rng ?qa ?_); (case qa => exact ⟨by omega, by omega⟩))
  | with_reducible apply e_some
  | with_reducible apply e_str
  | with_reducible apply e_rev
  | ((with_reducible refine' en_val ?qa ?_); (case qa => exact rfl))
  | ((with_reducible refine' en_own ?qa ?_); (case qa => exact rfl))
  | ((with_reducible refine' en_nx ?qa ?_); (case qa => exact rfl))
  | with_reducible apply x_call
  | with_reducible refine x_ofV (fa := fC _) ?_
  | with_reducible refine x_ofV (fa := fOp _ _ _) ?_
  | with_reducible refine x_ofV (fa := fUn _ _) ?_
  | with_reducible refine x_ofV (fa := fCB _ _) ?_
  | with_reducible refine x_ofV (fa := fTup _) ?_
  | with_reducible refine x_ofV (fa := fLst _) ?_
  | with_reducible refine x_ofV (fa := fBM _ _ _ _) ?_
  | with_reducible refine x_ofV (fa := fBM0 _ _ _) ?_
  | with_reducible refine x_ofV (fa := fLc _ _ _ _ _) ?_
  | with_reducible refine x_ofV (fa := fFld _ _ _) ?_
  | with_reducible refine x_ofV (fa := fProp _ _ _) ?_
  | with_reducible refine x_ofV (fa := fMake _ _ _) ?_
  | with_reducible refine x_ofV (fa := fMakeN _ _ _ _ _ _ _) ?_
  | with_reducible refine x_ofV (fa := fSl _ _ _) ?_
  | with_reducible refine x_ofV (fa := fJoined _) ?_
  | with_reducible refine x_ofV (fa := fAndV _ _) ?_
  | with_reducible refine x_ofV (fa := fOrV _ _) ?_
  | with_reducible refine x_ofV (fa := fNotV _) ?_
  | with_reducible refine x_ofV (fa := fIf _ _ _) ?_
  | with_reducible refine x_ofV (fa := fIxO _ _) ?_
  | with_reducible refine x_ofV (fa := fCMeth _ _ _) ?_
  | with_reducible refine x_ofV (fa := fCMethN _ _ _ _ _) ?_
  | with_reducible refine x_ofV (fa := fCallN _ _ _ _ _ _) ?_
  | with_reducible refine x_ofV (fa := fIsN _) ?_
  | with_reducible refine x_ofV (fa := fNotN _) ?_
  | with_reducible apply xl_nil
  | with_reducible refine xl_cons rfl ?_
  | (refine And.intro (show List.length _ ≤ 16777216 from by simp only [List.length_cons, List.length_nil]; decide) ?_)
  | (refine And.intro (show tyS _ = some _ from rfl) ?_)
  | (refine And.intro (show flat _ = true from rfl) ?_)
  | (refine And.intro (show List.length _ = _ from rfl) ?_)
  | (refine And.intro (show List.length _ < 16777216 from by simp only [List.length_cons, List.length_nil]; decide) ?_)
  | (refine And.intro (show List.map isOwn _ = List.map isOwn _ from rfl) ?_)
  | with_reducible apply tt_intro
  | with_reducible apply nt_intro
  | with_reducible apply nnf_intro
  | with_reducible apply nnt_intro
  | with_reducible apply nf_intro
  | with_reducible apply ff_intro
  | walk_at "set")
section
variable {Γ : EnvF} {fs : FA} {Φ : List D → EnvF → Prop}
theorem xf_nil {g : D → FM Unit} {fS : FS} {ΦS : Fl → EnvF → Prop} (h : ΦS .nx Γ) : X (forL g fS []) Γ ΦS := ⟨_, _, rfl, h⟩
theorem xf_cons {g : D → FM Unit} {fS : FS} {ΦS : Fl → EnvF → Prop} {d : D} {ds : List D} (h : X (g d) Γ fun _ Γ1 => X fS Γ1 (ForK (fun Γ2 => X (forL g fS ds) Γ2 ΦS) ΦS)) : X (forL g fS (d :: ds)) Γ ΦS := by
  refine x_bind (h.imp fun _ g1 p => x_bind (p.imp fun v g2 p => ?_))
  cases v with
  | nx => exact p
  | ct => exact p
  | bk => exact ⟨_, _, rfl, p⟩
  | rt v => exact ⟨_, _, rfl, p⟩
theorem xw_enum (h : X (fVs fs) Γ fun ds Γ' => ∃ x l, ds = [x] ∧ lstOfD x = some l ∧ Φ (enumD l) Γ') : X (wEnum fs) Γ Φ := x_bind (h.imp fun _ g p => by
  obtain ⟨x, l, e, e2, p⟩ := p
  subst e
  exact ⟨enumD l, g, by show fOf ((lstOfD x).map enumD) g = _; rw [e2]; rfl, p⟩)
theorem xw_zip (h : X (fVs fs) Γ fun ds Γ' => ∃ x y a b, ds = [x, y] ∧ lstOfD x = some a ∧ lstOfD y = some b ∧ Φ (zipD a b) Γ') : X (wZip fs) Γ Φ := x_bind (h.imp fun _ g p => by
  obtain ⟨x, y, a, b, e, e2, e3, p⟩ := p
  subst e
  exact ⟨zipD a b, g, by show fOf ((lstOfD x).bind fun a => (lstOfD y).map fun b => zipD a b) g = _; rw [e2, e3]; rfl, p⟩)
end
/-! ### rows of three -/
abbrev ro (x u v : Int) : D := .lst [.int x, .int u, .int v]
theorem f_less {x u v t y w z : Int} {k : Nat} (ht : S k t) (hy : S k y) (hw : S k w) (hz : S k z) (hk : k ≤ 400000) : F_less [.val (ro x u v), .val (.int t), .val (ro y w z)] = some (.ok (.val (ro (x - t * y) (u - t * w) (v - t * z))) none) := by
  refine Fp.eq (f_def rfl ?_)
  show X _ [_, _, _, _, _] _
  unfold B_less
  repeat' walk_at "x"
  refine xw_zip ?_
  repeat' walk_at "x"
  refine ⟨_, _, _, _, rfl, rfl, rfl, ?_⟩
  show List.length [D.tup [.int x, .int y], .tup [.int u, .int w], .tup [.int v, .int z]] < 16777216 ∧ X (lcL _ _ _ _ [D.tup [.int x, .int y], .tup [.int u, .int w], .tup [.int v, .int z]] _) _ _
  refine ⟨Nat.le_of_ble_eq_true rfl, ?_⟩
  repeat' walk_at "x"
  refine r_mul (ht.mulOk hy (by omega)) ?_
  repeat' walk_at "x"
  refine r_mul (ht.mulOk hw (by omega)) ?_
  repeat' walk_at "x"
  refine r_mul (ht.mulOk hz (by omega)) ?_
  repeat' walk_at "x"
  exact ⟨rfl, rfl⟩
theorem f_pivot1 {x : Int} : F_pivot_place [.val (.lst [.int x])] = some (.ok (.val (if x = 0 then .non else .int 0)) none) := by
  refine Fp.eq (f_def rfl ?_)
  show X _ [_, _, _] _
  unfold B_pivot_place
  repeat' walk_at "x"
  refine xw_enum ?_
  repeat' walk_at "x"
  refine ⟨_, _, rfl, rfl, ?_⟩
  show X (forL _ _ [D.tup [.int 0, .int x]]) _ _
  refine xf_cons ?_
  repeat' walk_at "x"
  · refine xf_nil ?_
    repeat' walk_at "x"
    exact ⟨by rw [if_pos (by assumption)], rfl⟩
  · exact ⟨by rw [if_neg (by assumption)], rfl⟩
theorem f_pivot3 {x u v : Int} (h : x ≠ 0) : F_pivot_place [.val (ro x u v)] = some (.ok (.val (.int 0)) none) := by
  refine Fp.eq (f_def rfl ?_)
  show X _ [_, _, _] _
  unfold B_pivot_place
  repeat' walk_at "x"
  refine xw_enum ?_
  repeat' walk_at "x"
  refine ⟨_, _, rfl, rfl, ?_⟩
  show X (forL _ _ [D.tup [.int 0, .int x], D.tup [.int 1, .int u], D.tup [.int 2, .int v]]) _ _
  refine xf_cons ?_
  repeat' walk_at "x"
  all_goals (first | exact ⟨rfl, rfl⟩ | exact absurd ‹_› h)
/-! taking by lines -/
theorem f_taken0 {d : Int} : F_taken_by_lines [.val (.lst []), .val (ro d 0 0)] = some (.ok (.val (.tup [ro d 0 0, .lst []])) none) := by
  refine Fp.eq (f_def rfl ?_)
  show X _ [_, _, _, _, _, _, _] _
  unfold B_taken_by_lines
  repeat' walk_at "x"
  refine xf_nil ?_
  repeat' walk_at "x"
  refine x_frz (i := 3) rfl ?_
  simp only [List.set]
  repeat' walk_at "x"
  exact ⟨rfl, rfl⟩
theorem f_taken1 {d g u v : Int} {k n : Nat} (h : 0 < g) (hg : S k g) (hu : S n u) (hv : S n v) (hd : S k d) (hk : k ≤ 8000) (kn : k ≤ n) (hn : n ≤ 400000) : F_taken_by_lines [.val (.lst [ro g u v]), .val (ro d 0 0)] =
    some (.ok (.val (.tup [ro (d - d / g * g) (0 - d / g * u) (0 - d / g * v), .lst [.int (d / g)]])) none) := by
  have hq : S k (d / g) := by
    unfold S at *
    exact Nat.lt_of_le_of_lt (Int.natAbs_ediv_le_natAbs d g) hd
  refine Fp.eq (f_def rfl ?_)
  show X _ [_, _, _, _, _, _, _] _
  unfold B_taken_by_lines
  repeat' walk_at "x"
  refine xf_cons ?_
  repeat' walk_at "x"
  refine x_callF rfl (fp_of (f_pivot3 (by omega)) ?_)
  repeat' walk_at "x"
  refine r_fdiv h (Nat.lt_of_le_of_lt hg.log (by omega)) ?_
  repeat' walk_at "x"
  refine x_callF rfl (fp_of (f_less (k := n) (hq.up kn) (hg.up kn) hu hv hn) ?_)
  repeat' walk_at "x"
  refine xv_append rfl (xv_var rfl ?_)
  refine ⟨_, _, _, rfl, Nat.le_of_ble_eq_true rfl, rfl, ?_⟩
  simp only [List.set, List.cons_append, List.nil_append]
  repeat' walk_at "x"
  refine xf_nil ?_
  repeat' walk_at "x"
  refine x_frz (i := 3) rfl ?_
  simp only [List.set]
  repeat' walk_at "x"
  exact ⟨rfl, rfl⟩
theorem sortK2 {A B : D} {x y : Int} : TX.sortK [A, B] [x, y] = if TX.absI x ≤ TX.absI y then [A, B] else [B, A] := by
  unfold TX.sortK
  by_cases h : TX.absI x ≤ TX.absI y
  · rw [if_pos h]
    simp [List.mergeSort, List.MergeSort.Internal.splitInTwo, List.merge, TX.keyLe, h]
  · rw [if_neg h]
    simp [List.mergeSort, List.MergeSort.Internal.splitInTwo, List.merge, TX.keyLe, h]
end Kr

set_option linter.all false
set_option maxRecDepth 100000
set_option pp.maxSteps 500
set_option maxHeartbeats 1000000
namespace Kr
open PySem PySem.Spec PyProof.Rows L2 DF TL NumText
variable [TbC]
/-! floor division's rest -/
theorem fm_pos {l o : Int} (h : 0 < l) : o - o.fdiv l * l = o % l := by
  rw [Int.fdiv_eq_ediv_of_nonneg _ (by omega)]
  have := Int.mul_ediv_add_emod o l
  rw [Int.mul_comm] at this
  omega
theorem fm_neg {l o : Int} (h : l < 0) : o - o.fdiv l * l = -((-o) % (-l)) := by
  have e : o.fdiv l = (-o) / (-l) := by rw [← Int.neg_fdiv_neg, Int.fdiv_eq_ediv_of_nonneg _ (by omega)]
  rw [e]
  have := Int.mul_ediv_add_emod (-o) (-l)
  rw [Int.mul_comm, Int.mul_neg] at this
  omega
theorem mod_half {l o : Int} (h : 0 < l) (k : l ≤ o) : 2 * (o % l) < o ∨ o % l = 0 := by
  have h1 : 1 ≤ o / l := (Int.le_ediv_iff_mul_le h).mpr (by omega)
  have h2 := Int.mul_le_mul_of_nonneg_left h1 (Int.le_of_lt h)
  have h3 := Int.mul_ediv_add_emod o l
  have h4 := Int.emod_lt_of_pos o h
  have h5 := Int.emod_nonneg o (Int.ne_of_gt h)
  omega
theorem fm_lt {l o : Int} (h : l ≠ 0) : (o - o.fdiv l * l).natAbs < l.natAbs := by
  rcases Int.lt_or_gt_of_ne h with h | h
  · rw [fm_neg h]
    have h4 := Int.emod_lt_of_pos (-o) (b := -l) (by omega)
    have h5 := Int.emod_nonneg (-o) (b := -l) (by omega)
    omega
  · rw [fm_pos h]
    have h4 := Int.emod_lt_of_pos o h
    have h5 := Int.emod_nonneg o (Int.ne_of_gt h)
    omega
theorem fm_sign {l o : Int} (h : l ≠ 0) (r : o - o.fdiv l * l ≠ 0) : 0 < l * (o - o.fdiv l * l) := by
  rcases Int.lt_or_gt_of_ne h with h | h
  · rw [fm_neg h] at r ⊢
    have h5 := Int.emod_nonneg (-o) (b := -l) (by omega)
    exact Int.mul_pos_of_neg_of_neg h (by omega)
  · rw [fm_pos h] at r ⊢
    have h5 := Int.emod_nonneg o (Int.ne_of_gt h)
    exact Int.mul_pos h (by omega)
theorem fm_half {l o : Int} (s : 0 < l * o) (k : l.natAbs ≤ o.natAbs) (r : o - o.fdiv l * l ≠ 0) : 2 * (o - o.fdiv l * l).natAbs < o.natAbs := by
  have h : l ≠ 0 := by rintro rfl; simp at s
  rcases Int.lt_or_gt_of_ne h with h | h
  · rw [fm_neg h] at r ⊢
    have ho : o < 0 := by
      rcases Int.lt_or_le o 0 with z | z
      · exact z
      · have := Int.mul_nonneg (a := -l) (b := o) (by omega) z
        rw [Int.neg_mul] at this
        omega
    have h5 := Int.emod_nonneg (-o) (b := -l) (by omega)
    have := mod_half (l := -l) (o := -o) (by omega) (by omega)
    omega
  · rw [fm_pos h] at r ⊢
    have ho : 0 < o := by
      rcases Int.lt_or_le 0 o with z | z
      · exact z
      · have := Int.mul_nonneg (a := l) (b := -o) (by omega) (by omega)
        rw [Int.mul_neg] at this
        omega
    have h5 := Int.emod_nonneg o (Int.ne_of_gt h)
    have := mod_half (l := l) (o := o) (by omega) (by omega)
    omega
structure Two (a b : Int) (m : Nat) (x u v y w z : Int) : Prop where
  x0 : x ≠ 0
  y0 : y ≠ 0
  g : Int.gcd x y = Int.gcd a b
  lx : x = u * a + v * b
  ly : y = w * a + z * b
  sx : S 100 x
  sy : S 100 y
  m0 : m ≤ 201
  su : S (1 + 101 * (201 - m)) u
  sv : S (1 + 101 * (201 - m)) v
  sw : S (1 + 101 * (201 - m)) w
  sz : S (1 + 101 * (201 - m)) z
  me : (0 < x * y ∧ x.natAbs * y.natAbs < 2 ^ m) ∨ (1 ≤ m ∧ x.natAbs * y.natAbs < 2 ^ (m - 1))
theorem Two.swap {a b x u v y w z : Int} {m : Nat} (h : Two a b m x u v y w z) : Two a b m y w z x u v :=
  ⟨h.y0, h.x0, by rw [Int.gcd_comm]; exact h.g, h.ly, h.lx, h.sy, h.sx, h.m0, h.sw, h.sz, h.su, h.sv, by rw [Int.mul_comm, Nat.mul_comm]; exact h.me⟩
theorem fdiv_S {n : Nat} {o l : Int} (h : S n o) : S n (o.fdiv l) := Nat.lt_of_le_of_lt (Int.natAbs_fdiv_le_natAbs o l) h
theorem Two.m1 {a b x u v y w z : Int} {m : Nat} (h : Two a b m x u v y w z) : 1 ≤ m := by
  rcases h.me with ⟨_, h2⟩ | ⟨h1, _⟩
  · rcases Nat.eq_zero_or_pos m with e | e
    · subst e
      have := Nat.mul_pos (Int.natAbs_pos.mpr h.x0) (Int.natAbs_pos.mpr h.y0)
      omega
    · exact e
  · exact h1
theorem Two.next {a b l u v o w z : Int} {m : Nat} (h : Two a b m l u v o w z) (k : l.natAbs ≤ o.natAbs) (r : o - o.fdiv l * l ≠ 0) :
    Two a b (m - 1) l u v (o - o.fdiv l * l) (w - o.fdiv l * u) (z - o.fdiv l * v) := by
  have m1 := h.m1
  have lt := fm_lt (o := o) h.x0
  have hq : S 100 (o.fdiv l) := fdiv_S h.sy
  have up : ∀ {i j : Int}, S (1 + 101 * (201 - m)) i → S (1 + 101 * (201 - m)) j → S (1 + 101 * (201 - (m - 1))) (i - o.fdiv l * j) := fun hi hj => by
    have := (hi.up (n := 100 + (1 + 101 * (201 - m))) (by omega)).sub (hq.mul hj)
    exact this.up (by have := h.m0; omega)
  have upo : ∀ {i : Int}, S (1 + 101 * (201 - m)) i → S (1 + 101 * (201 - (m - 1))) i := fun hi => hi.up (by omega)
  refine ⟨h.x0, r, ?_, h.lx, ?_, h.sx, Nat.lt_trans lt h.sx, by have := h.m0; omega, upo h.su, upo h.sv, up h.sw h.su, up h.sz h.sv, .inl ⟨fm_sign h.x0 r, ?_⟩⟩
  · rw [← h.g, Int.gcd_sub_mul_right_right]
  · have e1 := h.lx
    have e2 := h.ly
    generalize o.fdiv l = q
    rw [e1, e2, Int.sub_mul, Int.sub_mul, Int.mul_add, Int.mul_assoc, Int.mul_assoc]
    omega
  · rcases h.me with ⟨s, h2⟩ | ⟨_, h2⟩
    · have hh := fm_half s k r
      have e : 2 ^ m = 2 * 2 ^ (m - 1) := by rw [← Nat.pow_succ']; congr 1; omega
      have : l.natAbs * (2 * (o - o.fdiv l * l).natAbs) ≤ l.natAbs * o.natAbs := Nat.mul_le_mul_left _ (Nat.le_of_lt hh)
      rw [Nat.mul_left_comm] at this
      omega
    · exact Nat.lt_of_le_of_lt (Nat.mul_le_mul_left _ (Nat.le_trans (Nat.le_of_lt lt) k)) h2
theorem Two.last {a b l u v o w z : Int} {m : Nat} (h : Two a b m l u v o w z) (r : o - o.fdiv l * l = 0) : l.natAbs = Int.gcd a b := by
  rw [← h.g]
  have e : o = l * o.fdiv l := by rw [Int.mul_comm]; omega
  rw [e]
  simp
end Kr

set_option linter.all false
set_option maxRecDepth 100000
set_option pp.maxSteps 500
set_option maxHeartbeats 1000000
namespace Kr
open PySem PySem.Spec PyProof.Rows L2 DF TL NumText
variable [TbC]
/-! ### one step -/
local macro_rules | `(tactic| walk_at "set") => `(tactic| (refine' e_set ?qa ?_; (case qa => (simp only [wipeF, backF, List.set, List.getD_cons_succ, List.getD_cons_zero, Int.reduceToNat]; rfl))))
local macro_rules | `(tactic| walk_at "cnd") => `(tactic| first | assumption | decide | omega)
local macro_rules | `(tactic| walk_at "mul") => `(tactic| first | exact mulOk_r (by decide) (by decide) | exact mulOk_l (by decide) (by decide) | exact mulOk_l (by omega) (by omega) | exact mulOk_r (by omega) (by omega))
local macro_rules | `(tactic| walk_at "x") => `(tactic| first
  | with_reducible apply x_seq
  | with_reducible apply k_nx
  | with_reducible apply k_rt
  | with_reducible apply x_nx
  | with_reducible refine x_asgK (fa := fLstO _) ?_
  | with_reducible refine x_asgK (fa := fLcO _ _ _ _ _) ?_
  | with_reducible apply ak_own
  | with_reducible apply ak_val
  | with_reducible apply x_asg
  | with_reducible refine x_retK (fa := fLstO _) ?_
  | with_reducible apply rk_own
  | with_reducible apply x_ret
  | with_reducible apply x_ifS
  | with_reducible apply x_asgG
  | with_reducible apply x_drop
  | with_reducible apply x_par
  | with_reducible apply x_par3
  | with_reducible apply x_asg3
  | with_reducible apply x_for
  | with_reducible refine x_aug ⟨_, rfl, ?_⟩
  | with_reducible apply xv_c
  | (with_reducible refine xv_var rfl ?_)
  | (with_reducible refine x_varV rfl ?_)
  | (with_reducible refine x_varO rfl ?_)
  | with_reducible apply xv_op
  | with_reducible apply xv_un
  | with_reducible apply xv_cb
  | with_reducible apply xs_nil
  | with_reducible apply xs_cons
  | with_reducible apply xa_nil
  | with_reducible apply xa_cons
  | with_reducible apply xv_tup
  | with_reducible apply xv_lst
  | with_reducible apply x_lstO
  | with_reducible apply xv_if
  | with_reducible apply xv_andV
  | with_reducible apply xv_orV
  | with_reducible apply xv_notV
  | with_reducible apply xv_isN
  | with_reducible apply xv_notN
  | with_reducible apply xt_test
  | with_reducible apply xt_tru
  | with_reducible apply xt_not
  | with_reducible apply xt_and
  | with_reducible apply xt_or
  | with_reducible apply xt_yes
  | with_reducible apply xv_call
  | with_reducible apply xv_callN
  | with_reducible apply xv_cmeth
  | with_reducible apply xv_cmethN
  | with_reducible apply xv_fld
  | with_reducible apply xv_prop
  | with_reducible apply x_setF
  | with_reducible apply xv_make
  | with_reducible apply xv_makeN
  | (with_reducible refine xv_makeL rfl ?_)
  | with_reducible apply xg_name
  | with_reducible apply xg_nil
  | with_reducible apply xg_cons
  | (with_reducible refine xg_tup rfl ?_)
  | (with_reducible refine xg_unl rfl ?_)
  | (with_reducible refine xg_sub rfl ?_)
  | (with_reducible refine xv_ixO rfl ?_)
  | ((with_reducible refine' xv_pk ?qa ?_); (case qa => (simp only [List.map, seeO, odD]; rfl)))
  | ((with_reducible refine' xt_pk ?qa ?_); (case qa => (simp only [List.map, seeO, odD]; rfl)))
  | with_reducible apply xv_bm
  | with_reducible apply xv_bm0
  | with_reducible apply xv_sl
  | with_reducible apply xo_no
  | with_reducible apply xo_some
  | with_reducible apply xv_revS
  | with_reducible apply xv_revL
  | with_reducible apply xv_fmt
  | with_reducible apply xw_any
  | with_reducible apply xw_rng1
  | with_reducible apply xw_rng2
  | with_reducible apply xv_lc
  | with_reducible apply vk_val
  | with_reducible apply bk_none
  | with_reducible apply bk_tmp
  | (with_reducible refine bk_slot rfl ?_)
  | with_reducible apply rk_val
  | with_reducible apply fk_nx
  | with_reducible apply fk_rt
  | ((with_reducible refine' e_par ?qa ?_); (case qa => (simp only [List.set]; rfl)))
  | ((with_reducible refine' e_par3 ?qa ?_); (case qa => (simp only [List.set]; rfl)))
  | ((with_reducible refine' e_ixO ?qa ?qb ?_); (case qa => exact rfl); (case qb => exact rfl))
  | ((with_reducible refine' e_sub ?qa ?qb ?qc ?_); (case qa => exact rfl); (case qb => exact rfl); (case qc => (simp only [List.set, Int.reduceToNat]; rfl)))
  | ((with_reducible refine' e_setF ?qa ?qb ?qc ?_); (case qa => exact rfl); (case qb => (simp only [List.length_cons, List.length_nil]; decide)); (case qc => (simp only [List.set, Int.reduceToNat]; rfl)))
  | ((with_reducible refine' e_fields ?qa ?qb ?_); (case qa => exact rfl); (case qb => exact rfl))
  | ((with_reducible refine' e_has ?qa ?_); (case qa => exact rfl))
  | with_reducible apply r_addI
  | with_reducible apply r_sub
  | with_reducible apply r_lt
  | with_reducible apply r_gt
  | with_reducible apply r_le
  | with_reducible apply r_ge
  | with_reducible apply r_int
  | with_reducible apply r_intB
  | with_reducible apply r_abs
  | with_reducible refine r_dec2 (fun h => ?_) (fun h => ?_)
  | with_reducible refine r_decN2 (fun h => ?_) (fun h => ?_)
  | with_reducible refine r_decM2 (fun h => ?_) (fun h => ?_)
  | with_reducible apply r_bool
  | with_reducible apply r_truB
  | with_reducible apply r_len
  | with_reducible apply r_lenS
  | with_reducible apply r_orEqS
  | with_reducible apply r_orNeS
  | with_reducible apply r_orEqI
  | with_reducible apply r_orNeI
  | with_reducible apply xv_joined
  | with_reducible apply xj_cons
  | with_reducible apply xj_nil
  | with_reducible apply r_eqI
  | with_reducible apply r_neI
  | with_reducible apply r_eqS
  | with_reducible apply r_neS
  | ((with_reducible refine' e_addD ?qa ?_); (case qa => exact rfl))
  | ((with_reducible refine' e_subD ?qa ?_); (case qa => exact rfl))
  | ((with_reducible refine' r_mul ?qa ?_); (case qa => walk_at "mul"))
  | ((with_reducible refine' r_mod ?qa ?_); (case qa => walk_at "cnd"))
  | ((with_reducible refine' r_fdiv ?qa ?qb ?_); (case qa => walk_at "cnd"); (case qb => walk_at "cnd"))
  | ((with_reducible refine' r_divmod ?qa ?qb ?_); (case qa => walk_at "cnd"); (case qb => walk_at "cnd"))
  | ((with_reducible refine' e_ltD ?qa ?_); (case qa => exact rfl))
  | ((with_reducible refine' e_leD ?qa ?_); (case qa => exact rfl))
  | ((with_reducible refine' e_gtD ?qa ?_); (case qa => exact rfl))
  | ((with_reducible refine' e_geD ?qa ?_); (case qa => exact rfl))
  | ((with_reducible refine' e_negD ?qa ?_); (case qa => exact rfl))
  | ((with_reducible refine' e_ixD ?qa ?_); (case qa => exact rfl))
  | ((with_reducible refine' e_intD ?qa ?_); (case qa => exact rfl))
  | ((with_reducible refine' e_absD ?qa ?_); (case qa => exact rfl))
  | ((with_reducible refine' e_intOf ?qa ?_); (case qa => exact rfl))
  | ((with_reducible refine' e_tupOf ?qa ?_); (case qa => exact rfl))
  | ((with_reducible refine' e_lstOf ?qa ?_); (case qa => exact rfl))
  | ((with_reducible refine' e2_boolOf ?qa ?_ ?_); (case qa => exact rfl))
  | ((with_reducible refine' e_boolOf ?qa ?_); (case qa => exact rfl))
  | ((with_reducible refine' e_truD ?qa ?_); (case qa => exact rfl))
  | ((with_reducible refine' e_itemsOf ?qa ?_); (case qa => exact rfl))
  | ((with_reducible refine' e_slD ?qa ?_); (case qa => exact rfl))
  | ((with_reducible refine' e_isiD ?qa ?_); (case qa => exact rfl))
  | ((with_reducible refine' e_boolI ?qa ?_); (case qa => exact rfl))
  | ((with_reducible refine' e_rng ?qa ?_); (case qa => exact ⟨by omega, by omega⟩))
  | with_reducible apply e_some
  | with_reducible apply e_str
  | with_reducible apply e_rev
  | ((with_reducible refine' en_val ?qa ?_); (case qa => exact rfl))
  | ((with_reducible refine' en_own ?qa ?_); (case qa => exact rfl))
  | ((with_reducible refine' en_nx ?qa ?_); (case qa => exact rfl))
  | with_reducible apply x_call
  | with_reducible refine x_ofV (fa := fC _) ?_
  | with_reducible refine x_ofV (fa := fOp _ _ _) ?_
  | with_reducible refine x_ofV (fa := fUn _ _) ?_
  | with_reducible refine x_ofV (fa := fCB _ _) ?_
  | with_reducible refine x_ofV (fa := fTup _) ?_
  | with_reducible refine x_ofV (fa := fLst _) ?_
  | with_reducible refine x_ofV (fa := fBM _ _ _ _) ?_
  | with_reducible refine x_ofV (fa := fBM0 _ _ _) ?_
  | with_reducible refine x_ofV (fa := fLc _ _ _ _ _) ?_
  | with_reducible refine x_ofV (fa := fFld _ _ _) ?_
  | with_reducible refine x_ofV (fa := fProp _ _ _) ?_
  | with_reducible refine x_ofV (fa := fMake _ _ _) ?_
  | with_reducible refine x_ofV (fa := fMakeN _ _ _ _ _ _ _) ?_
  | with_reducible refine x_ofV (fa := fSl _ _ _) ?_
  | with_reducible refine x_ofV (fa := fJoined _) ?_
  | with_reducible refine x_ofV (fa := fAndV _ _) ?_
  | with_reducible refine x_ofV (fa := fOrV _ _) ?_
  | with_reducible refine x_ofV (fa := fNotV _) ?_
  | with_reducible refine x_ofV (fa := fIf _ _ _) ?_
  | with_reducible refine x_ofV (fa := fIxO _ _) ?_
  | with_reducible refine x_ofV (fa := fCMeth _ _ _) ?_
  | with_reducible refine x_ofV (fa := fCMethN _ _ _ _ _) ?_
  | with_reducible refine x_ofV (fa := fCallN _ _ _ _ _ _) ?_
  | with_reducible refine x_ofV (fa := fIsN _) ?_
  | with_reducible refine x_ofV (fa := fNotN _) ?_
  | with_reducible apply xl_nil
  | with_reducible refine xl_cons rfl ?_
  | (refine And.intro (show List.length _ ≤ 16777216 from by simp only [List.length_cons, List.length_nil]; decide) ?_)
  | (refine And.intro (show tyS _ = some _ from rfl) ?_)
  | (refine And.intro (show flat _ = true from rfl) ?_)
  | (refine And.intro (show List.length _ = _ from rfl) ?_)
  | (refine And.intro (show List.length _ < 16777216 from by simp only [List.length_cons, List.length_nil]; decide) ?_)
  | (refine And.intro (show List.map isOwn _ = List.map isOwn _ from rfl) ?_)
  | with_reducible apply tt_intro
  | with_reducible apply nt_intro
  | with_reducible apply nnf_intro
  | with_reducible apply nnt_intro
  | with_reducible apply nf_intro
  | with_reducible apply ff_intro
  | walk_at "set")
theorem d_yes {p : Prop} [Decidable p] {A B : Prop} (h : p) (a : A) : ∃ k, boolOf (.bl (decide p)) = some k ∧ (k = true → A) ∧ (k = false → B) := ⟨_, rfl, fun _ => a, fun z => absurd h (of_decide_eq_false z)⟩
theorem d_no {p : Prop} [Decidable p] {A B : Prop} (h : ¬ p) (b : B) : ∃ k, boolOf (.bl (decide p)) = some k ∧ (k = true → A) ∧ (k = false → B) := ⟨_, rfl, fun z => absurd (of_decide_eq_true z) h, fun _ => b⟩
theorem dn_yes {p : Prop} [Decidable p] {A B : Prop} (h : p) (b : B) : ∃ k, boolOf (.bl !(decide p)) = some k ∧ (k = true → A) ∧ (k = false → B) := ⟨_, rfl, fun z => absurd h (by simpa using z), fun _ => b⟩
theorem dn_no {p : Prop} [Decidable p] {A B : Prop} (h : ¬ p) (a : A) : ∃ k, boolOf (.bl !(decide p)) = some k ∧ (k = true → A) ∧ (k = false → B) := ⟨_, rfl, fun _ => a, fun z => absurd (by simpa using z) h⟩
local macro_rules | `(tactic| walk_at "z") => `(tactic| first
  | ((with_reducible refine' d_yes ?qa ?_); (case qa => (first | assumption | exact rfl)))
  | ((with_reducible refine' d_no ?qa ?_); (case qa => (first | assumption | decide)))
  | ((with_reducible refine' dn_yes ?qa ?_); (case qa => (first | assumption | exact rfl)))
  | ((with_reducible refine' dn_no ?qa ?_); (case qa => (first | assumption | decide)))
  | walk_at "x")
abbrev sg (a b : Int) (q r : D) (s4 s5 : Sl) : EnvF := [.val (.lst [ro a 1 0, ro b 0 1]), .val (.int 0), .val q, .val r, s4, s5, .no]
def WI (a b : Int) (m : Nat) (Γ : EnvF) : Prop := ∃ s4 s5, isOwn s4 = false ∧ isOwn s5 = false ∧ (
  (∃ x u v y w z, Γ = sg a b (.lst [ro x u v, ro y w z]) (.lst []) s4 s5 ∧ Two a b m x u v y w z) ∨
  (∃ g u v w z, Γ = sg a b (.lst [ro g u v]) (.lst [ro 0 w z]) s4 s5 ∧ g ≠ 0 ∧ g.natAbs = Int.gcd a b ∧ g = u * a + v * b ∧ S 100 g ∧ S 21000 u ∧ S 21000 v))
theorem p_swept {a b : Int} {Φ : Vr → Option OD → Prop} (ha : S 100 a) (hb : S 100 b) (a0 : a ≠ 0) (b0 : b ≠ 0)
    (k : ∀ g u v w z, g ≠ 0 → g.natAbs = Int.gcd a b → g = u * a + v * b → S 100 g → S 21000 u → S 21000 v → Φ (.val (.lst [ro g u v, ro 0 w z])) none) : Fp F_swept [.val (.lst [ro a 1 0, ro b 0 1]), .val (.int 0)] Φ := by
  refine f_def rfl ?_
  show X _ [_, _, _, _, _, _, _] _
  unfold B_swept
  repeat' walk_at "z"
  all_goals (first | (exfalso; omega) | skip)
  refine x_while (WI a b) ⟨201, by decide, .no, .no, rfl, rfl, .inl ⟨a, 1, 0, b, 0, 1, rfl, a0, b0, rfl, by omega, by omega, ha, hb, Nat.le_refl _, by unfold S; decide, by unfold S; decide, by unfold S; decide, by unfold S; decide, .inr ⟨by decide, ?_⟩⟩⟩ (fun m Γ h => ?_)
  · have := Nat.mul_lt_mul'' ha hb
    rwa [← Nat.pow_add] at this
  · obtain ⟨s4, s5, o4, o5, ⟨x, u, v, y, w, z, e, T⟩ | ⟨g, u, v, w, z, e, g0, gg, gl, sG, sU, sV⟩⟩ := h
    · subst e
      repeat' walk_at "z"
      · refine xv_sortK (xv_var rfl ?_)
        obtain ⟨l, u', v', o, w', z', eq, le, T'⟩ : ∃ l u' v' o w' z', TX.sortK [ro x u v, ro y w z] [x, y] = [ro l u' v', ro o w' z'] ∧ l.natAbs ≤ o.natAbs ∧ Two a b m l u' v' o w' z' := by
          by_cases hc : TX.absI x ≤ TX.absI y
          · exact ⟨_, _, _, _, _, _, by rw [sortK2, if_pos hc], by unfold TX.absI at hc; split at hc <;> split at hc <;> omega, T⟩
          · exact ⟨_, _, _, _, _, _, by rw [sortK2, if_neg hc], by unfold TX.absI at hc; split at hc <;> split at hc <;> omega, T.swap⟩
        refine ⟨.lst [ro l u' v', ro o w' z'], ?_, ?_⟩
        · show (if (0 : Int) ≤ 0 ∧ (0 : Int) < 2 ^ 63 then (keysD 0 [ro x u v, ro y w z]).map (fun ks => D.lst (TX.sortK [ro x u v, ro y w z] ks)) else none) = _
          rw [if_pos ⟨by decide, by decide⟩]
          show some (D.lst (TX.sortK [ro x u v, ro y w z] [x, y])) = _
          rw [eq]
        repeat' walk_at "z"
        show List.length [ro o w' z'] < 16777216 ∧ X (lcL _ _ _ _ [ro o w' z'] _) _ _
        refine ⟨Nat.le_of_ble_eq_true rfl, ?_⟩
        repeat' walk_at "z"
        refine r_fdivN T'.x0 (Nat.lt_of_le_of_lt T'.sx.log (by decide)) ?_
        repeat' walk_at "z"
        refine x_callF rfl (fp_of (f_less (k := 1 + 101 * 201) ((fdiv_S T'.sy).up (by decide)) (T'.sx.up (by decide)) (T'.su.up (by omega)) (T'.sv.up (by omega)) (by decide)) ?_)
        repeat' walk_at "z"
        simp only [List.nil_append]
        refine ⟨Nat.le_of_ble_eq_true rfl, ?_⟩
        repeat' walk_at "z"
        all_goals first
          | exact absurd (by assumption) (by assumption : ¬ (o - o.fdiv l * l = 0))
          | exact ⟨m - 1, by have := T'.m1; omega, _, _, rfl, rfl, .inl ⟨_, _, _, _, _, _, rfl, T'.next le (by assumption)⟩⟩
          | skip
        have r0 : o - o.fdiv l * l = 0 := by assumption
        rw [r0]
        exact ⟨m - 1, by have := T'.m1; omega, _, _, rfl, rfl, .inr ⟨l, u', v', _, _, rfl, T'.x0, T'.last r0, T'.lx, T'.sx, T'.su.up (by omega), T'.sv.up (by omega)⟩⟩
      · exfalso
        rename_i hh
        simp only [List.length_cons, List.length_nil] at hh
        omega
    · subst e
      repeat' walk_at "z"
      · exfalso
        rename_i hh
        simp only [List.length_cons, List.length_nil] at hh
        omega
      · exact k _ _ _ _ _ g0 gg gl sG sU sV
end Kr

set_option linter.all false
set_option maxRecDepth 100000
set_option pp.maxSteps 500
set_option maxHeartbeats 1000000
namespace Kr
open PySem PySem.Spec PyProof.Rows L2 DF TL NumText
variable [TbC]
/-! ### one step -/
local macro_rules | `(tactic| walk_at "set") => `(tactic| (refine' e_set ?qa ?_; (case qa => (simp only [wipeF, backF, List.set, List.getD_cons_succ, List.getD_cons_zero, Int.reduceToNat]; rfl))))
local macro_rules | `(tactic| walk_at "cnd") => `(tactic| first | assumption | decide | omega)
local macro_rules | `(tactic| walk_at "mul") => `(tactic| first | exact mulOk_r (by decide) (by decide) | exact mulOk_l (by decide) (by decide) | exact mulOk_l (by omega) (by omega) | exact mulOk_r (by omega) (by omega))
local macro_rules | `(tactic| walk_at "x") => `(tactic| first
  | with_reducible apply x_seq
  | with_reducible apply k_nx
  | with_reducible apply k_rt
  | with_reducible apply x_nx
  | with_reducible refine x_asgK (fa := fLstO _) ?_
  | with_reducible refine x_asgK (fa := fLcO _ _ _ _ _) ?_
  | with_reducible apply ak_own
  | with_reducible apply ak_val
  | with_reducible apply x_asg
  | with_reducible refine x_retK (fa := fLstO _) ?_
  | with_reducible apply rk_own
  | with_reducible apply x_ret
  | with_reducible apply x_ifS
  | with_reducible apply x_asgG
  | with_reducible apply x_drop
  | with_reducible apply x_par
  | with_reducible apply x_par3
  | with_reducible apply x_asg3
  | with_reducible apply x_for
  | with_reducible refine x_aug ⟨_, rfl, ?_⟩
  | with_reducible apply xv_c
  | (with_reducible refine xv_var rfl ?_)
  | (with_reducible refine x_varV rfl ?_)
  | (with_reducible refine x_varO rfl ?_)
  | with_reducible apply xv_op
  | with_reducible apply xv_un
  | with_reducible apply xv_cb
  | with_reducible apply xs_nil
  | with_reducible apply xs_cons
  | with_reducible apply xa_nil
  | with_reducible apply xa_cons
  | with_reducible apply xv_tup
  | with_reducible apply xv_lst
  | with_reducible apply x_lstO
  | with_reducible apply xv_if
  | with_reducible apply xv_andV
  | with_reducible apply xv_orV
  | with_reducible apply xv_notV
  | with_reducible apply xv_isN
  | with_reducible apply xv_notN
  | with_reducible apply xt_test
  | with_reducible apply xt_tru
  | with_reducible apply xt_not
  | with_reducible apply xt_and
  | with_reducible apply xt_or
  | with_reducible apply xt_yes
  | with_reducible apply xv_call
  | with_reducible apply xv_callN
  | with_reducible apply xv_cmeth
  | with_reducible apply xv_cmethN
  | with_reducible apply xv_fld
  | with_reducible apply xv_prop
  | with_reducible apply x_setF
  | with_reducible apply xv_make
  | with_reducible apply xv_makeN
  | (with_reducible refine xv_makeL rfl ?_)
  | with_reducible apply xg_name
  | with_reducible apply xg_nil
  | with_reducible apply xg_cons
  | (with_reducible refine xg_tup rfl ?_)
  | (with_reducible refine xg_unl rfl ?_)
  | (with_reducible refine xg_sub rfl ?_)
  | (with_reducible refine xv_ixO rfl ?_)
  | ((with_reducible refine' xv_pk ?qa ?_); (case qa => (simp only [List.map, seeO, odD]; rfl)))
  | ((with_reducible refine' xt_pk ?qa ?_); (case qa => (simp only [List.map, seeO, odD]; rfl)))
  | with_reducible apply xv_bm
  | with_reducible apply xv_bm0
  | with_reducible apply xv_sl
  | with_reducible apply xo_no
  | with_reducible apply xo_some
  | with_reducible apply xv_revS
  | with_reducible apply xv_revL
  | with_reducible apply xv_fmt
  | with_reducible apply xw_any
  | with_reducible apply xw_rng1
  | with_reducible apply xw_rng2
  | with_reducible apply xv_lc
  | with_reducible apply vk_val
  | with_reducible apply bk_none
  | with_reducible apply bk_tmp
  | (with_reducible refine bk_slot rfl ?_)
  | with_reducible apply rk_val
  | with_reducible apply fk_nx
  | with_reducible apply fk_rt
  | ((with_reducible refine' e_par ?qa ?_); (case qa => (simp only [List.set]; rfl)))
  | ((with_reducible refine' e_par3 ?qa ?_); (case qa => (simp only [List.set]; rfl)))
  | ((with_reducible refine' e_ixO ?qa ?qb ?_); (case qa => exact rfl); (case qb => exact rfl))
  | ((with_reducible refine' e_sub ?qa ?qb ?qc ?_); (case qa => exact rfl); (case qb => exact rfl); (case qc => (simp only [List.set, Int.reduceToNat]; rfl)))
  | ((with_reducible refine' e_setF ?qa ?qb ?qc ?_); (case qa => exact rfl); (case qb => (simp only [List.length_cons, List.length_nil]; decide)); (case qc => (simp only [List.set, Int.reduceToNat]; rfl)))
  | ((with_reducible refine' e_fields ?qa ?qb ?_); (case qa => exact rfl); (case qb => exact rfl))
  | ((with_reducible refine' e_has ?qa ?_); (case qa => exact rfl))
  | with_reducible apply r_addI
  | with_reducible apply r_sub
  | with_reducible apply r_lt
  | with_reducible apply r_gt
  | with_reducible apply r_le
  | with_reducible apply r_ge
  | with_reducible apply r_int
  | with_reducible apply r_intB
  | with_reducible apply r_abs
  | with_reducible refine r_dec2 (fun h => ?_) (fun h => ?_)
  | with_reducible refine r_decN2 (fun h => ?_) (fun h => ?_)
  | with_reducible refine r_decM2 (fun h => ?_) (fun h => ?_)
  | with_reducible apply r_bool
  | with_reducible apply r_truB
  | with_reducible apply r_len
  | with_reducible apply r_lenS
  | with_reducible apply r_orEqS
  | with_reducible apply r_orNeS
  | with_reducible apply r_orEqI
  | with_reducible apply r_orNeI
  | with_reducible apply xv_joined
  | with_reducible apply xj_cons
  | with_reducible apply xj_nil
  | with_reducible apply r_eqI
  | with_reducible apply r_neI
  | with_reducible apply r_eqS
  | with_reducible apply r_neS
  | ((with_reducible refine' e_addD ?qa ?_); (case qa => exact rfl))
  | ((with_reducible refine' e_subD ?qa ?_); (case qa => exact rfl))
  | ((with_reducible refine' r_mul ?qa ?_); (case qa => walk_at "mul"))
  | ((with_reducible refine' r_mod ?qa ?_); (case qa => walk_at "cnd"))
  | ((with_reducible refine' r_fdiv ?qa ?qb ?_); (case qa => walk_at "cnd"); (case qb => walk_at "cnd"))
  | ((with_reducible refine' r_divmod ?qa ?qb ?_); (case qa => walk_at "cnd"); (case qb => walk_at "cnd"))
  | ((with_reducible refine' e_ltD ?qa ?_); (case qa => exact rfl))
  | ((with_reducible refine' e_leD ?qa ?_); (case qa => exact rfl))
  | ((with_reducible refine' e_gtD ?qa ?_); (case qa => exact rfl))
  | ((with_reducible refine' e_geD ?qa ?_); (case qa => exact rfl))
  | ((with_reducible refine' e_negD ?qa ?_); (case qa => exact rfl))
  | ((with_reducible refine' e_ixD ?qa ?_); (case qa => exact rfl))
  | ((with_reducible refine' e_intD ?qa ?_); (case qa => exact rfl))
  | ((with_reducible refine' e_absD ?qa ?_); (case qa => exact rfl))
  | ((with_reducible refine' e_intOf ?qa ?_); (case qa => exact rfl))
  | ((with_reducible refine' e_tupOf ?qa ?_); (case qa => exact rfl))
  | ((with_reducible refine' e_lstOf ?qa ?_); (case qa => exact rfl))
  | ((with_reducible refine' e2_boolOf ?qa ?_ ?_); (case qa => exact rfl))
  | ((with_reducible refine' e_boolOf ?qa ?_); (case qa => exact rfl))
  | ((with_reducible refine' e_truD ?qa ?_); (case qa => exact rfl))
  | ((with_reducible refine' e_itemsOf ?qa ?_); (case qa => exact rfl))
  | ((with_reducible refine' e_slD ?qa ?_); (case qa => exact rfl))
  | ((with_reducible refine' e_isiD ?qa ?_); (case qa => exact rfl))
  | ((with_reducible refine' e_boolI ?qa ?_); (case qa => exact rfl))
  | ((with_reducible refine' e_rng ?qa ?_); (case qa => exact ⟨by omega, by omega⟩))
  | with_reducible apply e_some
  | with_reducible apply e_str
  | with_reducible apply e_rev
  | ((with_reducible refine' en_val ?qa ?_); (case qa => exact rfl))
  | ((with_reducible refine' en_own ?qa ?_); (case qa => exact rfl))
  | ((with_reducible refine' en_nx ?qa ?_); (case qa => exact rfl))
  | with_reducible apply x_call
  | with_reducible refine x_ofV (fa := fC _) ?_
  | with_reducible refine x_ofV (fa := fOp _ _ _) ?_
  | with_reducible refine x_ofV (fa := fUn _ _) ?_
  | with_reducible refine x_ofV (fa := fCB _ _) ?_
  | with_reducible refine x_ofV (fa := fTup _) ?_
  | with_reducible refine x_ofV (fa := fLst _) ?_
  | with_reducible refine x_ofV (fa := fBM _ _ _ _) ?_
  | with_reducible refine x_ofV (fa := fBM0 _ _ _) ?_
  | with_reducible refine x_ofV (fa := fLc _ _ _ _ _) ?_
  | with_reducible refine x_ofV (fa := fFld _ _ _) ?_
  | with_reducible refine x_ofV (fa := fProp _ _ _) ?_
  | with_reducible refine x_ofV (fa := fMake _ _ _) ?_
  | with_reducible refine x_ofV (fa := fMakeN _ _ _ _ _ _ _) ?_
  | with_reducible refine x_ofV (fa := fSl _ _ _) ?_
  | with_reducible refine x_ofV (fa := fJoined _) ?_
  | with_reducible refine x_ofV (fa := fAndV _ _) ?_
  | with_reducible refine x_ofV (fa := fOrV _ _) ?_
  | with_reducible refine x_ofV (fa := fNotV _) ?_
  | with_reducible refine x_ofV (fa := fIf _ _ _) ?_
  | with_reducible refine x_ofV (fa := fIxO _ _) ?_
  | with_reducible refine x_ofV (fa := fCMeth _ _ _) ?_
  | with_reducible refine x_ofV (fa := fCMethN _ _ _ _ _) ?_
  | with_reducible refine x_ofV (fa := fCallN _ _ _ _ _ _) ?_
  | with_reducible refine x_ofV (fa := fIsN _) ?_
  | with_reducible refine x_ofV (fa := fNotN _) ?_
  | with_reducible apply xl_nil
  | with_reducible refine xl_cons rfl ?_
  | (refine And.intro (show List.length _ ≤ 16777216 from by simp only [List.length_cons, List.length_nil]; decide) ?_)
  | (refine And.intro (show tyS _ = some _ from rfl) ?_)
  | (refine And.intro (show flat _ = true from rfl) ?_)
  | (refine And.intro (show List.length _ = _ from rfl) ?_)
  | (refine And.intro (show List.length _ < 16777216 from by simp only [List.length_cons, List.length_nil]; decide) ?_)
  | (refine And.intro (show List.map isOwn _ = List.map isOwn _ from rfl) ?_)
  | with_reducible apply tt_intro
  | with_reducible apply nt_intro
  | with_reducible apply nnf_intro
  | with_reducible apply nnt_intro
  | with_reducible apply nf_intro
  | with_reducible apply ff_intro
  | walk_at "set")
local macro_rules | `(tactic| walk_at "z") => `(tactic| first
  | ((with_reducible refine' d_yes ?qa ?_); (case qa => (first | assumption | exact rfl)))
  | ((with_reducible refine' d_no ?qa ?_); (case qa => (first | assumption | decide)))
  | ((with_reducible refine' dn_yes ?qa ?_); (case qa => (first | assumption | exact rfl)))
  | ((with_reducible refine' dn_no ?qa ?_); (case qa => (first | assumption | decide)))
  | walk_at "x")
theorem f_swept0 : F_swept [.val (.lst [ro 0 1 0, ro 0 0 1]), .val (.int 0)] = some (.ok (.val (.lst [ro 0 1 0, ro 0 0 1])) none) := by kernel_rfl
theorem p_sweptA {a : Int} {Φ : Vr → Option OD → Prop} (a0 : a ≠ 0) (k : Φ (.val (.lst [ro a 1 0, ro 0 0 1])) none) : Fp F_swept [.val (.lst [ro a 1 0, ro 0 0 1]), .val (.int 0)] Φ := by
  refine f_def rfl ?_
  show X _ [_, _, _, _, _, _, _] _
  unfold B_swept
  repeat' walk_at "z"
  all_goals (first | (exfalso; omega) | skip)
  refine x_while0 (n := 999999) ?_
  repeat' walk_at "z"
  refine ⟨rfl, ?_⟩
  repeat' walk_at "z"
  exact k
theorem p_sweptB {b : Int} {Φ : Vr → Option OD → Prop} (b0 : b ≠ 0) (k : Φ (.val (.lst [ro b 0 1, ro 0 1 0])) none) : Fp F_swept [.val (.lst [ro 0 1 0, ro b 0 1]), .val (.int 0)] Φ := by
  refine f_def rfl ?_
  show X _ [_, _, _, _, _, _, _] _
  unfold B_swept
  repeat' walk_at "z"
  all_goals (first | (exfalso; omega) | skip)
  refine x_while0 (n := 999999) ?_
  repeat' walk_at "z"
  refine ⟨rfl, ?_⟩
  repeat' walk_at "z"
  exact k
theorem p_sweptG {a b : Int} {Φ : Vr → Option OD → Prop} (ha : S 100 a) (hb : S 100 b)
    (k : ∀ g u v R, g.natAbs = Int.gcd a b → g = u * a + v * b → S 100 g → S 21000 u → S 21000 v → Φ (.val (.lst [ro g u v, R])) none) : Fp F_swept [.val (.lst [ro a 1 0, ro b 0 1]), .val (.int 0)] Φ := by
  have s0 : S 21000 0 := S.up (m := 1) (by unfold S; decide) (by decide)
  have s1 : S 21000 1 := S.up (m := 1) (by unfold S; decide) (by decide)
  by_cases a0 : a = 0
  · subst a0
    by_cases b0 : b = 0
    · subst b0
      exact fp_of f_swept0 (k 0 1 0 _ rfl rfl (by unfold S; decide) s1 s0)
    · exact p_sweptB b0 (k b 0 1 _ (by simp) (by omega) hb s0 s1)
  · by_cases b0 : b = 0
    · subst b0
      exact p_sweptA a0 (k a 1 0 _ (by simp) (by omega) ha s1 s0)
    · exact p_swept ha hb a0 b0 fun g u v w z _ h1 h2 h3 h4 h5 => k g u v _ h1 h2 h3 h4 h5
end Kr

set_option linter.all false
set_option maxRecDepth 100000
set_option pp.maxSteps 500
set_option maxHeartbeats 1000000
namespace Kr
open PySem PySem.Spec PyProof.Rows L2 DF TL NumText
variable [TbC]
/-! ### one step -/
local macro_rules | `(tactic| walk_at "set") => `(tactic| (refine' e_set ?qa ?_; (case qa => (simp only [wipeF, backF, List.set, List.getD_cons_succ, List.getD_cons_zero, Int.reduceToNat]; rfl))))
local macro_rules | `(tactic| walk_at "cnd") => `(tactic| first | assumption | decide | omega)
local macro_rules | `(tactic| walk_at "mul") => `(tactic| first | exact mulOk_r (by decide) (by decide) | exact mulOk_l (by decide) (by decide) | exact mulOk_l (by omega) (by omega) | exact mulOk_r (by omega) (by omega))
local macro_rules | `(tactic| walk_at "x") => `(tactic| first
  | with_reducible apply x_seq
  | with_reducible apply k_nx
  | with_reducible apply k_rt
  | with_reducible apply x_nx
  | with_reducible refine x_asgK (fa := fLstO _) ?_
  | with_reducible refine x_asgK (fa := fLcO _ _ _ _ _) ?_
  | with_reducible apply ak_own
  | with_reducible apply ak_val
  | with_reducible apply x_asg
  | with_reducible refine x_retK (fa := fLstO _) ?_
  | with_reducible apply rk_own
  | with_reducible apply x_ret
  | with_reducible apply x_ifS
  | with_reducible apply x_asgG
  | with_reducible apply x_drop
  | with_reducible apply x_par
  | with_reducible apply x_par3
  | with_reducible apply x_asg3
  | with_reducible apply x_for
  | with_reducible refine x_aug ⟨_, rfl, ?_⟩
  | with_reducible apply xv_c
  | (with_reducible refine xv_var rfl ?_)
  | (with_reducible refine x_varV rfl ?_)
  | (with_reducible refine x_varO rfl ?_)
  | with_reducible apply xv_op
  | with_reducible apply xv_un
  | with_reducible apply xv_cb
  | with_reducible apply xs_nil
  | with_reducible apply xs_cons
  | with_reducible apply xa_nil
  | with_reducible apply xa_cons
  | with_reducible apply xv_tup
  | with_reducible apply xv_lst
  | with_reducible apply x_lstO
  | with_reducible apply xv_if
  | with_reducible apply xv_andV
  | with_reducible apply xv_orV
  | with_reducible apply xv_notV
  | with_reducible apply xv_isN
  | with_reducible apply xv_notN
  | with_reducible apply xt_test
  | with_reducible apply xt_tru
  | with_reducible apply xt_not
  | with_reducible apply xt_and
  | with_reducible apply xt_or
  | with_reducible apply xt_yes
  | with_reducible apply xv_call
  | with_reducible apply xv_callN
  | with_reducible apply xv_cmeth
  | with_reducible apply xv_cmethN
  | with_reducible apply xv_fld
  | with_reducible apply xv_prop
  | with_reducible apply x_setF
  | with_reducible apply xv_make
  | with_reducible apply xv_makeN
  | (with_reducible refine xv_makeL rfl ?_)
  | with_reducible apply xg_name
  | with_reducible apply xg_nil
  | with_reducible apply xg_cons
  | (with_reducible refine xg_tup rfl ?_)
  | (with_reducible refine xg_unl rfl ?_)
  | (with_reducible refine xg_sub rfl ?_)
  | (with_reducible refine xv_ixO rfl ?_)
  | ((with_reducible refine' xv_pk ?qa ?_); (case qa => (simp only [List.map, seeO, odD]; rfl)))
  | ((with_reducible refine' xt_pk ?qa ?_); (case qa => (simp only [List.map, seeO, odD]; rfl)))
  | with_reducible apply xv_bm
  | with_reducible apply xv_bm0
  | with_reducible apply xv_sl
  | with_reducible apply xo_no
  | with_reducible apply xo_some
  | with_reducible apply xv_revS
  | with_reducible apply xv_revL
  | with_reducible apply xv_fmt
  | with_reducible apply xw_any
  | with_reducible apply xw_rng1
  | with_reducible apply xw_rng2
  | with_reducible apply xv_lc
  | with_reducible apply vk_val
  | with_reducible apply bk_none
  | with_reducible apply bk_tmp
  | (with_reducible refine bk_slot rfl ?_)
  | with_reducible apply rk_val
  | with_reducible apply fk_nx
  | with_reducible apply fk_rt
  | ((with_reducible refine' e_par ?qa ?_); (case qa => (simp only [List.set]; rfl)))
  | ((with_reducible refine' e_par3 ?qa ?_); (case qa => (simp only [List.set]; rfl)))
  | ((with_reducible refine' e_ixO ?qa ?qb ?_); (case qa => exact rfl); (case qb => exact rfl))
  | ((with_reducible refine' e_sub ?qa ?qb ?qc ?_); (case qa => exact rfl); (case qb => exact rfl); (case qc => (simp only [List.set, Int.reduceToNat]; rfl)))
  | ((with_reducible refine' e_setF ?qa ?qb ?qc ?_); (case qa => exact rfl); (case qb => (simp only [List.length_cons, List.length_nil]; decide)); (case qc => (simp only [List.set, Int.reduceToNat]; rfl)))
  | ((with_reducible refine' e_fields ?qa ?qb ?_); (case qa => exact rfl); (case qb => exact rfl))
  | ((with_reducible refine' e_has ?qa ?_); (case qa => exact rfl))
  | with_reducible apply r_addI
  | with_reducible apply r_sub
  | with_reducible apply r_lt
  | with_reducible apply r_gt
  | with_reducible apply r_le
  | with_reducible apply r_ge
  | with_reducible apply r_int
  | with_reducible apply r_intB
  | with_reducible apply r_abs
  | with_reducible refine r_dec2 (fun h => ?_) (fun h => ?_)
  | with_reducible refine r_decN2 (fun h => ?_) (fun h => ?_)
  | with_reducible refine r_decM2 (fun h => ?_) (fun h => ?_)
  | with_reducible apply r_bool
  | with_reducible apply r_truB
  | with_reducible apply r_len
  | with_reducible apply r_lenS
  | with_reducible apply r_orEqS
  | with_reducible apply r_orNeS
  | with_reducible apply r_orEqI
  | with_reducible apply r_orNeI
  | with_reducible apply xv_joined
  | with_reducible apply xj_cons
  | with_reducible apply xj_nil
  | with_reducible apply r_eqI
  | with_reducible apply r_neI
  | with_reducible apply r_eqS
  | with_reducible apply r_neS
  | ((with_reducible refine' e_addD ?qa ?_); (case qa => exact rfl))
  | ((with_reducible refine' e_subD ?qa ?_); (case qa => exact rfl))
  | ((with_reducible refine' r_mul ?qa ?_); (case qa => walk_at "mul"))
  | ((with_reducible refine' r_mod ?qa ?_); (case qa => walk_at "cnd"))
  | ((with_reducible refine' r_fdiv ?qa ?qb ?_); (case qa => walk_at "cnd"); (case qb => walk_at "cnd"))
  | ((with_reducible refine' r_divmod ?qa ?qb ?_); (case qa => walk_at "cnd"); (case qb => walk_at "cnd"))
  | ((with_reducible refine' e_ltD ?qa ?_); (case qa => exact rfl))
  | ((with_reducible refine' e_leD ?qa ?_); (case qa => exact rfl))
  | ((with_reducible refine' e_gtD ?qa ?_); (case qa => exact rfl))
  | ((with_reducible refine' e_geD ?qa ?_); (case qa => exact rfl))
  | ((with_reducible refine' e_negD ?qa ?_); (case qa => exact rfl))
  | ((with_reducible refine' e_ixD ?qa ?_); (case qa => exact rfl))
  | ((with_reducible refine' e_intD ?qa ?_); (case qa => exact rfl))
  | ((with_reducible refine' e_absD ?qa ?_); (case qa => exact rfl))
  | ((with_reducible refine' e_intOf ?qa ?_); (case qa => exact rfl))
  | ((with_reducible refine' e_tupOf ?qa ?_); (case qa => exact rfl))
  | ((with_reducible refine' e_lstOf ?qa ?_); (case qa => exact rfl))
  | ((with_reducible refine' e2_boolOf ?qa ?_ ?_); (case qa => exact rfl))
  | ((with_reducible refine' e_boolOf ?qa ?_); (case qa => exact rfl))
  | ((with_reducible refine' e_truD ?qa ?_); (case qa => exact rfl))
  | ((with_reducible refine' e_itemsOf ?qa ?_); (case qa => exact rfl))
  | ((with_reducible refine' e_slD ?qa ?_); (case qa => exact rfl))
  | ((with_reducible refine' e_isiD ?qa ?_); (case qa => exact rfl))
  | ((with_reducible refine' e_boolI ?qa ?_); (case qa => exact rfl))
  | ((with_reducible refine' e_rng ?qa ?_); (case qa => exact ⟨by omega, by omega⟩))
  | with_reducible apply e_some
  | with_reducible apply e_str
  | with_reducible apply e_rev
  | ((with_reducible refine' en_val ?qa ?_); (case qa => exact rfl))
  | ((with_reducible refine' en_own ?qa ?_); (case qa => exact rfl))
  | ((with_reducible refine' en_nx ?qa ?_); (case qa => exact rfl))
  | with_reducible apply x_call
  | with_reducible refine x_ofV (fa := fC _) ?_
  | with_reducible refine x_ofV (fa := fOp _ _ _) ?_
  | with_reducible refine x_ofV (fa := fUn _ _) ?_
  | with_reducible refine x_ofV (fa := fCB _ _) ?_
  | with_reducible refine x_ofV (fa := fTup _) ?_
  | with_reducible refine x_ofV (fa := fLst _) ?_
  | with_reducible refine x_ofV (fa := fBM _ _ _ _) ?_
  | with_reducible refine x_ofV (fa := fBM0 _ _ _) ?_
  | with_reducible refine x_ofV (fa := fLc _ _ _ _ _) ?_
  | with_reducible refine x_ofV (fa := fFld _ _ _) ?_
  | with_reducible refine x_ofV (fa := fProp _ _ _) ?_
  | with_reducible refine x_ofV (fa := fMake _ _ _) ?_
  | with_reducible refine x_ofV (fa := fMakeN _ _ _ _ _ _ _) ?_
  | with_reducible refine x_ofV (fa := fSl _ _ _) ?_
  | with_reducible refine x_ofV (fa := fJoined _) ?_
  | with_reducible refine x_ofV (fa := fAndV _ _) ?_
  | with_reducible refine x_ofV (fa := fOrV _ _) ?_
  | with_reducible refine x_ofV (fa := fNotV _) ?_
  | with_reducible refine x_ofV (fa := fIf _ _ _) ?_
  | with_reducible refine x_ofV (fa := fIxO _ _) ?_
  | with_reducible refine x_ofV (fa := fCMeth _ _ _) ?_
  | with_reducible refine x_ofV (fa := fCMethN _ _ _ _ _) ?_
  | with_reducible refine x_ofV (fa := fCallN _ _ _ _ _ _) ?_
  | with_reducible refine x_ofV (fa := fIsN _) ?_
  | with_reducible refine x_ofV (fa := fNotN _) ?_
  | with_reducible apply xl_nil
  | with_reducible refine xl_cons rfl ?_
  | (refine And.intro (show List.length _ ≤ 16777216 from by simp only [List.length_cons, List.length_nil]; decide) ?_)
  | (refine And.intro (show tyS _ = some _ from rfl) ?_)
  | (refine And.intro (show flat _ = true from rfl) ?_)
  | (refine And.intro (show List.length _ = _ from rfl) ?_)
  | (refine And.intro (show List.length _ < 16777216 from by simp only [List.length_cons, List.length_nil]; decide) ?_)
  | (refine And.intro (show List.map isOwn _ = List.map isOwn _ from rfl) ?_)
  | with_reducible apply tt_intro
  | with_reducible apply nt_intro
  | with_reducible apply nnf_intro
  | with_reducible apply nnt_intro
  | with_reducible apply nf_intro
  | with_reducible apply ff_intro
  | walk_at "set")
theorem p_lines {a b : Int} {Φ : Vr → Option OD → Prop} (ha : S 100 a) (hb : S 100 b) (k0 : a = 0 → b = 0 → Φ (.val (.lst [])) none)
    (k : ∀ g u v : Int, 0 < g → g.natAbs = Int.gcd a b → g = u * a + v * b → S 100 g → S 21000 u → S 21000 v → Φ (.val (.lst [ro g u v])) none) : Fp F_lines_of [.val (.lst [ro a 1 0, ro b 0 1]), .val (.int 1)] Φ := by
  refine f_def rfl ?_
  show X _ [_, _, _, _, _, _, _, _, _] _
  unfold B_lines_of
  repeat' walk_at "x"
  show X (forL _ _ [D.int 0]) _ _
  refine xf_cons ?_
  repeat' walk_at "x"
  refine x_callF rfl ?_
  refine p_sweptG ha hb fun g u v R h1 h2 h3 h4 h5 => ?_
  repeat' walk_at "x"
  refine ⟨fun _ => ?_, (fun h => nomatch h)⟩
  repeat' walk_at "x"
  all_goals try (refine xf_nil ?_; repeat' walk_at "x")
  all_goals first
    | (have g0 : g = 0 := by assumption
       rw [g0] at h1
       obtain ⟨e1, e2⟩ := Int.gcd_eq_zero_iff.mp h1.symm
       exact k0 e1 e2)
    | exact k g u v (by assumption) h1 h2 h3 h4 h5
    | exact k (-g) (-u) (-v) (by omega) (by rw [Int.natAbs_neg]; exact h1) (by rw [h2, Int.neg_mul, Int.neg_mul]; omega) h3.neg h4.neg h5.neg
end Kr

set_option linter.all false
set_option maxRecDepth 100000
set_option pp.maxSteps 500
set_option maxHeartbeats 1000000
namespace Kr
open PySem PySem.Spec PyProof.Rows L2 DF TL NumText
variable [TbC]
/-! ### one step -/
local macro_rules | `(tactic| walk_at "set") => `(tactic| (refine' e_set ?qa ?_; (case qa => (simp only [wipeF, backF, List.set, List.getD_cons_succ, List.getD_cons_zero, Int.reduceToNat]; rfl))))
local macro_rules | `(tactic| walk_at "cnd") => `(tactic| first | assumption | decide | omega)
local macro_rules | `(tactic| walk_at "mul") => `(tactic| first | exact mulOk_r (by decide) (by decide) | exact mulOk_l (by decide) (by decide) | exact mulOk_l (by omega) (by omega) | exact mulOk_r (by omega) (by omega))
local macro_rules | `(tactic| walk_at "x") => `(tactic| first
  | with_reducible apply x_seq
  | with_reducible apply k_nx
  | with_reducible apply k_rt
  | with_reducible apply x_nx
  | with_reducible refine x_asgK (fa := fLstO _) ?_
  | with_reducible refine x_asgK (fa := fLcO _ _ _ _ _) ?_
  | with_reducible apply ak_own
  | with_reducible apply ak_val
  | with_reducible apply x_asg
  | with_reducible refine x_retK (fa := fLstO _) ?_
  | with_reducible apply rk_own
  | with_reducible apply x_ret
  | with_reducible apply x_ifS
  | with_reducible apply x_asgG
  | with_reducible apply x_drop
  | with_reducible apply x_par
  | with_reducible apply x_par3
  | with_reducible apply x_asg3
  | with_reducible apply x_for
  | with_reducible refine x_aug ⟨_, rfl, ?_⟩
  | with_reducible apply xv_c
  | (with_reducible refine xv_var rfl ?_)
  | (with_reducible refine x_varV rfl ?_)
  | (with_reducible refine x_varO rfl ?_)
  | with_reducible apply xv_op
  | with_reducible apply xv_un
  | with_reducible apply xv_cb
  | with_reducible apply xs_nil
  | with_reducible apply xs_cons
  | with_reducible apply xa_nil
  | with_reducible apply xa_cons
  | with_reducible apply xv_tup
  | with_reducible apply xv_lst
  | with_reducible apply x_lstO
  | with_reducible apply xv_if
  | with_reducible apply xv_andV
  | with_reducible apply xv_orV
  | with_reducible apply xv_notV
  | with_reducible apply xv_isN
  | with_reducible apply xv_notN
  | with_reducible apply xt_test
  | with_reducible apply xt_tru
  | with_reducible apply xt_not
  | with_reducible apply xt_and
  | with_reducible apply xt_or
  | with_reducible apply xt_yes
  | with_reducible apply xv_call
  | with_reducible apply xv_callN
  | with_reducible apply xv_cmeth
  | with_reducible apply xv_cmethN
  | with_reducible apply xv_fld
  | with_reducible apply xv_prop
  | with_reducible apply x_setF
  | with_reducible apply xv_make
  | with_reducible apply xv_makeN
  | (with_reducible refine xv_makeL rfl ?_)
  | with_reducible apply xg_name
  | with_reducible apply xg_nil
  | with_reducible apply xg_cons
  | (with_reducible refine xg_tup rfl ?_)
  | (with_reducible refine xg_unl rfl ?_)
  | (with_reducible refine xg_sub rfl ?_)
  | (with_reducible refine xv_ixO rfl ?_)
  | ((with_reducible refine' xv_pk ?qa ?_); (case qa => (simp only [List.map, seeO, odD]; rfl)))
  | ((with_reducible refine' xt_pk ?qa ?_); (case qa => (simp only [List.map, seeO, odD]; rfl)))
  | with_reducible apply xv_bm
  | with_reducible apply xv_bm0
  | with_reducible apply xv_sl
  | with_reducible apply xo_no
  | with_reducible apply xo_some
  | with_reducible apply xv_revS
  | with_reducible apply xv_revL
  | with_reducible apply xv_fmt
  | with_reducible apply xw_any
  | with_reducible apply xw_rng1
  | with_reducible apply xw_rng2
  | with_reducible apply xv_lc
  | with_reducible apply vk_val
  | with_reducible apply bk_none
  | with_reducible apply bk_tmp
  | (with_reducible refine bk_slot rfl ?_)
  | with_reducible apply rk_val
  | with_reducible apply fk_nx
  | with_reducible apply fk_rt
  | ((with_reducible refine' e_par ?qa ?_); (case qa => (simp only [List.set]; rfl)))
  | ((with_reducible refine' e_par3 ?qa ?_); (case qa => (simp only [List.set]; rfl)))
  | ((with_reducible refine' e_ixO ?qa ?qb ?_); (case qa => exact rfl); (case qb => exact rfl))
  | ((with_reducible refine' e_sub ?qa ?qb ?qc ?_); (case qa => exact rfl); (case qb => exact rfl); (case qc => (simp only [List.set, Int.reduceToNat]; rfl)))
  | ((with_reducible refine' e_setF ?qa ?qb ?qc ?_); (case qa => exact rfl); (case qb => (simp only [List.length_cons, List.length_nil]; decide)); (case qc => (simp only [List.set, Int.reduceToNat]; rfl)))
  | ((with_reducible refine' e_fields ?qa ?qb ?_); (case qa => exact rfl); (case qb => exact rfl))
  | ((with_reducible refine' e_has ?qa ?_); (case qa => exact rfl))
  | with_reducible apply r_addI
  | with_reducible apply r_sub
  | with_reducible apply r_lt
  | with_reducible apply r_gt
  | with_reducible apply r_le
  | with_reducible apply r_ge
  | with_reducible apply r_int
  | with_reducible apply r_intB
  | with_reducible apply r_abs
  | with_reducible refine r_dec2 (fun h => ?_) (fun h => ?_)
  | with_reducible refine r_decN2 (fun h => ?_) (fun h => ?_)
  | with_reducible refine r_decM2 (fun h => ?_) (fun h => ?_)
  | with_reducible apply r_bool
  | with_reducible apply r_truB
  | with_reducible apply r_len
  | with_reducible apply r_lenS
  | with_reducible apply r_orEqS
  | with_reducible apply r_orNeS
  | with_reducible apply r_orEqI
  | with_reducible apply r_orNeI
  | with_reducible apply xv_joined
  | with_reducible apply xj_cons
  | with_reducible apply xj_nil
  | with_reducible apply r_eqI
  | with_reducible apply r_neI
  | with_reducible apply r_eqS
  | with_reducible apply r_neS
  | ((with_reducible refine' e_addD ?qa ?_); (case qa => exact rfl))
  | ((with_reducible refine' e_subD ?qa ?_); (case qa => exact rfl))
  | ((with_reducible refine' r_mul ?qa ?_); (case qa => walk_at "mul"))
  | ((with_reducible refine' r_mod ?qa ?_); (case qa => walk_at "cnd"))
  | ((with_reducible refine' r_fdiv ?qa ?qb ?_); (case qa => walk_at "cnd"); (case qb => walk_at "cnd"))
  | ((with_reducible refine' r_divmod ?qa ?qb ?_); (case qa => walk_at "cnd"); (case qb => walk_at "cnd"))
  | ((with_reducible refine' e_ltD ?qa ?_); (case qa => exact rfl))
  | ((with_reducible refine' e_leD ?qa ?_); (case qa => exact rfl))
  | ((with_reducible refine' e_gtD ?qa ?_); (case qa => exact rfl))
  | ((with_reducible refine' e_geD ?qa ?_); (case qa => exact rfl))
  | ((with_reducible refine' e_negD ?qa ?_); (case qa => exact rfl))
  | ((with_reducible refine' e_ixD ?qa ?_); (case qa => exact rfl))
  | ((with_reducible refine' e_intD ?qa ?_); (case qa => exact rfl))
  | ((with_reducible refine' e_absD ?qa ?_); (case qa => exact rfl))
  | ((with_reducible refine' e_intOf ?qa ?_); (case qa => exact rfl))
  | ((with_reducible refine' e_tupOf ?qa ?_); (case qa => exact rfl))
  | ((with_reducible refine' e_lstOf ?qa ?_); (case qa => exact rfl))
  | ((with_reducible refine' e2_boolOf ?qa ?_ ?_); (case qa => exact rfl))
  | ((with_reducible refine' e_boolOf ?qa ?_); (case qa => exact rfl))
  | ((with_reducible refine' e_truD ?qa ?_); (case qa => exact rfl))
  | ((with_reducible refine' e_itemsOf ?qa ?_); (case qa => exact rfl))
  | ((with_reducible refine' e_slD ?qa ?_); (case qa => exact rfl))
  | ((with_reducible refine' e_isiD ?qa ?_); (case qa => exact rfl))
  | ((with_reducible refine' e_boolI ?qa ?_); (case qa => exact rfl))
  | ((with_reducible refine' e_rng ?qa ?_); (case qa => exact ⟨by omega, by omega⟩))
  | with_reducible apply e_some
  | with_reducible apply e_str
  | with_reducible apply e_rev
  | ((with_reducible refine' en_val ?qa ?_); (case qa => exact rfl))
  | ((with_reducible refine' en_own ?qa ?_); (case qa => exact rfl))
  | ((with_reducible refine' en_nx ?qa ?_); (case qa => exact rfl))
  | with_reducible apply x_call
  | with_reducible refine x_ofV (fa := fC _) ?_
  | with_reducible refine x_ofV (fa := fOp _ _ _) ?_
  | with_reducible refine x_ofV (fa := fUn _ _) ?_
  | with_reducible refine x_ofV (fa := fCB _ _) ?_
  | with_reducible refine x_ofV (fa := fTup _) ?_
  | with_reducible refine x_ofV (fa := fLst _) ?_
  | with_reducible refine x_ofV (fa := fBM _ _ _ _) ?_
  | with_reducible refine x_ofV (fa := fBM0 _ _ _) ?_
  | with_reducible refine x_ofV (fa := fLc _ _ _ _ _) ?_
  | with_reducible refine x_ofV (fa := fFld _ _ _) ?_
  | with_reducible refine x_ofV (fa := fProp _ _ _) ?_
  | with_reducible refine x_ofV (fa := fMake _ _ _) ?_
  | with_reducible refine x_ofV (fa := fMakeN _ _ _ _ _ _ _) ?_
  | with_reducible refine x_ofV (fa := fSl _ _ _) ?_
  | with_reducible refine x_ofV (fa := fJoined _) ?_
  | with_reducible refine x_ofV (fa := fAndV _ _) ?_
  | with_reducible refine x_ofV (fa := fOrV _ _) ?_
  | with_reducible refine x_ofV (fa := fNotV _) ?_
  | with_reducible refine x_ofV (fa := fIf _ _ _) ?_
  | with_reducible refine x_ofV (fa := fIxO _ _) ?_
  | with_reducible refine x_ofV (fa := fCMeth _ _ _) ?_
  | with_reducible refine x_ofV (fa := fCMethN _ _ _ _ _) ?_
  | with_reducible refine x_ofV (fa := fCallN _ _ _ _ _ _) ?_
  | with_reducible refine x_ofV (fa := fIsN _) ?_
  | with_reducible refine x_ofV (fa := fNotN _) ?_
  | with_reducible apply xl_nil
  | with_reducible refine xl_cons rfl ?_
  | (refine And.intro (show List.length _ ≤ 16777216 from by simp only [List.length_cons, List.length_nil]; decide) ?_)
  | (refine And.intro (show tyS _ = some _ from rfl) ?_)
  | (refine And.intro (show flat _ = true from rfl) ?_)
  | (refine And.intro (show List.length _ = _ from rfl) ?_)
  | (refine And.intro (show List.length _ < 16777216 from by simp only [List.length_cons, List.length_nil]; decide) ?_)
  | (refine And.intro (show List.map isOwn _ = List.map isOwn _ from rfl) ?_)
  | with_reducible apply tt_intro
  | with_reducible apply nt_intro
  | with_reducible apply nnf_intro
  | with_reducible apply nnt_intro
  | with_reducible apply nf_intro
  | with_reducible apply ff_intro
  | walk_at "set")
theorem hm : mulD (.lst [.int 0]) (.int 2) = some (.lst [.int 0, .int 0]) := by
  show (if (0 : Int) ≤ 2 ∧ (2 : Int) ≤ 1000000 ∧ [D.int 0].length * (2 : Int).toNat ≤ 16777216 then some (D.lst (List.replicate (2 : Int).toNat [D.int 0]).flatten) else none) = _
  rw [if_pos ⟨by decide, by decide, by decide⟩]
  rfl
theorem dvd_rest {g d : Int} {k : Nat} (g0 : 0 < g) (e : g.natAbs = k) : ((k : Nat) : Int) ∣ d ↔ d - d / g * g = 0 := by
  have : ((k : Nat) : Int) = g := by omega
  rw [this]
  have h := Int.mul_ediv_add_emod d g
  rw [Int.mul_comm] at h
  constructor
  · intro hd
    have := Int.emod_eq_zero_of_dvd hd
    omega
  · intro hd
    exact Int.dvd_of_emod_eq_zero (by omega)
theorem lin {u v n e g q d : Int} (h : g = u * n + v * e) (hd : d - q * g = 0) : -(0 - q * u) * n + -(0 - q * v) * e = d := by
  have : d = q * g := by omega
  subst h this
  grind
theorem p_times {n e d : Int} {Φ : Vr → Option OD → Prop} (hn : S 100 n) (he : S 100 e) (hd : S 200 d) (k0 : ¬ ((Int.gcd n e : Nat) : Int) ∣ d → Φ (.val .non) none)
    (k : ∀ x y, x * n + y * e = d → S 21300 x → S 21300 y → Φ (.val (.lst [.int x, .int y])) none) : Fp F_times_for [.val (.lst [.tup [.int n], .tup [.int e]]), .val (.tup [.int d])] Φ := by
  refine f_def rfl ?_
  show X _ [_, _, _, _, _, _, _, _, _] _
  unfold B_times_for
  repeat' walk_at "x"
  refine e_lenD rfl ?_
  repeat' walk_at "x"
  refine xw_enum ?_
  repeat' walk_at "x"
  refine ⟨_, _, rfl, rfl, ?_⟩
  show List.length [D.tup [.int 0, .tup [.int n]], D.tup [.int 1, .tup [.int e]]] < 16777216 ∧ X (lcL _ _ _ _ [D.tup [.int 0, .tup [.int n]], D.tup [.int 1, .tup [.int e]]] _) _ _
  refine ⟨Nat.le_of_ble_eq_true rfl, ?_⟩
  repeat' walk_at "x"
  refine ⟨2, rfl, by decide, Nat.le_of_ble_eq_true rfl, ?_⟩
  show X (lcL _ _ _ _ [D.int 0, D.int 1] _) _ _
  repeat' walk_at "x"
  refine ⟨2, rfl, by decide, Nat.le_of_ble_eq_true rfl, ?_⟩
  show X (lcL _ _ _ _ [D.int 0, D.int 1] _) _ _
  repeat' walk_at "x"
  refine x_callF rfl ?_
  refine p_lines hn he (fun a0 b0 => ?_) (fun g u v g0 g1 g2 g3 g4 g5 => ?_)
  all_goals repeat' walk_at "x"
  all_goals refine ⟨_, hm, ?_⟩
  all_goals repeat' walk_at "x"
  · refine x_callF rfl (fp_of f_taken0 ?_)
    repeat' walk_at "x"
    refine x_callF rfl (fp_of (f_pivot1 (x := d)) ?_)
    by_cases d0 : d = 0
    · rw [if_pos d0]
      repeat' walk_at "x"
      refine ⟨(fun h => nomatch h), fun _ => ?_⟩
      repeat' walk_at "x"
      show List.length [D.int 0, D.int 0] < _ ∧ X (lcL _ _ _ _ [D.int 0, D.int 0] _) _ _
      refine ⟨by decide, ?_⟩
      repeat' walk_at "x"
      exact k 0 0 (by omega) (by unfold S; decide) (by unfold S; decide)
    · rw [if_neg d0]
      repeat' walk_at "x"
      refine ⟨fun _ => ?_, (fun h => nomatch h)⟩
      repeat' walk_at "x"
      refine k0 fun hd => d0 ?_
      subst a0 b0
      simpa using hd
  · refine x_callF rfl (fp_of (f_taken1 (k := 200) (n := 21000) g0 (g3.up (by decide)) g4 g5 hd (by decide) (by decide) (by decide)) ?_)
    repeat' walk_at "x"
    refine x_callF rfl (fp_of (f_pivot1 (x := d - d / g * g)) ?_)
    have hq : S 200 (d / g) := Nat.lt_of_le_of_lt (Int.natAbs_ediv_le_natAbs d g) hd
    by_cases d0 : d - d / g * g = 0
    · rw [if_pos d0]
      repeat' walk_at "x"
      refine ⟨(fun h => nomatch h), fun _ => ?_⟩
      repeat' walk_at "x"
      show List.length [D.int (0 - d / g * u), D.int (0 - d / g * v)] < _ ∧ X (lcL _ _ _ _ [D.int (0 - d / g * u), D.int (0 - d / g * v)] _) _ _
      refine ⟨Nat.le_of_ble_eq_true rfl, ?_⟩
      repeat' walk_at "x"
      refine k _ _ (lin g2 d0) ?_ ?_
      · have := (((S.up (m := 1) (n := 21200) (i := 0) (by unfold S; decide) (by decide)).sub (hq.mul g4)).neg); exact this.up (by decide)
      · have := (((S.up (m := 1) (n := 21200) (i := 0) (by unfold S; decide) (by decide)).sub (hq.mul g5)).neg); exact this.up (by decide)
    · rw [if_neg d0]
      repeat' walk_at "x"
      refine ⟨fun _ => ?_, (fun h => nomatch h)⟩
      repeat' walk_at "x"
      exact k0 fun hd => d0 ((dvd_rest g0 g1).mp hd)
/-! gcds -/
theorem win0 : ∀ e : Fin 9, ∀ n : Fin 9, ∀ d : Fin 17, ((d : Int) - 8) % ((Int.gcd ((e : Int) - 4) ((n : Int) - 4) : Nat) : Int) = 0 → ∃ x : Fin 17, -20 ≤ (((x : Int) - 8) * ((n : Int) - 4) - ((d : Int) - 8)) / ((e : Int) - 4) ∧ (((x : Int) - 8) * ((n : Int) - 4) - ((d : Int) - 8)) / ((e : Int) - 4) < 21 ∧ (((x : Int) - 8) * ((n : Int) - 4) - ((d : Int) - 8)) / ((e : Int) - 4) * ((e : Int) - 4) = (((x : Int) - 8) * ((n : Int) - 4) - ((d : Int) - 8)) := by
  decide +kernel
theorem window {e n d : Int} (he : -4 ≤ e ∧ e ≤ 4) (hn : -4 ≤ n ∧ n ≤ 4) (hd : -9 < d ∧ d < 9) (h : ((Int.gcd e n : Nat) : Int) ∣ d) : ∃ x y, -8 ≤ x ∧ x < 9 ∧ -20 ≤ y ∧ y < 21 ∧ x * n - y * e = d := by
  have h0 := win0 ⟨(e + 4).toNat, by omega⟩ ⟨(n + 4).toNat, by omega⟩ ⟨(d + 8).toNat, by omega⟩
  have e1 : (((e + 4).toNat : Nat) : Int) - 4 = e := by omega
  have e2 : (((n + 4).toNat : Nat) : Int) - 4 = n := by omega
  have e3 : (((d + 8).toNat : Nat) : Int) - 8 = d := by omega
  dsimp only at h0
  rw [e1, e2, e3] at h0
  obtain ⟨x, h1, h2, h3⟩ := h0 (Int.emod_eq_zero_of_dvd h)
  exact ⟨(x : Int) - 8, _, by omega, by omega, h1, h2, by omega⟩
/-- a move by another has the gcd in its area -/
theorem gcd_lin {e n x y d : Int} (h : x * n - y * e = d) : ((Int.gcd e n : Nat) : Int) ∣ d := by
  rw [← h]
  exact Int.dvd_sub (Int.dvd_mul_of_dvd_right (Int.gcd_dvd_right ..)) (Int.dvd_mul_of_dvd_right (Int.gcd_dvd_left ..))
theorem gcd_side {a b s : Int} (hs : 1 < s) : ¬ ((Int.gcd (a * s) (b * s) : Nat) : Int) ∣ 1 := by
  intro h
  have : s ∣ 1 := Int.dvd_trans (Int.dvd_coe_gcd (Int.dvd_mul_left ..) (Int.dvd_mul_left ..)) h
  have := Int.le_of_dvd (by decide) this
  omega
end Kr

set_option linter.all false
set_option maxRecDepth 100000
set_option pp.maxSteps 500
set_option maxHeartbeats 1000000
namespace Kr
open PySem PySem.Spec PyProof.Rows L2 DF TL NumText
variable [TbC]
/-! ### one step -/
local macro_rules | `(tactic| walk_at "set") => `(tactic| (refine' e_set ?qa ?_; (case qa => (simp only [wipeF, backF, List.set, List.getD_cons_succ, List.getD_cons_zero, Int.reduceToNat]; rfl))))
local macro_rules | `(tactic| walk_at "cnd") => `(tactic| first | assumption | decide | omega)
local macro_rules | `(tactic| walk_at "mul") => `(tactic| first | exact mulOk_r (by decide) (by decide) | exact mulOk_l (by decide) (by decide) | exact mulOk_l (by omega) (by omega) | exact mulOk_r (by omega) (by omega))
local macro_rules | `(tactic| walk_at "x") => `(tactic| first
  | with_reducible apply x_seq
  | with_reducible apply k_nx
  | with_reducible apply k_rt
  | with_reducible apply x_nx
  | with_reducible refine x_asgK (fa := fLstO _) ?_
  | with_reducible refine x_asgK (fa := fLcO _ _ _ _ _) ?_
  | with_reducible apply ak_own
  | with_reducible apply ak_val
  | with_reducible apply x_asg
  | with_reducible refine x_retK (fa := fLstO _) ?_
  | with_reducible apply rk_own
  | with_reducible apply x_ret
  | with_reducible apply x_ifS
  | with_reducible apply x_asgG
  | with_reducible apply x_drop
  | with_reducible apply x_par
  | with_reducible apply x_par3
  | with_reducible apply x_asg3
  | with_reducible apply x_for
  | with_reducible refine x_aug ⟨_, rfl, ?_⟩
  | with_reducible apply xv_c
  | (with_reducible refine xv_var rfl ?_)
  | (with_reducible refine x_varV rfl ?_)
  | (with_reducible refine x_varO rfl ?_)
  | with_reducible apply xv_op
  | with_reducible apply xv_un
  | with_reducible apply xv_cb
  | with_reducible apply xs_nil
  | with_reducible apply xs_cons
  | with_reducible apply xa_nil
  | with_reducible apply xa_cons
  | with_reducible apply xv_tup
  | with_reducible apply xv_lst
  | with_reducible apply x_lstO
  | with_reducible apply xv_if
  | with_reducible apply xv_andV
  | with_reducible apply xv_orV
  | with_reducible apply xv_notV
  | with_reducible apply xv_isN
  | with_reducible apply xv_notN
  | with_reducible apply xt_test
  | with_reducible apply xt_tru
  | with_reducible apply xt_not
  | with_reducible apply xt_and
  | with_reducible apply xt_or
  | with_reducible apply xt_yes
  | with_reducible apply xv_call
  | with_reducible apply xv_callN
  | with_reducible apply xv_cmeth
  | with_reducible apply xv_cmethN
  | with_reducible apply xv_fld
  | with_reducible apply xv_prop
  | with_reducible apply x_setF
  | with_reducible apply xv_make
  | with_reducible apply xv_makeN
  | (with_reducible refine xv_makeL rfl ?_)
  | with_reducible apply xg_name
  | with_reducible apply xg_nil
  | with_reducible apply xg_cons
  | (with_reducible refine xg_tup rfl ?_)
  | (with_reducible refine xg_unl rfl ?_)
  | (with_reducible refine xg_sub rfl ?_)
  | (with_reducible refine xv_ixO rfl ?_)
  | ((with_reducible refine' xv_pk ?qa ?_); (case qa => (simp only [List.map, seeO, odD]; rfl)))
  | ((with_reducible refine' xt_pk ?qa ?_); (case qa => (simp only [List.map, seeO, odD]; rfl)))
  | with_reducible apply xv_bm
  | with_reducible apply xv_bm0
  | with_reducible apply xv_sl
  | with_reducible apply xo_no
  | with_reducible apply xo_some
  | with_reducible apply xv_revS
  | with_reducible apply xv_revL
  | with_reducible apply xv_fmt
  | with_reducible apply xw_any
  | with_reducible apply xw_rng1
  | with_reducible apply xw_rng2
  | with_reducible apply xv_lc
  | with_reducible apply vk_val
  | with_reducible apply bk_none
  | with_reducible apply bk_tmp
  | (with_reducible refine bk_slot rfl ?_)
  | with_reducible apply rk_val
  | with_reducible apply fk_nx
  | with_reducible apply fk_rt
  | ((with_reducible refine' e_par ?qa ?_); (case qa => (simp only [List.set]; rfl)))
  | ((with_reducible refine' e_par3 ?qa ?_); (case qa => (simp only [List.set]; rfl)))
  | ((with_reducible refine' e_ixO ?qa ?qb ?_); (case qa => exact rfl); (case qb => exact rfl))
  | ((with_reducible refine' e_sub ?qa ?qb ?qc ?_); (case qa => exact rfl); (case qb => exact rfl); (case qc => (simp only [List.set, Int.reduceToNat]; rfl)))
  | ((with_reducible refine' e_setF ?qa ?qb ?qc ?_); (case qa => exact rfl); (case qb => (simp only [List.length_cons, List.length_nil]; decide)); (case qc => (simp only [List.set, Int.reduceToNat]; rfl)))
  | ((with_reducible refine' e_fields ?qa ?qb ?_); (case qa => exact rfl); (case qb => exact rfl))
  | ((with_reducible refine' e_has ?qa ?_); (case qa => exact rfl))
  | with_reducible apply r_addI
  | with_reducible apply r_sub
  | with_reducible apply r_lt
  | with_reducible apply r_gt
  | with_reducible apply r_le
  | with_reducible apply r_ge
  | with_reducible apply r_int
  | with_reducible apply r_intB
  | with_reducible apply r_abs
  | with_reducible refine r_dec2 (fun h => ?_) (fun h => ?_)
  | with_reducible refine r_decN2 (fun h => ?_) (fun h => ?_)
  | with_reducible refine r_decM2 (fun h => ?_) (fun h => ?_)
  | with_reducible apply r_bool
  | with_reducible apply r_truB
  | with_reducible apply r_len
  | with_reducible apply r_lenS
  | with_reducible apply r_orEqS
  | with_reducible apply r_orNeS
  | with_reducible apply r_orEqI
  | with_reducible apply r_orNeI
  | with_reducible apply xv_joined
  | with_reducible apply xj_cons
  | with_reducible apply xj_nil
  | with_reducible apply r_eqI
  | with_reducible apply r_neI
  | with_reducible apply r_eqS
  | with_reducible apply r_neS
  | ((with_reducible refine' e_addD ?qa ?_); (case qa => exact rfl))
  | ((with_reducible refine' e_subD ?qa ?_); (case qa => exact rfl))
  | ((with_reducible refine' r_mul ?qa ?_); (case qa => walk_at "mul"))
  | ((with_reducible refine' r_mod ?qa ?_); (case qa => walk_at "cnd"))
  | ((with_reducible refine' r_fdiv ?qa ?qb ?_); (case qa => walk_at "cnd"); (case qb => walk_at "cnd"))
  | ((with_reducible refine' r_divmod ?qa ?qb ?_); (case qa => walk_at "cnd"); (case qb => walk_at "cnd"))
  | ((with_reducible refine' e_ltD ?qa ?_); (case qa => exact rfl))
  | ((with_reducible refine' e_leD ?qa ?_); (case qa => exact rfl))
  | ((with_reducible refine' e_gtD ?qa ?_); (case qa => exact rfl))
  | ((with_reducible refine' e_geD ?qa ?_); (case qa => exact rfl))
  | ((with_reducible refine' e_negD ?qa ?_); (case qa => exact rfl))
  | ((with_reducible refine' e_ixD ?qa ?_); (case qa => exact rfl))
  | ((with_reducible refine' e_intD ?qa ?_); (case qa => exact rfl))
  | ((with_reducible refine' e_absD ?qa ?_); (case qa => exact rfl))
  | ((with_reducible refine' e_intOf ?qa ?_); (case qa => exact rfl))
  | ((with_reducible refine' e_tupOf ?qa ?_); (case qa => exact rfl))
  | ((with_reducible refine' e_lstOf ?qa ?_); (case qa => exact rfl))
  | ((with_reducible refine' e2_boolOf ?qa ?_ ?_); (case qa => exact rfl))
  | ((with_reducible refine' e_boolOf ?qa ?_); (case qa => exact rfl))
  | ((with_reducible refine' e_truD ?qa ?_); (case qa => exact rfl))
  | ((with_reducible refine' e_itemsOf ?qa ?_); (case qa => exact rfl))
  | ((with_reducible refine' e_slD ?qa ?_); (case qa => exact rfl))
  | ((with_reducible refine' e_isiD ?qa ?_); (case qa => exact rfl))
  | ((with_reducible refine' e_boolI ?qa ?_); (case qa => exact rfl))
  | ((with_reducible refine' e_rng ?qa ?_); (case qa => exact ⟨by omega, by omega⟩))
  | with_reducible apply e_some
  | with_reducible apply e_str
  | with_reducible apply e_rev
  | ((with_reducible refine' en_val ?qa ?_); (case qa => exact rfl))
  | ((with_reducible refine' en_own ?qa ?_); (case qa => exact rfl))
  | ((with_reducible refine' en_nx ?qa ?_); (case qa => exact rfl))
  | with_reducible apply x_call
  | with_reducible refine x_ofV (fa := fC _) ?_
  | with_reducible refine x_ofV (fa := fOp _ _ _) ?_
  | with_reducible refine x_ofV (fa := fUn _ _) ?_
  | with_reducible refine x_ofV (fa := fCB _ _) ?_
  | with_reducible refine x_ofV (fa := fTup _) ?_
  | with_reducible refine x_ofV (fa := fLst _) ?_
  | with_reducible refine x_ofV (fa := fBM _ _ _ _) ?_
  | with_reducible refine x_ofV (fa := fBM0 _ _ _) ?_
  | with_reducible refine x_ofV (fa := fLc _ _ _ _ _) ?_
  | with_reducible refine x_ofV (fa := fFld _ _ _) ?_
  | with_reducible refine x_ofV (fa := fProp _ _ _) ?_
  | with_reducible refine x_ofV (fa := fMake _ _ _) ?_
  | with_reducible refine x_ofV (fa := fMakeN _ _ _ _ _ _ _) ?_
  | with_reducible refine x_ofV (fa := fSl _ _ _) ?_
  | with_reducible refine x_ofV (fa := fJoined _) ?_
  | with_reducible refine x_ofV (fa := fAndV _ _) ?_
  | with_reducible refine x_ofV (fa := fOrV _ _) ?_
  | with_reducible refine x_ofV (fa := fNotV _) ?_
  | with_reducible refine x_ofV (fa := fIf _ _ _) ?_
  | with_reducible refine x_ofV (fa := fIxO _ _) ?_
  | with_reducible refine x_ofV (fa := fCMeth _ _ _) ?_
  | with_reducible refine x_ofV (fa := fCMethN _ _ _ _ _) ?_
  | with_reducible refine x_ofV (fa := fCallN _ _ _ _ _ _) ?_
  | with_reducible refine x_ofV (fa := fIsN _) ?_
  | with_reducible refine x_ofV (fa := fNotN _) ?_
  | with_reducible apply xl_nil
  | with_reducible refine xl_cons rfl ?_
  | (refine And.intro (show List.length _ ≤ 16777216 from by simp only [List.length_cons, List.length_nil]; decide) ?_)
  | (refine And.intro (show tyS _ = some _ from rfl) ?_)
  | (refine And.intro (show flat _ = true from rfl) ?_)
  | (refine And.intro (show List.length _ = _ from rfl) ?_)
  | (refine And.intro (show List.length _ < 16777216 from by simp only [List.length_cons, List.length_nil]; decide) ?_)
  | (refine And.intro (show List.map isOwn _ = List.map isOwn _ from rfl) ?_)
  | with_reducible apply tt_intro
  | with_reducible apply nt_intro
  | with_reducible apply nnf_intro
  | with_reducible apply nnt_intro
  | with_reducible apply nf_intro
  | with_reducible apply ff_intro
  | walk_at "set")
/-! ### two moves alike -/
theorem p_alike {x y z u v w : Int} {due : Bool} {Φ : Vr → Option OD → Prop} (hx : S 99 x) (hy : S 99 y) (hd : S 200 (w - z)) (hdue : due = true ↔ x = u ∧ y = v ∧ ((Int.gcd x y : Nat) : Int) ∣ w - z)
    (k0 : due = false → Φ (.val .non) none) (k : due = true → ∀ s t, s * y - t * x = w - z → S 21300 s → S 21300 t → Φ (.val (mv s t 0)) none) : Fp F_move_alike [.val (mv x y z), .val (mv u v w)] Φ := by
  refine f_def rfl ?_
  show X _ [_, _, _] _
  unfold B_move_alike
  repeat' walk_at "x"
  refine x_callF rfl (fp_of f_check_moves ?_)
  repeat' walk_at "x"
  refine x_callF rfl (fp_of f_east ?_)
  repeat' walk_at "x"
  refine x_callF rfl (fp_of f_east ?_)
  repeat' walk_at "x"
  rotate_left
  · refine k0 ?_
    cases due
    · rfl
    · exact absurd (hdue.mp rfl).1 (by assumption)
  have ex : x = u := by assumption
  subst ex
  refine x_callF rfl (fp_of f_north ?_)
  repeat' walk_at "x"
  refine x_callF rfl (fp_of f_north ?_)
  repeat' walk_at "x"
  rotate_left
  · refine k0 ?_
    cases due
    · rfl
    · exact absurd (hdue.mp rfl).2.1 (by assumption)
  have ey : y = v := by assumption
  subst ey
  refine x_callF rfl (fp_of f_north ?_)
  repeat' walk_at "x"
  refine x_callF rfl (fp_of f_east ?_)
  repeat' walk_at "x"
  refine x_callF rfl (fp_of f_area ?_)
  repeat' walk_at "x"
  refine x_callF rfl (fp_of f_area ?_)
  repeat' walk_at "x"
  refine x_callF rfl (p_times (hy.up (by decide)) (hx.neg.up (by decide)) hd (fun hn => ?_) fun s t e hs ht => ?_)
  · repeat' walk_at "x"
    refine ⟨fun _ => ?_, (fun h => nomatch h)⟩
    repeat' walk_at "x"
    refine k0 ?_
    cases due
    · rfl
    · exact absurd (hdue.mp rfl).2.2 (by rwa [Int.gcd_neg, Int.gcd_comm] at hn)
  · repeat' walk_at "x"
    refine ⟨(fun h => nomatch h), fun _ => ?_⟩
    repeat' walk_at "x"
    refine fp_of f_init ⟨rfl, _, _, rfl, ?_⟩
    repeat' walk_at "x"
    have e' : s * y - t * x = w - z := by rw [← e, Int.mul_neg]; omega
    exact k (hdue.mpr ⟨rfl, rfl, gcd_lin e'⟩) s t e' hs ht
theorem f_is_alike {x y z u v w : Int} {due : Bool} (hx : S 99 x) (hy : S 99 y) (hd : S 200 (w - z)) (hdue : due = true ↔ x = u ∧ y = v ∧ ((Int.gcd x y : Nat) : Int) ∣ w - z) : F_is_move_alike [.val (mv x y z), .val (mv u v w)] = some (.ok (.val (.bl due)) none) := by
  refine Fp.eq (f_def rfl ?_)
  show X _ [_, _] _
  unfold B_is_move_alike
  repeat' walk_at "x"
  refine x_callF rfl (p_alike hx hy hd hdue (fun h => ?_) fun h s t _ _ _ => ?_)
  all_goals repeat' walk_at "x"
  all_goals (subst h; exact ⟨rfl, rfl⟩)
end Kr

set_option linter.all false
set_option maxRecDepth 100000
set_option pp.maxSteps 500
set_option maxHeartbeats 1000000
namespace Kr
open PySem PySem.Spec PyProof.Rows L2 DF TL NumText
variable [TbC]
/-! ### loops over ranges -/
theorem len_rng {l m : Int} : (rangeD l m).length = (m - l).toNat := by simp [rangeD]
theorem rng_cons {lo hi : Int} (h : lo < hi) : rangeD lo hi = .int lo :: rangeD (lo + 1) hi := by
  unfold rangeD
  have : (hi - lo).toNat = (hi - (lo + 1)).toNat + 1 := by omega
  rw [this, List.range_succ_eq_map, List.map_cons, List.map_map]
  congr 1
  · congr 1; omega
  · apply List.map_congr_left
    intro i _
    show D.int (lo + ((i + 1 : Nat) : Int)) = D.int (lo + 1 + (i : Int))
    congr 1
    omega
theorem rng_nil {lo hi : Int} (h : hi ≤ lo) : rangeD lo hi = [] := by
  unfold rangeD
  rw [show (hi - lo).toNat = 0 by omega]
  rfl
section
variable {Γ : EnvF}
theorem x_forI {g : D → FM Unit} {fS : FS} {ΦS : Fl → EnvF → Prop} {lo hi : Int} (I : Int → EnvF → Prop) (hl : lo ≤ hi) (h : I lo Γ)
    (step : ∀ i Γ, lo ≤ i → i < hi → I i Γ → X (g (.int i)) Γ fun _ Γ1 => X fS Γ1 (ForK (I (i + 1)) ΦS)) (fin : ∀ Γ, I hi Γ → ΦS .nx Γ) : X (forL g fS (rangeD lo hi)) Γ ΦS := by
  refine x_forL (fun ds Γ => ∃ i, lo ≤ i ∧ i ≤ hi ∧ ds = rangeD i hi ∧ I i Γ) ⟨lo, Int.le_refl _, hl, rfl, h⟩ ?_ ?_
  · rintro d ds Γ ⟨i, h1, h2, e, hi'⟩
    by_cases l : i < hi
    · rw [rng_cons l] at e
      cases e
      refine (step i Γ h1 l hi').imp fun _ _ p => p.imp fun v Γ' q => ?_
      cases v with
      | nx => exact ⟨i + 1, by omega, by omega, rfl, q⟩
      | ct => exact ⟨i + 1, by omega, by omega, rfl, q⟩
      | bk => exact q
      | rt v => exact q
    · rw [rng_nil (by omega)] at e
      cases e
  · rintro Γ ⟨i, h1, h2, e, hi'⟩
    by_cases l : i < hi
    · rw [rng_cons l] at e
      cases e
    · have : i = hi := by omega
      subst this
      exact fin _ hi'
theorem x_lcI {g : D → FM Unit} {ft : FT} {fa : FE} {ΦL : List D → EnvF → Prop} {vs : List Nat} {lo hi : Int} (I : Int → List D → EnvF → Prop) {acc : List D} (hl : lo ≤ hi) (h : I lo acc Γ)
    (step : ∀ i acc Γ, lo ≤ i → i < hi → I i acc Γ → ∃ Γw, wipeF Γ vs = Γw ∧ (vs.all fun v => !isOwn (Γ.getD v .no)) = true ∧ X (g (.int i)) Γw fun _ Γ1 => X ft Γ1 fun k Γ2 => (k = true → X (fV fa) Γ2 fun y Γ3 => (backF Γ Γ3 vs).map isOwn = Γ.map isOwn ∧ I (i + 1) (acc ++ [y]) (backF Γ Γ3 vs)) ∧ (k = false → (backF Γ Γ2 vs).map isOwn = Γ.map isOwn ∧ I (i + 1) acc (backF Γ Γ2 vs)))
    (fin : ∀ acc Γ, I hi acc Γ → ΦL acc Γ) : X (lcL g ft fa vs (rangeD lo hi) acc) Γ ΦL := by
  refine x_lcL (fun ds acc Γ => ∃ i, lo ≤ i ∧ i ≤ hi ∧ ds = rangeD i hi ∧ I i acc Γ) ⟨lo, Int.le_refl _, hl, rfl, h⟩ ?_ ?_
  · rintro d ds acc Γ ⟨i, h1, h2, e, hi'⟩
    by_cases l : i < hi
    · rw [rng_cons l] at e
      cases e
      obtain ⟨Γw, ew, ho, p⟩ := step i acc Γ h1 l hi'
      refine ⟨Γw, ew, ho, p.imp fun _ _ p => p.imp fun k _ p => ⟨fun hk => (p.1 hk).imp fun y _ q => ⟨q.1, i + 1, by omega, by omega, rfl, q.2⟩, fun hk => ⟨(p.2 hk).1, i + 1, by omega, by omega, rfl, (p.2 hk).2⟩⟩⟩
    · rw [rng_nil (by omega)] at e
      cases e
  · rintro acc Γ ⟨i, h1, h2, e, hi'⟩
    by_cases l : i < hi
    · rw [rng_cons l] at e
      cases e
    · have : i = hi := by omega
      subst this
      exact fin _ _ hi'
end
/-! ### lists of small numbers against the empty list; rows of three -/
def smI (d : D) : Prop := ∃ i : Int, d = .int i ∧ i.natAbs < 1000
theorem okL_smI : ∀ {L : List D}, (∀ d ∈ L, smI d) → okL L
  | [], _ => trivial
  | d :: L, h => by
    obtain ⟨i, rfl, hi⟩ := h _ List.mem_cons_self
    exact ⟨Nat.lt_trans hi (by decide), okL_smI fun x hx => h x (List.mem_cons_of_mem _ hx)⟩
theorem depL_smI : ∀ {L : List D}, (∀ d ∈ L, smI d) → depL L = 0
  | [], _ => rfl
  | d :: L, h => by
    obtain ⟨i, rfl, hi⟩ := h _ List.mem_cons_self
    show max 0 (depL L) = 0
    rw [depL_smI fun x hx => h x (List.mem_cons_of_mem _ hx)]; rfl
theorem r_neNil {L : List D} {Φ : D → Prop} (h : ∀ d ∈ L, smI d) (p : Φ (.bl !(decide (L = [])))) : ∃ z, neD (.lst L) (.lst []) = some z ∧ Φ z := by
  refine r_ne (eq_okD (okL_smI h : okD (.lst L)) (by show depL L + 1 ≤ 64; rw [depL_smI h]; decide)) rfl ?_ p
  cases L with
  | nil => rfl
  | cons d L => rfl
theorem r_neNilI {c : Str} {cs : List Str} {tb : ITab} {F : FF} {L : List D} {Φ : D → Prop} (h : ∀ d ∈ L, smI d) (p : Φ (.bl !(decide (L = [])))) : ∃ z, orD neD (eqI cs tb c F true) (.lst L) (.lst []) = some z ∧ Φ z := r_orL (r_neNil h p)
theorem E3_iff {x y z u v w : Int} : E3 x y z u v w = decide (x = u ∧ y = v ∧ z = w) := by
  show (PyData.eqv (.int x) (.int u) && (PyData.eqv (.int y) (.int v) && (PyData.eqv (.int z) (.int w) && true))) = _
  rw [eqv_int, eqv_int, eqv_int]
  by_cases h1 : x = u <;> by_cases h2 : y = v <;> by_cases h3 : z = w <;> simp [h1, h2, h3]
section
variable {x y z u v w : Int} {Φ : D → Prop}
theorem r_eq3 (p : Φ (.bl (decide (x = u ∧ y = v ∧ z = w)))) : ∃ d, eqD (tr x y z) (tr u v w) = some d ∧ Φ d := r_eq rfl rfl E3_iff p
theorem r_ne3 (p : Φ (.bl !(decide (x = u ∧ y = v ∧ z = w)))) : ∃ d, neD (tr x y z) (tr u v w) = some d ∧ Φ d := r_ne rfl rfl E3_iff p
theorem r_ne2 (p : Φ (.bl !(decide (x = u ∧ y = v)))) : ∃ d, neD (.tup [.int x, .int y]) (.tup [.int u, .int v]) = some d ∧ Φ d := r_ne rfl rfl (by
  show (PyData.eqv (.int x) (.int u) && (PyData.eqv (.int y) (.int v) && true)) = _
  rw [eqv_int, eqv_int]
  by_cases h1 : x = u <;> by_cases h2 : y = v <;> simp [h1, h2]) p
theorem r_neB {a b : Bool} (p : Φ (.bl (a != b))) : ∃ z, neD (.bl a) (.bl b) = some z ∧ Φ z := r_ne rfl rfl rfl (by cases a <;> cases b <;> exact p)
end
end Kr

set_option linter.all false
set_option maxRecDepth 100000
set_option pp.maxSteps 500
set_option maxHeartbeats 1000000
namespace Kr
open PySem PySem.Spec PyProof.Rows L2 DF TL NumText
variable [TbC]
/-! ### one step -/
local macro_rules | `(tactic| walk_at "set") => `(tactic| (refine' e_set ?qa ?_; (case qa => (simp only [wipeF, backF, List.set, List.getD_cons_succ, List.getD_cons_zero, Int.reduceToNat]; rfl))))
local macro_rules | `(tactic| walk_at "cnd") => `(tactic| first | assumption | decide | omega)
local macro_rules | `(tactic| walk_at "mul") => `(tactic| first | exact mulOk_r (by decide) (by decide) | exact mulOk_l (by decide) (by decide) | exact mulOk_l (by omega) (by omega) | exact mulOk_r (by omega) (by omega))
local macro_rules | `(tactic| walk_at "x") => `(tactic| first
  | with_reducible apply x_seq
  | with_reducible apply k_nx
  | with_reducible apply k_rt
  | with_reducible apply x_nx
  | with_reducible refine x_asgK (fa := fLstO _) ?_
  | with_reducible refine x_asgK (fa := fLcO _ _ _ _ _) ?_
  | with_reducible apply ak_own
  | with_reducible apply ak_val
  | with_reducible apply x_asg
  | with_reducible refine x_retK (fa := fLstO _) ?_
  | with_reducible apply rk_own
  | with_reducible apply x_ret
  | with_reducible apply x_ifS
  | with_reducible apply x_asgG
  | with_reducible apply x_drop
  | with_reducible apply x_par
  | with_reducible apply x_par3
  | with_reducible apply x_asg3
  | with_reducible apply x_for
  | with_reducible refine x_aug ⟨_, rfl, ?_⟩
  | with_reducible apply xv_c
  | (with_reducible refine xv_var rfl ?_)
  | (with_reducible refine x_varV rfl ?_)
  | (with_reducible refine x_varO rfl ?_)
  | with_reducible apply xv_op
  | with_reducible apply xv_un
  | with_reducible apply xv_cb
  | with_reducible apply xs_nil
  | with_reducible apply xs_cons
  | with_reducible apply xa_nil
  | with_reducible apply xa_cons
  | with_reducible apply xv_tup
  | with_reducible apply xv_lst
  | with_reducible apply x_lstO
  | with_reducible apply xv_if
  | with_reducible apply xv_andV
  | with_reducible apply xv_orV
  | with_reducible apply xv_notV
  | with_reducible apply xv_isN
  | with_reducible apply xv_notN
  | with_reducible apply xt_test
  | with_reducible apply xt_tru
  | with_reducible apply xt_not
  | with_reducible apply xt_and
  | with_reducible apply xt_or
  | with_reducible apply xt_yes
  | with_reducible apply xv_call
  | with_reducible apply xv_callN
  | with_reducible apply xv_cmeth
  | with_reducible apply xv_cmethN
  | with_reducible apply xv_fld
  | with_reducible apply xv_prop
  | with_reducible apply x_setF
  | with_reducible apply xv_make
  | with_reducible apply xv_makeN
  | (with_reducible refine xv_makeL rfl ?_)
  | with_reducible apply xg_name
  | with_reducible apply xg_nil
  | with_reducible apply xg_cons
  | (with_reducible refine xg_tup rfl ?_)
  | (with_reducible refine xg_unl rfl ?_)
  | (with_reducible refine xg_sub rfl ?_)
  | (with_reducible refine xv_ixO rfl ?_)
  | ((with_reducible refine' xv_pk ?qa ?_); (case qa => (simp only [List.map, seeO, odD]; rfl)))
  | ((with_reducible refine' xt_pk ?qa ?_); (case qa => (simp only [List.map, seeO, odD]; rfl)))
  | with_reducible apply xv_bm
  | with_reducible apply xv_bm0
  | with_reducible apply xv_sl
  | with_reducible apply xo_no
  | with_reducible apply xo_some
  | with_reducible apply xv_revS
  | with_reducible apply xv_revL
  | with_reducible apply xv_fmt
  | with_reducible apply xw_any
  | with_reducible apply xw_rng1
  | with_reducible apply xw_rng2
  | with_reducible apply xv_lc
  | with_reducible apply vk_val
  | with_reducible apply bk_none
  | with_reducible apply bk_tmp
  | (with_reducible refine bk_slot rfl ?_)
  | with_reducible apply rk_val
  | with_reducible apply fk_nx
  | with_reducible apply fk_rt
  | ((with_reducible refine' e_par ?qa ?_); (case qa => (simp only [List.set]; rfl)))
  | ((with_reducible refine' e_par3 ?qa ?_); (case qa => (simp only [List.set]; rfl)))
  | ((with_reducible refine' e_ixO ?qa ?qb ?_); (case qa => exact rfl); (case qb => exact rfl))
  | ((with_reducible refine' e_sub ?qa ?qb ?qc ?_); (case qa => exact rfl); (case qb => exact rfl); (case qc => (simp only [List.set, Int.reduceToNat]; rfl)))
  | ((with_reducible refine' e_setF ?qa ?qb ?qc ?_); (case qa => exact rfl); (case qb => (simp only [List.length_cons, List.length_nil]; decide)); (case qc => (simp only [List.set, Int.reduceToNat]; rfl)))
  | ((with_reducible refine' e_fields ?qa ?qb ?_); (case qa => exact rfl); (case qb => exact rfl))
  | ((with_reducible refine' e_has ?qa ?_); (case qa => exact rfl))
  | with_reducible apply r_addI
  | with_reducible apply r_sub
  | with_reducible apply r_lt
  | with_reducible apply r_gt
  | with_reducible apply r_le
  | with_reducible apply r_ge
  | with_reducible apply r_int
  | with_reducible apply r_intB
  | with_reducible apply r_abs
  | with_reducible refine r_dec2 (fun h => ?_) (fun h => ?_)
  | with_reducible refine r_decN2 (fun h => ?_) (fun h => ?_)
  | with_reducible refine r_decM2 (fun h => ?_) (fun h => ?_)
  | with_reducible apply r_bool
  | with_reducible apply r_truB
  | with_reducible apply r_len
  | with_reducible apply r_lenS
  | with_reducible apply r_orEqS
  | with_reducible apply r_orNeS
  | with_reducible apply r_orEqI
  | with_reducible apply r_orNeI
  | with_reducible apply xv_joined
  | with_reducible apply xj_cons
  | with_reducible apply xj_nil
  | with_reducible apply r_eqI
  | with_reducible apply r_neI
  | with_reducible apply r_eqS
  | with_reducible apply r_neS
  | ((with_reducible refine' e_addD ?qa ?_); (case qa => exact rfl))
  | ((with_reducible refine' e_subD ?qa ?_); (case qa => exact rfl))
  | ((with_reducible refine' r_mul ?qa ?_); (case qa => walk_at "mul"))
  | ((with_reducible refine' r_mod ?qa ?_); (case qa => walk_at "cnd"))
  | ((with_reducible refine' r_fdiv ?qa ?qb ?_); (case qa => walk_at "cnd"); (case qb => walk_at "cnd"))
  | ((with_reducible refine' r_divmod ?qa ?qb ?_); (case qa => walk_at "cnd"); (case qb => walk_at "cnd"))
  | ((with_reducible refine' e_ltD ?qa ?_); (case qa => exact rfl))
  | ((with_reducible refine' e_leD ?qa ?_); (case qa => exact rfl))
  | ((with_reducible refine' e_gtD ?qa ?_); (case qa => exact rfl))
  | ((with_reducible refine' e_geD ?qa ?_); (case qa => exact rfl))
  | ((with_reducible refine' e_negD ?qa ?_); (case qa => exact rfl))
  | ((with_reducible refine' e_ixD ?qa ?_); (case qa => exact rfl))
  | ((with_reducible refine' e_intD ?qa ?_); (case qa => exact rfl))
  | ((with_reducible refine' e_absD ?qa ?_); (case qa => exact rfl))
  | ((with_reducible refine' e_intOf ?qa ?_); (case qa => exact rfl))
  | ((with_reducible refine' e_tupOf ?qa ?_); (case qa => exact rfl))
  | ((with_reducible refine' e_lstOf ?qa ?_); (case qa => exact rfl))
  | ((with_reducible refine' e2_boolOf ?qa ?_ ?_); (case qa => exact rfl))
  | ((with_reducible refine' e_boolOf ?qa ?_); (case qa => exact rfl))
  | ((with_reducible refine' e_truD ?qa ?_); (case qa => exact rfl))
  | ((with_reducible refine' e_itemsOf ?qa ?_); (case qa => exact rfl))
  | ((with_reducible refine' e_slD ?qa ?_); (case qa => exact rfl))
  | ((with_reducible refine' e_isiD ?qa ?_); (case qa => exact rfl))
  | ((with_reducible refine' e_boolI ?qa ?_); (case qa => exact rfl))
  | ((with_reducible refine' e_rng ?qa ?_); (case qa => exact ⟨by omega, by omega⟩))
  | with_reducible apply e_some
  | with_reducible apply e_str
  | with_reducible apply e_rev
  | ((with_reducible refine' en_val ?qa ?_); (case qa => exact rfl))
  | ((with_reducible refine' en_own ?qa ?_); (case qa => exact rfl))
  | ((with_reducible refine' en_nx ?qa ?_); (case qa => exact rfl))
  | with_reducible apply x_call
  | with_reducible refine x_ofV (fa := fC _) ?_
  | with_reducible refine x_ofV (fa := fOp _ _ _) ?_
  | with_reducible refine x_ofV (fa := fUn _ _) ?_
  | with_reducible refine x_ofV (fa := fCB _ _) ?_
  | with_reducible refine x_ofV (fa := fTup _) ?_
  | with_reducible refine x_ofV (fa := fLst _) ?_
  | with_reducible refine x_ofV (fa := fBM _ _ _ _) ?_
  | with_reducible refine x_ofV (fa := fBM0 _ _ _) ?_
  | with_reducible refine x_ofV (fa := fLc _ _ _ _ _) ?_
  | with_reducible refine x_ofV (fa := fFld _ _ _) ?_
  | with_reducible refine x_ofV (fa := fProp _ _ _) ?_
  | with_reducible refine x_ofV (fa := fMake _ _ _) ?_
  | with_reducible refine x_ofV (fa := fMakeN _ _ _ _ _ _ _) ?_
  | with_reducible refine x_ofV (fa := fSl _ _ _) ?_
  | with_reducible refine x_ofV (fa := fJoined _) ?_
  | with_reducible refine x_ofV (fa := fAndV _ _) ?_
  | with_reducible refine x_ofV (fa := fOrV _ _) ?_
  | with_reducible refine x_ofV (fa := fNotV _) ?_
  | with_reducible refine x_ofV (fa := fIf _ _ _) ?_
  | with_reducible refine x_ofV (fa := fIxO _ _) ?_
  | with_reducible refine x_ofV (fa := fCMeth _ _ _) ?_
  | with_reducible refine x_ofV (fa := fCMethN _ _ _ _ _) ?_
  | with_reducible refine x_ofV (fa := fCallN _ _ _ _ _ _) ?_
  | with_reducible refine x_ofV (fa := fIsN _) ?_
  | with_reducible refine x_ofV (fa := fNotN _) ?_
  | with_reducible apply xl_nil
  | with_reducible refine xl_cons rfl ?_
  | (refine And.intro (show List.length _ ≤ 16777216 from by simp only [List.length_cons, List.length_nil]; decide) ?_)
  | (refine And.intro (show tyS _ = some _ from rfl) ?_)
  | (refine And.intro (show flat _ = true from rfl) ?_)
  | (refine And.intro (show List.length _ = _ from rfl) ?_)
  | (refine And.intro (show List.length _ < 16777216 from by simp only [List.length_cons, List.length_nil]; decide) ?_)
  | (refine And.intro (show List.map isOwn _ = List.map isOwn _ from rfl) ?_)
  | with_reducible apply tt_intro
  | with_reducible apply nt_intro
  | with_reducible apply nnf_intro
  | with_reducible apply nnt_intro
  | with_reducible apply nf_intro
  | with_reducible apply ff_intro
  | walk_at "set")
theorem f_commute {x y z u v w : Int} {k : Nat} (hx : S k x) (hy : S k y) (hu : S k u) (hv : S k v) (hk : k ≤ 90000) : F_do_moves_commute [.val (mv x y z), .val (mv u v w)] = some (.ok (.val (.bl (decide (x * v - u * y = 0)))) none) := by
  refine Fp.eq (f_def rfl ?_)
  show X _ [_, _] _
  unfold B_do_moves_commute
  repeat' walk_at "x"
  refine x_callF rfl (fp_of f_check_moves ?_)
  repeat' walk_at "x"
  refine x_callF rfl (fp_of (f_cross hx hy hu hv hk) ?_)
  repeat' walk_at "x"
  exact ⟨rfl, rfl⟩
theorem f_alike_right {x y z u v w : Int} {due : Bool} (hx : S 99 x) (hy : S 99 y) (hu : S 99 u) (hv : S 99 v) (hz : S 199 z) (hw : S 199 w) (hdue : due = true ↔ x = u ∧ y = v ∧ ((Int.gcd x y : Nat) : Int) ∣ w - z) :
    F_l_alike_right [.val (tr x y z), .val (tr u v w), .val (.bl due)] = some (.ok (.val (.bl true)) none) := by
  have hdue' : due = true ↔ u = x ∧ v = y ∧ ((Int.gcd u v : Nat) : Int) ∣ z - w := by
    rw [hdue]
    constructor
    · rintro ⟨rfl, rfl, h⟩; exact ⟨rfl, rfl, by rw [← Int.neg_sub]; exact Int.dvd_neg.mpr h⟩
    · rintro ⟨rfl, rfl, h⟩; exact ⟨rfl, rfl, by rw [← Int.neg_sub]; exact Int.dvd_neg.mpr h⟩
  refine Fp.eq (f_def rfl ?_)
  show X _ [_, _, _, _, _, _, _, _, _, _] _
  unfold B_l_alike_right
  repeat' walk_at "x"
  refine x_callF rfl (fp_of f_move ?_)
  repeat' walk_at "x"
  refine x_callF rfl (fp_of f_move ?_)
  repeat' walk_at "x"
  refine x_callF rfl (fp_of (f_is_alike hx hy (hw.sub hz) hdue) ?_)
  repeat' walk_at "x"
  refine x_callF rfl (fp_of (f_is_alike hu hv (hz.sub hw) hdue') ?_)
  repeat' walk_at "x"
  have hr : ∀ {b : Bool} {Φ : D → Prop}, Φ (.str (py (.lst [.bl b, .bl b])).shown) → ∃ z, reprD [.lst [.bl b, .bl b]] = some z ∧ Φ z := fun {b Φ} p =>
    r_repr (x := .lst [.bl b, .bl b]) ⟨trivial, trivial, trivial⟩ ⟨_, .inr rfl⟩ (by cases b <;> exact Nat.le_of_ble_eq_true rfl) (by cases b <;> exact Nat.le_of_ble_eq_true rfl) p
  refine hr ?_
  repeat' walk_at "x"
  refine hr ?_
  repeat' walk_at "x"
  rotate_left
  · exact absurd rfl ‹¬ _›
  cases due
  · refine x_callF rfl (p_alike hx hy (hw.sub hz) hdue (fun _ => ?_) fun h => nomatch h)
    repeat' walk_at "x"
    refine x_callF rfl (p_alike hu hv (hz.sub hw) hdue' (fun _ => ?_) fun h => nomatch h)
    repeat' walk_at "x"
    refine xf_cons ?_
    repeat' walk_at "x"
    refine r_neB ?_
    repeat' walk_at "x"
    refine ⟨(fun h => nomatch h), fun _ => ?_⟩
    repeat' walk_at "x"
    refine xf_cons ?_
    repeat' walk_at "x"
    refine r_neB ?_
    repeat' walk_at "x"
    refine ⟨(fun h => nomatch h), fun _ => ?_⟩
    repeat' walk_at "x"
    refine xf_nil ?_
    repeat' walk_at "x"
    refine x_callF rfl (fp_of (f_commute hx hy hu hv (by decide)) ?_)
    repeat' walk_at "x"
    refine x_callF rfl (fp_of (f_commute hu hv hx hy (by decide)) ?_)
    repeat' walk_at "x"
    rw [show decide (u * y - x * v = 0) = decide (x * v - u * y = 0) from decide_eq_decide.mpr (by omega)]
    refine hr ?_
    repeat' walk_at "x"
    refine x_callF rfl (fp_of (f_put hx hv (by decide)) ?_)
    repeat' walk_at "x"
    refine x_callF rfl (fp_of (f_put hu hy (by decide)) ?_)
    repeat' walk_at "x"
    refine r_eq3 ?_
    rw [show decide (x + u = u + x ∧ y + v = v + y ∧ z + w + x * v = w + z + u * y) = decide (x * v - u * y = 0) from decide_eq_decide.mpr (by omega)]
    repeat' walk_at "x"
    refine ⟨.lst [.bl (decide (x * v - u * y = 0)), .bl (decide (x * v - u * y = 0))], rfl, ?_⟩
    repeat' walk_at "x"
    refine hr ?_
    repeat' walk_at "x"
    exact ⟨by rw [decide_eq_true rfl], rfl⟩
  · refine x_callF rfl (p_alike hx hy (hw.sub hz) hdue (fun h => nomatch h) fun _ s t e hs ht => ?_)
    repeat' walk_at "x"
    refine x_callF rfl (p_alike hu hv (hz.sub hw) hdue' (fun h => nomatch h) fun _ s' t' e' hs' ht' => ?_)
    repeat' walk_at "x"
    obtain ⟨eu, ev, _⟩ := hdue.mp rfl
    subst eu ev
    refine xf_cons ?_
    repeat' walk_at "x"
    refine r_neB ?_
    repeat' walk_at "x"
    refine ⟨(fun h => nomatch h), fun _ => ?_⟩
    repeat' walk_at "x"
    refine x_callF rfl (fp_of f_three ?_)
    repeat' walk_at "x"
    refine x_callF rfl (fp_of (f_between (k := 21300) hs ht (hx.up (by decide)) (hy.up (by decide)) (by decide)) ?_)
    repeat' walk_at "x"
    refine r_ne3 ?_
    repeat' walk_at "x"
    rotate_left
    · rename_i hh
      exact (hh ⟨rfl, rfl, by omega⟩).elim
    refine xf_cons ?_
    repeat' walk_at "x"
    refine r_neB ?_
    repeat' walk_at "x"
    refine ⟨(fun h => nomatch h), fun _ => ?_⟩
    repeat' walk_at "x"
    refine x_callF rfl (fp_of f_three ?_)
    repeat' walk_at "x"
    refine x_callF rfl (fp_of (f_between (k := 21300) hs' ht' (hx.up (by decide)) (hy.up (by decide)) (by decide)) ?_)
    repeat' walk_at "x"
    refine r_ne3 ?_
    repeat' walk_at "x"
    rotate_left
    · rename_i hh
      exact (hh ⟨rfl, rfl, by omega⟩).elim
    refine xf_nil ?_
    repeat' walk_at "x"
    refine x_callF rfl (fp_of (f_commute hx hy hx hy (by decide)) ?_)
    repeat' walk_at "x"
    refine x_callF rfl (fp_of (f_commute hx hy hx hy (by decide)) ?_)
    repeat' walk_at "x"
    rw [show decide (x * y - x * y = 0) = decide (x * y - x * y = 0) from decide_eq_decide.mpr (by omega)]
    refine hr ?_
    repeat' walk_at "x"
    refine x_callF rfl (fp_of (f_put hx hy (by decide)) ?_)
    repeat' walk_at "x"
    refine x_callF rfl (fp_of (f_put hx hy (by decide)) ?_)
    repeat' walk_at "x"
    refine r_eq3 ?_
    rw [show decide (x + x = x + x ∧ y + y = y + y ∧ z + w + x * y = w + z + x * y) = decide (x * y - x * y = 0) from decide_eq_decide.mpr (by omega)]
    repeat' walk_at "x"
    refine ⟨.lst [.bl (decide (x * y - x * y = 0)), .bl (decide (x * y - x * y = 0))], rfl, ?_⟩
    repeat' walk_at "x"
    refine hr ?_
    repeat' walk_at "x"
    exact ⟨by rw [decide_eq_true rfl], rfl⟩
end Kr

set_option linter.all false
set_option maxRecDepth 100000
set_option pp.maxSteps 500
set_option maxHeartbeats 1000000
namespace Kr
open PySem PySem.Spec PyProof.Rows L2 DF TL NumText
variable [TbC]
/-! ### one step -/
local macro_rules | `(tactic| walk_at "set") => `(tactic| (refine' e_set ?qa ?_; (case qa => (simp only [wipeF, backF, List.set, List.getD_cons_succ, List.getD_cons_zero, Int.reduceToNat]; rfl))))
local macro_rules | `(tactic| walk_at "cnd") => `(tactic| first | assumption | decide | omega)
local macro_rules | `(tactic| walk_at "mul") => `(tactic| first | exact mulOk_r (by decide) (by decide) | exact mulOk_l (by decide) (by decide) | exact mulOk_l (by omega) (by omega) | exact mulOk_r (by omega) (by omega))
local macro_rules | `(tactic| walk_at "x") => `(tactic| first
  | with_reducible apply x_seq
  | with_reducible apply k_nx
  | with_reducible apply k_rt
  | with_reducible apply x_nx
  | with_reducible refine x_asgK (fa := fLstO _) ?_
  | with_reducible refine x_asgK (fa := fLcO _ _ _ _ _) ?_
  | with_reducible apply ak_own
  | with_reducible apply ak_val
  | with_reducible apply x_asg
  | with_reducible refine x_retK (fa := fLstO _) ?_
  | with_reducible apply rk_own
  | with_reducible apply x_ret
  | with_reducible apply x_ifS
  | with_reducible apply x_asgG
  | with_reducible apply x_drop
  | with_reducible apply x_par
  | with_reducible apply x_par3
  | with_reducible apply x_asg3
  | with_reducible apply x_for
  | with_reducible refine x_aug ⟨_, rfl, ?_⟩
  | with_reducible apply xv_c
  | (with_reducible refine xv_var rfl ?_)
  | (with_reducible refine x_varV rfl ?_)
  | (with_reducible refine x_varO rfl ?_)
  | with_reducible apply xv_op
  | with_reducible apply xv_un
  | with_reducible apply xv_cb
  | with_reducible apply xs_nil
  | with_reducible apply xs_cons
  | with_reducible apply xa_nil
  | with_reducible apply xa_cons
  | with_reducible apply xv_tup
  | with_reducible apply xv_lst
  | with_reducible apply x_lstO
  | with_reducible apply xv_if
  | with_reducible apply xv_andV
  | with_reducible apply xv_orV
  | with_reducible apply xv_notV
  | with_reducible apply xv_isN
  | with_reducible apply xv_notN
  | with_reducible apply xt_test
  | with_reducible apply xt_tru
  | with_reducible apply xt_not
  | with_reducible apply xt_and
  | with_reducible apply xt_or
  | with_reducible apply xt_yes
  | with_reducible apply xv_call
  | with_reducible apply xv_callN
  | with_reducible apply xv_cmeth
  | with_reducible apply xv_cmethN
  | with_reducible apply xv_fld
  | with_reducible apply xv_prop
  | with_reducible apply x_setF
  | with_reducible apply xv_make
  | with_reducible apply xv_makeN
  | (with_reducible refine xv_makeL rfl ?_)
  | with_reducible apply xg_name
  | with_reducible apply xg_nil
  | with_reducible apply xg_cons
  | (with_reducible refine xg_tup rfl ?_)
  | (with_reducible refine xg_unl rfl ?_)
  | (with_reducible refine xg_sub rfl ?_)
  | (with_reducible refine xv_ixO rfl ?_)
  | ((with_reducible refine' xv_pk ?qa ?_); (case qa => (simp only [List.map, seeO, odD]; rfl)))
  | ((with_reducible refine' xt_pk ?qa ?_); (case qa => (simp only [List.map, seeO, odD]; rfl)))
  | with_reducible apply xv_bm
  | with_reducible apply xv_bm0
  | with_reducible apply xv_sl
  | with_reducible apply xo_no
  | with_reducible apply xo_some
  | with_reducible apply xv_revS
  | with_reducible apply xv_revL
  | with_reducible apply xv_fmt
  | with_reducible apply xw_any
  | with_reducible apply xw_rng1
  | with_reducible apply xw_rng2
  | with_reducible apply xv_lc
  | with_reducible apply vk_val
  | with_reducible apply bk_none
  | with_reducible apply bk_tmp
  | (with_reducible refine bk_slot rfl ?_)
  | with_reducible apply rk_val
  | with_reducible apply fk_nx
  | with_reducible apply fk_rt
  | ((with_reducible refine' e_par ?qa ?_); (case qa => (simp only [List.set]; rfl)))
  | ((with_reducible refine' e_par3 ?qa ?_); (case qa => (simp only [List.set]; rfl)))
  | ((with_reducible refine' e_ixO ?qa ?qb ?_); (case qa => exact rfl); (case qb => exact rfl))
  | ((with_reducible refine' e_sub ?qa ?qb ?qc ?_); (case qa => exact rfl); (case qb => exact rfl); (case qc => (simp only [List.set, Int.reduceToNat]; rfl)))
  | ((with_reducible refine' e_setF ?qa ?qb ?qc ?_); (case qa => exact rfl); (case qb => (simp only [List.length_cons, List.length_nil]; decide)); (case qc => (simp only [List.set, Int.reduceToNat]; rfl)))
  | ((with_reducible refine' e_fields ?qa ?qb ?_); (case qa => exact rfl); (case qb => exact rfl))
  | ((with_reducible refine' e_has ?qa ?_); (case qa => exact rfl))
  | with_reducible apply r_addI
  | with_reducible apply r_sub
  | with_reducible apply r_lt
  | with_reducible apply r_gt
  | with_reducible apply r_le
  | with_reducible apply r_ge
  | with_reducible apply r_int
  | with_reducible apply r_intB
  | with_reducible apply r_abs
  | with_reducible refine r_dec2 (fun h => ?_) (fun h => ?_)
  | with_reducible refine r_decN2 (fun h => ?_) (fun h => ?_)
  | with_reducible refine r_decM2 (fun h => ?_) (fun h => ?_)
  | with_reducible apply r_bool
  | with_reducible apply r_truB
  | with_reducible apply r_len
  | with_reducible apply r_lenS
  | with_reducible apply r_orEqS
  | with_reducible apply r_orNeS
  | with_reducible apply r_orEqI
  | with_reducible apply r_orNeI
  | with_reducible apply xv_joined
  | with_reducible apply xj_cons
  | with_reducible apply xj_nil
  | with_reducible apply r_eqI
  | with_reducible apply r_neI
  | with_reducible apply r_eqS
  | with_reducible apply r_neS
  | ((with_reducible refine' e_addD ?qa ?_); (case qa => exact rfl))
  | ((with_reducible refine' e_subD ?qa ?_); (case qa => exact rfl))
  | ((with_reducible refine' r_mul ?qa ?_); (case qa => walk_at "mul"))
  | ((with_reducible refine' r_mod ?qa ?_); (case qa => walk_at "cnd"))
  | ((with_reducible refine' r_fdiv ?qa ?qb ?_); (case qa => walk_at "cnd"); (case qb => walk_at "cnd"))
  | ((with_reducible refine' r_divmod ?qa ?qb ?_); (case qa => walk_at "cnd"); (case qb => walk_at "cnd"))
  | ((with_reducible refine' e_ltD ?qa ?_); (case qa => exact rfl))
  | ((with_reducible refine' e_leD ?qa ?_); (case qa => exact rfl))
  | ((with_reducible refine' e_gtD ?qa ?_); (case qa => exact rfl))
  | ((with_reducible refine' e_geD ?qa ?_); (case qa => exact rfl))
  | ((with_reducible refine' e_negD ?qa ?_); (case qa => exact rfl))
  | ((with_reducible refine' e_ixD ?qa ?_); (case qa => exact rfl))
  | ((with_reducible refine' e_intD ?qa ?_); (case qa => exact rfl))
  | ((with_reducible refine' e_absD ?qa ?_); (case qa => exact rfl))
  | ((with_reducible refine' e_intOf ?qa ?_); (case qa => exact rfl))
  | ((with_reducible refine' e_tupOf ?qa ?_); (case qa => exact rfl))
  | ((with_reducible refine' e_lstOf ?qa ?_); (case qa => exact rfl))
  | ((with_reducible refine' e2_boolOf ?qa ?_ ?_); (case qa => exact rfl))
  | ((with_reducible refine' e_boolOf ?qa ?_); (case qa => exact rfl))
  | ((with_reducible refine' e_truD ?qa ?_); (case qa => exact rfl))
  | ((with_reducible refine' e_itemsOf ?qa ?_); (case qa => exact rfl))
  | ((with_reducible refine' e_slD ?qa ?_); (case qa => exact rfl))
  | ((with_reducible refine' e_isiD ?qa ?_); (case qa => exact rfl))
  | ((with_reducible refine' e_boolI ?qa ?_); (case qa => exact rfl))
  | ((with_reducible refine' e_rng ?qa ?_); (case qa => exact ⟨by omega, by omega⟩))
  | with_reducible apply e_some
  | with_reducible apply e_str
  | with_reducible apply e_rev
  | ((with_reducible refine' en_val ?qa ?_); (case qa => exact rfl))
  | ((with_reducible refine' en_own ?qa ?_); (case qa => exact rfl))
  | ((with_reducible refine' en_nx ?qa ?_); (case qa => exact rfl))
  | with_reducible apply x_call
  | with_reducible refine x_ofV (fa := fC _) ?_
  | with_reducible refine x_ofV (fa := fOp _ _ _) ?_
  | with_reducible refine x_ofV (fa := fUn _ _) ?_
  | with_reducible refine x_ofV (fa := fCB _ _) ?_
  | with_reducible refine x_ofV (fa := fTup _) ?_
  | with_reducible refine x_ofV (fa := fLst _) ?_
  | with_reducible refine x_ofV (fa := fBM _ _ _ _) ?_
  | with_reducible refine x_ofV (fa := fBM0 _ _ _) ?_
  | with_reducible refine x_ofV (fa := fLc _ _ _ _ _) ?_
  | with_reducible refine x_ofV (fa := fFld _ _ _) ?_
  | with_reducible refine x_ofV (fa := fProp _ _ _) ?_
  | with_reducible refine x_ofV (fa := fMake _ _ _) ?_
  | with_reducible refine x_ofV (fa := fMakeN _ _ _ _ _ _ _) ?_
  | with_reducible refine x_ofV (fa := fSl _ _ _) ?_
  | with_reducible refine x_ofV (fa := fJoined _) ?_
  | with_reducible refine x_ofV (fa := fAndV _ _) ?_
  | with_reducible refine x_ofV (fa := fOrV _ _) ?_
  | with_reducible refine x_ofV (fa := fNotV _) ?_
  | with_reducible refine x_ofV (fa := fIf _ _ _) ?_
  | with_reducible refine x_ofV (fa := fIxO _ _) ?_
  | with_reducible refine x_ofV (fa := fCMeth _ _ _) ?_
  | with_reducible refine x_ofV (fa := fCMethN _ _ _ _ _) ?_
  | with_reducible refine x_ofV (fa := fCallN _ _ _ _ _ _) ?_
  | with_reducible refine x_ofV (fa := fIsN _) ?_
  | with_reducible refine x_ofV (fa := fNotN _) ?_
  | with_reducible apply xl_nil
  | with_reducible refine xl_cons rfl ?_
  | (refine And.intro (show List.length _ ≤ 16777216 from by simp only [List.length_cons, List.length_nil]; decide) ?_)
  | (refine And.intro (show tyS _ = some _ from rfl) ?_)
  | (refine And.intro (show flat _ = true from rfl) ?_)
  | (refine And.intro (show List.length _ = _ from rfl) ?_)
  | (refine And.intro (show List.length _ < 16777216 from by simp only [List.length_cons, List.length_nil]; decide) ?_)
  | (refine And.intro (show List.map isOwn _ = List.map isOwn _ from rfl) ?_)
  | with_reducible apply tt_intro
  | with_reducible apply nt_intro
  | with_reducible apply nnf_intro
  | with_reducible apply nnt_intro
  | with_reducible apply nf_intro
  | with_reducible apply ff_intro
  | walk_at "set")
theorem f_are_alike {x y z u v w : Int} {due : Bool} (hx : -4 ≤ x ∧ x ≤ 4) (hy : -4 ≤ y ∧ y ≤ 4) (hd : -9 < w - z ∧ w - z < 9) (hdue : due = true ↔ x = u ∧ y = v ∧ ((Int.gcd x y : Nat) : Int) ∣ w - z) : F_l_are_alike [.val (tr x y z), .val (tr u v w)] = some (.ok (.val (.bl due)) none) := by
  have s10 : ∀ {i : Int}, -100 ≤ i → i ≤ 100 → S 10 i := fun h1 h2 => by show _ < 1024; omega
  refine Fp.eq (f_def rfl ?_)
  show X _ [_, _, _, _] _
  unfold B_l_are_alike
  repeat' walk_at "x"
  refine r_ne2 ?_
  repeat' walk_at "x"
  rotate_left
  · refine ⟨?_, rfl⟩
    cases due
    · rfl
    · rename_i hh
      obtain ⟨h1, h2, _⟩ := hdue.mp rfl
      exact (hh ⟨h1, h2⟩).elim
  rename_i hh
  obtain ⟨rfl, rfl⟩ := hh
  refine ⟨_, _, rfl, by decide, ?_⟩
  refine x_forI (fun i Γ => ∃ s2, Γ = [.val (tr x y z), .val (tr x y w), s2, .no] ∧ ∀ a b, -8 ≤ a → a < i → -20 ≤ b → b < 21 → a * y - b * x ≠ w - z) (by decide) ⟨.no, rfl, fun a b h1 h2 => by omega⟩ ?_ ?_
  · rintro i Γ i0 i1 ⟨s2, rfl, hn⟩
    repeat' walk_at "x"
    refine ⟨_, _, rfl, by decide, ?_⟩
    refine ⟨by rw [len_rng]; decide, ?_⟩
    refine x_lcI (fun j acc Γ => Γ = [.val (tr x y z), .val (tr x y w), .val (.int i), .no] ∧ (∀ d ∈ acc, smI d) ∧ (acc = [] ↔ ∀ b, -20 ≤ b → b < j → i * y - b * x ≠ w - z)) (by decide) ⟨rfl, by simp, by simp; intro b; omega⟩ ?_ ?_
    · rintro j acc Γ j0 j1 ⟨rfl, hs, he⟩
      refine ⟨_, rfl, rfl, ?_⟩
      show X _ [_, _, _, _] _
      repeat' walk_at "x"
      refine x_callF rfl (fp_of (f_between (k := 10) (s10 (by omega) (by omega)) (s10 (by omega) (by omega)) (s10 (by omega) (by omega)) (s10 (by omega) (by omega)) (by decide)) ?_)
      repeat' walk_at "x"
      refine r_eq3 ?_
      repeat' walk_at "x"
      · rename_i hh
        refine ⟨rfl, mem_snoc hs ⟨j, rfl, by omega⟩, (fun h => by simp at h), fun h => absurd (show i * y - j * x = w - z by have := hh.2.2; omega) (h j (by omega) (by omega))⟩
      · rename_i hh
        refine ⟨rfl, hs, he.trans ⟨fun h b h1 h2 h3 => ?_, fun h b h1 h2 => h b h1 (by omega)⟩⟩
        by_cases e : b = j
        · subst e; exact hh ⟨rfl, rfl, by omega⟩
        · exact h b h1 (by omega) h3
    · rintro acc Γ ⟨rfl, hs, he⟩
      repeat' walk_at "x"
      refine r_neNil hs ?_
      repeat' walk_at "x"
      · rename_i hh
        refine ⟨_, rfl, fun a b h1 h2 h3 h4 => ?_⟩
        by_cases e : a = i
        · subst e; exact he.mp hh b h3 h4
        · exact hn a b h1 (by omega) h3 h4
      · rename_i hh
        refine ⟨?_, rfl⟩
        cases due
        · exact absurd (he.mpr fun b h1 h2 h3 => absurd (hdue.mpr ⟨rfl, rfl, gcd_lin h3⟩) (by decide)) hh
        · rfl
  · rintro Γ ⟨s2, rfl, hn⟩
    repeat' walk_at "x"
    refine ⟨?_, rfl⟩
    cases due
    · rfl
    · obtain ⟨a, b, h1, h2, h3, h4, h5⟩ := window hx hy hd (hdue.mp rfl).2.2
      exact absurd h5 (hn a b h1 h2 h3 h4)
end Kr

set_option linter.all false
set_option maxRecDepth 100000
set_option pp.maxSteps 500
set_option maxHeartbeats 1000000
namespace Kr
open PySem PySem.Spec PyProof.Rows L2 DF TL NumText
variable [TbC]
/-! ### one step -/
local macro_rules | `(tactic| walk_at "set") => `(tactic| (refine' e_set ?qa ?_; (case qa => (simp only [wipeF, backF, List.set, List.getD_cons_succ, List.getD_cons_zero, Int.reduceToNat]; rfl))))
local macro_rules | `(tactic| walk_at "cnd") => `(tactic| first | assumption | decide | omega)
local macro_rules | `(tactic| walk_at "mul") => `(tactic| first | exact mulOk_r (by decide) (by decide) | exact mulOk_l (by decide) (by decide) | exact mulOk_l (by omega) (by omega) | exact mulOk_r (by omega) (by omega))
local macro_rules | `(tactic| walk_at "x") => `(tactic| first
  | with_reducible apply x_seq
  | with_reducible apply k_nx
  | with_reducible apply k_rt
  | with_reducible apply x_nx
  | with_reducible refine x_asgK (fa := fLstO _) ?_
  | with_reducible refine x_asgK (fa := fLcO _ _ _ _ _) ?_
  | with_reducible apply ak_own
  | with_reducible apply ak_val
  | with_reducible apply x_asg
  | with_reducible refine x_retK (fa := fLstO _) ?_
  | with_reducible apply rk_own
  | with_reducible apply x_ret
  | with_reducible apply x_ifS
  | with_reducible apply x_asgG
  | with_reducible apply x_drop
  | with_reducible apply x_par
  | with_reducible apply x_par3
  | with_reducible apply x_asg3
  | with_reducible apply x_for
  | with_reducible refine x_aug ⟨_, rfl, ?_⟩
  | with_reducible apply xv_c
  | (with_reducible refine xv_var rfl ?_)
  | (with_reducible refine x_varV rfl ?_)
  | (with_reducible refine x_varO rfl ?_)
  | with_reducible apply xv_op
  | with_reducible apply xv_un
  | with_reducible apply xv_cb
  | with_reducible apply xs_nil
  | with_reducible apply xs_cons
  | with_reducible apply xa_nil
  | with_reducible apply xa_cons
  | with_reducible apply xv_tup
  | with_reducible apply xv_lst
  | with_reducible apply x_lstO
  | with_reducible apply xv_if
  | with_reducible apply xv_andV
  | with_reducible apply xv_orV
  | with_reducible apply xv_notV
  | with_reducible apply xv_isN
  | with_reducible apply xv_notN
  | with_reducible apply xt_test
  | with_reducible apply xt_tru
  | with_reducible apply xt_not
  | with_reducible apply xt_and
  | with_reducible apply xt_or
  | with_reducible apply xt_yes
  | with_reducible apply xv_call
  | with_reducible apply xv_callN
  | with_reducible apply xv_cmeth
  | with_reducible apply xv_cmethN
  | with_reducible apply xv_fld
  | with_reducible apply xv_prop
  | with_reducible apply x_setF
  | with_reducible apply xv_make
  | with_reducible apply xv_makeN
  | (with_reducible refine xv_makeL rfl ?_)
  | with_reducible apply xg_name
  | with_reducible apply xg_nil
  | with_reducible apply xg_cons
  | (with_reducible refine xg_tup rfl ?_)
  | (with_reducible refine xg_unl rfl ?_)
  | (with_reducible refine xg_sub rfl ?_)
  | (with_reducible refine xv_ixO rfl ?_)
  | ((with_reducible refine' xv_pk ?qa ?_); (case qa => (simp only [List.map, seeO, odD]; rfl)))
  | ((with_reducible refine' xt_pk ?qa ?_); (case qa => (simp only [List.map, seeO, odD]; rfl)))
  | with_reducible apply xv_bm
  | with_reducible apply xv_bm0
  | with_reducible apply xv_sl
  | with_reducible apply xo_no
  | with_reducible apply xo_some
  | with_reducible apply xv_revS
  | with_reducible apply xv_revL
  | with_reducible apply xv_fmt
  | with_reducible apply xw_any
  | with_reducible apply xw_rng1
  | with_reducible apply xw_rng2
  | with_reducible apply xv_lc
  | with_reducible apply vk_val
  | with_reducible apply bk_none
  | with_reducible apply bk_tmp
  | (with_reducible refine bk_slot rfl ?_)
  | with_reducible apply rk_val
  | with_reducible apply fk_nx
  | with_reducible apply fk_rt
  | ((with_reducible refine' e_par ?qa ?_); (case qa => (simp only [List.set]; rfl)))
  | ((with_reducible refine' e_par3 ?qa ?_); (case qa => (simp only [List.set]; rfl)))
  | ((with_reducible refine' e_ixO ?qa ?qb ?_); (case qa => exact rfl); (case qb => exact rfl))
  | ((with_reducible refine' e_sub ?qa ?qb ?qc ?_); (case qa => exact rfl); (case qb => exact rfl); (case qc => (simp only [List.set, Int.reduceToNat]; rfl)))
  | ((with_reducible refine' e_setF ?qa ?qb ?qc ?_); (case qa => exact rfl); (case qb => (simp only [List.length_cons, List.length_nil]; decide)); (case qc => (simp only [List.set, Int.reduceToNat]; rfl)))
  | ((with_reducible refine' e_fields ?qa ?qb ?_); (case qa => exact rfl); (case qb => exact rfl))
  | ((with_reducible refine' e_has ?qa ?_); (case qa => exact rfl))
  | with_reducible apply r_addI
  | with_reducible apply r_sub
  | with_reducible apply r_lt
  | with_reducible apply r_gt
  | with_reducible apply r_le
  | with_reducible apply r_ge
  | with_reducible apply r_int
  | with_reducible apply r_intB
  | with_reducible apply r_abs
  | with_reducible refine r_dec2 (fun h => ?_) (fun h => ?_)
  | with_reducible refine r_decN2 (fun h => ?_) (fun h => ?_)
  | with_reducible refine r_decM2 (fun h => ?_) (fun h => ?_)
  | with_reducible apply r_bool
  | with_reducible apply r_truB
  | with_reducible apply r_len
  | with_reducible apply r_lenS
  | with_reducible apply r_orEqS
  | with_reducible apply r_orNeS
  | with_reducible apply r_orEqI
  | with_reducible apply r_orNeI
  | with_reducible apply xv_joined
  | with_reducible apply xj_cons
  | with_reducible apply xj_nil
  | with_reducible apply r_eqI
  | with_reducible apply r_neI
  | with_reducible apply r_eqS
  | with_reducible apply r_neS
  | ((with_reducible refine' e_addD ?qa ?_); (case qa => exact rfl))
  | ((with_reducible refine' e_subD ?qa ?_); (case qa => exact rfl))
  | ((with_reducible refine' r_mul ?qa ?_); (case qa => walk_at "mul"))
  | ((with_reducible refine' r_mod ?qa ?_); (case qa => walk_at "cnd"))
  | ((with_reducible refine' r_fdiv ?qa ?qb ?_); (case qa => walk_at "cnd"); (case qb => walk_at "cnd"))
  | ((with_reducible refine' r_divmod ?qa ?qb ?_); (case qa => walk_at "cnd"); (case qb => walk_at "cnd"))
  | ((with_reducible refine' e_ltD ?qa ?_); (case qa => exact rfl))
  | ((with_reducible refine' e_leD ?qa ?_); (case qa => exact rfl))
  | ((with_reducible refine' e_gtD ?qa ?_); (case qa => exact rfl))
  | ((with_reducible refine' e_geD ?qa ?_); (case qa => exact rfl))
  | ((with_reducible refine' e_negD ?qa ?_); (case qa => exact rfl))
  | ((with_reducible refine' e_ixD ?qa ?_); (case qa => exact rfl))
  | ((with_reducible refine' e_intD ?qa ?_); (case qa => exact rfl))
  | ((with_reducible refine' e_absD ?qa ?_); (case qa => exact rfl))
  | ((with_reducible refine' e_intOf ?qa ?_); (case qa => exact rfl))
  | ((with_reducible refine' e_tupOf ?qa ?_); (case qa => exact rfl))
  | ((with_reducible refine' e_lstOf ?qa ?_); (case qa => exact rfl))
  | ((with_reducible refine' e2_boolOf ?qa ?_ ?_); (case qa => exact rfl))
  | ((with_reducible refine' e_boolOf ?qa ?_); (case qa => exact rfl))
  | ((with_reducible refine' e_truD ?qa ?_); (case qa => exact rfl))
  | ((with_reducible refine' e_itemsOf ?qa ?_); (case qa => exact rfl))
  | ((with_reducible refine' e_slD ?qa ?_); (case qa => exact rfl))
  | ((with_reducible refine' e_isiD ?qa ?_); (case qa => exact rfl))
  | ((with_reducible refine' e_boolI ?qa ?_); (case qa => exact rfl))
  | ((with_reducible refine' e_rng ?qa ?_); (case qa => exact ⟨by omega, by omega⟩))
  | with_reducible apply e_some
  | with_reducible apply e_str
  | with_reducible apply e_rev
  | ((with_reducible refine' en_val ?qa ?_); (case qa => exact rfl))
  | ((with_reducible refine' en_own ?qa ?_); (case qa => exact rfl))
  | ((with_reducible refine' en_nx ?qa ?_); (case qa => exact rfl))
  | with_reducible apply x_call
  | with_reducible refine x_ofV (fa := fC _) ?_
  | with_reducible refine x_ofV (fa := fOp _ _ _) ?_
  | with_reducible refine x_ofV (fa := fUn _ _) ?_
  | with_reducible refine x_ofV (fa := fCB _ _) ?_
  | with_reducible refine x_ofV (fa := fTup _) ?_
  | with_reducible refine x_ofV (fa := fLst _) ?_
  | with_reducible refine x_ofV (fa := fBM _ _ _ _) ?_
  | with_reducible refine x_ofV (fa := fBM0 _ _ _) ?_
  | with_reducible refine x_ofV (fa := fLc _ _ _ _ _) ?_
  | with_reducible refine x_ofV (fa := fFld _ _ _) ?_
  | with_reducible refine x_ofV (fa := fProp _ _ _) ?_
  | with_reducible refine x_ofV (fa := fMake _ _ _) ?_
  | with_reducible refine x_ofV (fa := fMakeN _ _ _ _ _ _ _) ?_
  | with_reducible refine x_ofV (fa := fSl _ _ _) ?_
  | with_reducible refine x_ofV (fa := fJoined _) ?_
  | with_reducible refine x_ofV (fa := fAndV _ _) ?_
  | with_reducible refine x_ofV (fa := fOrV _ _) ?_
  | with_reducible refine x_ofV (fa := fNotV _) ?_
  | with_reducible refine x_ofV (fa := fIf _ _ _) ?_
  | with_reducible refine x_ofV (fa := fIxO _ _) ?_
  | with_reducible refine x_ofV (fa := fCMeth _ _ _) ?_
  | with_reducible refine x_ofV (fa := fCMethN _ _ _ _ _) ?_
  | with_reducible refine x_ofV (fa := fCallN _ _ _ _ _ _) ?_
  | with_reducible refine x_ofV (fa := fIsN _) ?_
  | with_reducible refine x_ofV (fa := fNotN _) ?_
  | with_reducible apply xl_nil
  | with_reducible refine xl_cons rfl ?_
  | (refine And.intro (show List.length _ ≤ 16777216 from by simp only [List.length_cons, List.length_nil]; decide) ?_)
  | (refine And.intro (show tyS _ = some _ from rfl) ?_)
  | (refine And.intro (show flat _ = true from rfl) ?_)
  | (refine And.intro (show List.length _ = _ from rfl) ?_)
  | (refine And.intro (show List.length _ < 16777216 from by simp only [List.length_cons, List.length_nil]; decide) ?_)
  | (refine And.intro (show List.map isOwn _ = List.map isOwn _ from rfl) ?_)
  | with_reducible apply tt_intro
  | with_reducible apply nt_intro
  | with_reducible apply nnf_intro
  | with_reducible apply nnt_intro
  | with_reducible apply nf_intro
  | with_reducible apply ff_intro
  | walk_at "set")
/-! ### powers and roots -/
theorem S.le {n : Nat} {a b : Int} (h0 : 0 ≤ a) (h : a ≤ b) (hb : S n b) : S n a := Nat.lt_of_le_of_lt (by omega) hb
theorem pw_step {f h e n a A B : Int} (h1 : 2 * A = 2 * (f * a) + f * (f - 1) * (e * n)) (h2 : 2 * B = 2 * (h * a) + h * (h - 1) * (e * n)) :
    2 * (A + B + f * e * (h * n)) = 2 * ((f + h) * a) + (f + h) * (f + h - 1) * (e * n) := by
  grind
def Pw (x y z f X Y Z : Int) : Prop := X = f * x ∧ Y = f * y ∧ 2 * Z = 2 * (f * z) + f * (f - 1) * (x * y)
theorem Pw.add {x y z f X Y Z h U V W : Int} (p : Pw x y z f X Y Z) (q : Pw x y z h U V W) : Pw x y z (f + h) (X + U) (Y + V) (Z + W + X * V) := by
  obtain ⟨rfl, rfl, p⟩ := p
  obtain ⟨rfl, rfl, q⟩ := q
  exact ⟨(Int.add_mul ..).symm, (Int.add_mul ..).symm, pw_step p q⟩
theorem Pw.uniq {x y z f X Y Z U V W : Int} (p : Pw x y z f X Y Z) (q : Pw x y z f U V W) : X = U ∧ Y = V ∧ Z = W := by
  obtain ⟨rfl, rfl, p⟩ := p
  obtain ⟨rfl, rfl, q⟩ := q
  exact ⟨rfl, rfl, by omega⟩
theorem half_step {l : Int} {k : Nat} (l0 : 0 ≤ l) (h : l < 2 ^ (k + 1)) : l / 2 < 2 ^ k := by
  rw [Int.pow_succ] at h
  omega
theorem f_power {x y z t A B C : Int} (t0 : 0 ≤ t) (st : S 70 t) (sx : S 100 x) (sy : S 100 y) (hA : Pw x y z t A B C) : F_l_power [.val (tr x y z), .val (.int t)] = some (.ok (.val (tr A B C)) none) := by
  refine Fp.eq (f_def rfl ?_)
  show X _ [_, _, _, _, _, _, _] _
  unfold B_l_power
  repeat' walk_at "x"
  all_goals (first | (exfalso; omega) | skip)
  rw [if_neg (show ¬ t < 0 by omega)]
  refine x_forI (fun i Γ => ∃ f h l fx fy fa hx hy ha s5 s6, Pw x y z f fx fy fa ∧ Pw x y z h hx hy ha ∧ 0 ≤ f ∧ 0 ≤ h ∧ 0 ≤ l ∧ f + h * l = t ∧ i ≤ 900 ∧ l < 2 ^ (900 - i).toNat ∧ Γ = [.val (tr x y z), .val (.int t), .val (tr hx hy ha), .val (tr fx fy fa), .val (.int l), s5, s6]) (by decide)
    ⟨0, 1, t, 0, 0, 0, x, y, z, .no, .no, ⟨by simp, by simp, by simp⟩, ⟨by simp, by simp, by simp⟩, by decide, by decide, t0, by simp, by decide, ?_, rfl⟩ ?_ ?_
  · have h : t < 2 ^ 70 := by unfold S at st; omega
    exact Int.lt_of_lt_of_le h (by decide +kernel)
  · rintro i Γ i0 i1 ⟨f, h, l, fx, fy, fa, hx, hy, ha, s5, s6, pf, ph, f0, h0, l0, e, _, hl, rfl⟩
    repeat' walk_at "x"
    · subst l
      refine ⟨_, _, rfl, ?_⟩
      show X (fRet (fVar 3)) _ _
      repeat' walk_at "x"
      rw [Int.mul_zero, Int.add_zero] at e
      subst e
      obtain ⟨rfl, rfl, rfl⟩ := pf.uniq hA
      exact ⟨rfl, rfl⟩
    all_goals
      have hh : h ≤ t := by
        have := Int.mul_le_mul_of_nonneg_left (show 1 ≤ l by omega) h0
        omega
      have hf : f ≤ t := by
        have := Int.mul_nonneg h0 l0
        omega
      have hl2 : l / 2 < 2 ^ (900 - (i + 1)).toNat := by
        rw [show (900 - i).toNat = (900 - (i + 1)).toNat + 1 by omega] at hl
        exact half_step l0 hl
      have szh : S 171 hx ∧ S 171 hy := ⟨by rw [ph.1]; exact ((S.le h0 hh st).mul sx).up (by decide), by rw [ph.2.1]; exact ((S.le h0 hh st).mul sy).up (by decide)⟩
      have szf : S 171 fx := by rw [pf.1]; exact ((S.le f0 hf st).mul sx).up (by decide)
    · refine x_callF rfl (fp_of (f_put szf szh.2 (by decide)) ?_)
      repeat' walk_at "x"
      refine x_callF rfl (fp_of (f_put szh.1 szh.2 (by decide)) ?_)
      repeat' walk_at "x"
      refine ⟨_, _, _, _, _, _, _, _, _, _, _, pf.add ph, ph.add ph, by omega, by omega, by omega, ?_, by omega, hl2, rfl⟩
      rw [← e, show l = 2 * (l / 2) + 1 by omega]
      generalize l / 2 = q
      have : (2 * q + 1) / 2 = q := by omega
      grind
    · refine x_callF rfl (fp_of (f_put szh.1 szh.2 (by decide)) ?_)
      repeat' walk_at "x"
      refine ⟨_, _, _, _, _, _, _, _, _, _, _, pf, ph.add ph, by omega, by omega, by omega, ?_, by omega, hl2, rfl⟩
      have : l = 2 * (l / 2) := by omega
      generalize l / 2 = q at *
      subst this
      grind
  · rintro Γ ⟨f, h, l, fx, fy, fa, hx, hy, ha, s5, s6, pf, ph, f0, h0, l0, e, _, hl, rfl⟩
    repeat' walk_at "x"
    have l1 : l = 0 := by
      have : l < 1 := hl
      omega
    subst l1
    rw [Int.mul_zero, Int.add_zero] at e
    subst e
    obtain ⟨rfl, rfl, rfl⟩ := pf.uniq hA
    exact ⟨rfl, rfl⟩
end Kr

set_option linter.all false
set_option maxRecDepth 100000
set_option pp.maxSteps 500
set_option maxHeartbeats 1000000
namespace Kr
open PySem PySem.Spec PyProof.Rows L2 DF TL NumText
variable [TbC]
/-! ### one step -/
local macro_rules | `(tactic| walk_at "set") => `(tactic| (refine' e_set ?qa ?_; (case qa => (simp only [wipeF, backF, List.set, List.getD_cons_succ, List.getD_cons_zero, Int.reduceToNat]; rfl))))
local macro_rules | `(tactic| walk_at "cnd") => `(tactic| first | assumption | decide | omega)
local macro_rules | `(tactic| walk_at "mul") => `(tactic| first | exact mulOk_r (by decide) (by decide) | exact mulOk_l (by decide) (by decide) | exact mulOk_l (by omega) (by omega) | exact mulOk_r (by omega) (by omega))
local macro_rules | `(tactic| walk_at "x") => `(tactic| first
  | with_reducible apply x_seq
  | with_reducible apply k_nx
  | with_reducible apply k_rt
  | with_reducible apply x_nx
  | with_reducible refine x_asgK (fa := fLstO _) ?_
  | with_reducible refine x_asgK (fa := fLcO _ _ _ _ _) ?_
  | with_reducible apply ak_own
  | with_reducible apply ak_val
  | with_reducible apply x_asg
  | with_reducible refine x_retK (fa := fLstO _) ?_
  | with_reducible apply rk_own
  | with_reducible apply x_ret
  | with_reducible apply x_ifS
  | with_reducible apply x_asgG
  | with_reducible apply x_drop
  | with_reducible apply x_par
  | with_reducible apply x_par3
  | with_reducible apply x_asg3
  | with_reducible apply x_for
  | with_reducible refine x_aug ⟨_, rfl, ?_⟩
  | with_reducible apply xv_c
  | (with_reducible refine xv_var rfl ?_)
  | (with_reducible refine x_varV rfl ?_)
  | (with_reducible refine x_varO rfl ?_)
  | with_reducible apply xv_op
  | with_reducible apply xv_un
  | with_reducible apply xv_cb
  | with_reducible apply xs_nil
  | with_reducible apply xs_cons
  | with_reducible apply xa_nil
  | with_reducible apply xa_cons
  | with_reducible apply xv_tup
  | with_reducible apply xv_lst
  | with_reducible apply x_lstO
  | with_reducible apply xv_if
  | with_reducible apply xv_andV
  | with_reducible apply xv_orV
  | with_reducible apply xv_notV
  | with_reducible apply xv_isN
  | with_reducible apply xv_notN
  | with_reducible apply xt_test
  | with_reducible apply xt_tru
  | with_reducible apply xt_not
  | with_reducible apply xt_and
  | with_reducible apply xt_or
  | with_reducible apply xt_yes
  | with_reducible apply xv_call
  | with_reducible apply xv_callN
  | with_reducible apply xv_cmeth
  | with_reducible apply xv_cmethN
  | with_reducible apply xv_fld
  | with_reducible apply xv_prop
  | with_reducible apply x_setF
  | with_reducible apply xv_make
  | with_reducible apply xv_makeN
  | (with_reducible refine xv_makeL rfl ?_)
  | with_reducible apply xg_name
  | with_reducible apply xg_nil
  | with_reducible apply xg_cons
  | (with_reducible refine xg_tup rfl ?_)
  | (with_reducible refine xg_unl rfl ?_)
  | (with_reducible refine xg_sub rfl ?_)
  | (with_reducible refine xv_ixO rfl ?_)
  | ((with_reducible refine' xv_pk ?qa ?_); (case qa => (simp only [List.map, seeO, odD]; rfl)))
  | ((with_reducible refine' xt_pk ?qa ?_); (case qa => (simp only [List.map, seeO, odD]; rfl)))
  | with_reducible apply xv_bm
  | with_reducible apply xv_bm0
  | with_reducible apply xv_sl
  | with_reducible apply xo_no
  | with_reducible apply xo_some
  | with_reducible apply xv_revS
  | with_reducible apply xv_revL
  | with_reducible apply xv_fmt
  | with_reducible apply xw_any
  | with_reducible apply xw_rng1
  | with_reducible apply xw_rng2
  | with_reducible apply xv_lc
  | with_reducible apply vk_val
  | with_reducible apply bk_none
  | with_reducible apply bk_tmp
  | (with_reducible refine bk_slot rfl ?_)
  | with_reducible apply rk_val
  | with_reducible apply fk_nx
  | with_reducible apply fk_rt
  | ((with_reducible refine' e_par ?qa ?_); (case qa => (simp only [List.set]; rfl)))
  | ((with_reducible refine' e_par3 ?qa ?_); (case qa => (simp only [List.set]; rfl)))
  | ((with_reducible refine' e_ixO ?qa ?qb ?_); (case qa => exact rfl); (case qb => exact rfl))
  | ((with_reducible refine' e_sub ?qa ?qb ?qc ?_); (case qa => exact rfl); (case qb => exact rfl); (case qc => (simp only [List.set, Int.reduceToNat]; rfl)))
  | ((with_reducible refine' e_setF ?qa ?qb ?qc ?_); (case qa => exact rfl); (case qb => (simp only [List.length_cons, List.length_nil]; decide)); (case qc => (simp only [List.set, Int.reduceToNat]; rfl)))
  | ((with_reducible refine' e_fields ?qa ?qb ?_); (case qa => exact rfl); (case qb => exact rfl))
  | ((with_reducible refine' e_has ?qa ?_); (case qa => exact rfl))
  | with_reducible apply r_addI
  | with_reducible apply r_sub
  | with_reducible apply r_lt
  | with_reducible apply r_gt
  | with_reducible apply r_le
  | with_reducible apply r_ge
  | with_reducible apply r_int
  | with_reducible apply r_intB
  | with_reducible apply r_abs
  | with_reducible refine r_dec2 (fun h => ?_) (fun h => ?_)
  | with_reducible refine r_decN2 (fun h => ?_) (fun h => ?_)
  | with_reducible refine r_decM2 (fun h => ?_) (fun h => ?_)
  | with_reducible apply r_bool
  | with_reducible apply r_truB
  | with_reducible apply r_len
  | with_reducible apply r_lenS
  | with_reducible apply r_orEqS
  | with_reducible apply r_orNeS
  | with_reducible apply r_orEqI
  | with_reducible apply r_orNeI
  | with_reducible apply xv_joined
  | with_reducible apply xj_cons
  | with_reducible apply xj_nil
  | with_reducible apply r_eqI
  | with_reducible apply r_neI
  | with_reducible apply r_eqS
  | with_reducible apply r_neS
  | ((with_reducible refine' e_addD ?qa ?_); (case qa => exact rfl))
  | ((with_reducible refine' e_subD ?qa ?_); (case qa => exact rfl))
  | ((with_reducible refine' r_mul ?qa ?_); (case qa => walk_at "mul"))
  | ((with_reducible refine' r_mod ?qa ?_); (case qa => walk_at "cnd"))
  | ((with_reducible refine' r_fdiv ?qa ?qb ?_); (case qa => walk_at "cnd"); (case qb => walk_at "cnd"))
  | ((with_reducible refine' r_divmod ?qa ?qb ?_); (case qa => walk_at "cnd"); (case qb => walk_at "cnd"))
  | ((with_reducible refine' e_ltD ?qa ?_); (case qa => exact rfl))
  | ((with_reducible refine' e_leD ?qa ?_); (case qa => exact rfl))
  | ((with_reducible refine' e_gtD ?qa ?_); (case qa => exact rfl))
  | ((with_reducible refine' e_geD ?qa ?_); (case qa => exact rfl))
  | ((with_reducible refine' e_negD ?qa ?_); (case qa => exact rfl))
  | ((with_reducible refine' e_ixD ?qa ?_); (case qa => exact rfl))
  | ((with_reducible refine' e_intD ?qa ?_); (case qa => exact rfl))
  | ((with_reducible refine' e_absD ?qa ?_); (case qa => exact rfl))
  | ((with_reducible refine' e_intOf ?qa ?_); (case qa => exact rfl))
  | ((with_reducible refine' e_tupOf ?qa ?_); (case qa => exact rfl))
  | ((with_reducible refine' e_lstOf ?qa ?_); (case qa => exact rfl))
  | ((with_reducible refine' e2_boolOf ?qa ?_ ?_); (case qa => exact rfl))
  | ((with_reducible refine' e_boolOf ?qa ?_); (case qa => exact rfl))
  | ((with_reducible refine' e_truD ?qa ?_); (case qa => exact rfl))
  | ((with_reducible refine' e_itemsOf ?qa ?_); (case qa => exact rfl))
  | ((with_reducible refine' e_slD ?qa ?_); (case qa => exact rfl))
  | ((with_reducible refine' e_isiD ?qa ?_); (case qa => exact rfl))
  | ((with_reducible refine' e_boolI ?qa ?_); (case qa => exact rfl))
  | ((with_reducible refine' e_rng ?qa ?_); (case qa => exact ⟨by omega, by omega⟩))
  | with_reducible apply e_some
  | with_reducible apply e_str
  | with_reducible apply e_rev
  | ((with_reducible refine' en_val ?qa ?_); (case qa => exact rfl))
  | ((with_reducible refine' en_own ?qa ?_); (case qa => exact rfl))
  | ((with_reducible refine' en_nx ?qa ?_); (case qa => exact rfl))
  | with_reducible apply x_call
  | with_reducible refine x_ofV (fa := fC _) ?_
  | with_reducible refine x_ofV (fa := fOp _ _ _) ?_
  | with_reducible refine x_ofV (fa := fUn _ _) ?_
  | with_reducible refine x_ofV (fa := fCB _ _) ?_
  | with_reducible refine x_ofV (fa := fTup _) ?_
  | with_reducible refine x_ofV (fa := fLst _) ?_
  | with_reducible refine x_ofV (fa := fBM _ _ _ _) ?_
  | with_reducible refine x_ofV (fa := fBM0 _ _ _) ?_
  | with_reducible refine x_ofV (fa := fLc _ _ _ _ _) ?_
  | with_reducible refine x_ofV (fa := fFld _ _ _) ?_
  | with_reducible refine x_ofV (fa := fProp _ _ _) ?_
  | with_reducible refine x_ofV (fa := fMake _ _ _) ?_
  | with_reducible refine x_ofV (fa := fMakeN _ _ _ _ _ _ _) ?_
  | with_reducible refine x_ofV (fa := fSl _ _ _) ?_
  | with_reducible refine x_ofV (fa := fJoined _) ?_
  | with_reducible refine x_ofV (fa := fAndV _ _) ?_
  | with_reducible refine x_ofV (fa := fOrV _ _) ?_
  | with_reducible refine x_ofV (fa := fNotV _) ?_
  | with_reducible refine x_ofV (fa := fIf _ _ _) ?_
  | with_reducible refine x_ofV (fa := fIxO _ _) ?_
  | with_reducible refine x_ofV (fa := fCMeth _ _ _) ?_
  | with_reducible refine x_ofV (fa := fCMethN _ _ _ _ _) ?_
  | with_reducible refine x_ofV (fa := fCallN _ _ _ _ _ _) ?_
  | with_reducible refine x_ofV (fa := fIsN _) ?_
  | with_reducible refine x_ofV (fa := fNotN _) ?_
  | with_reducible apply xl_nil
  | with_reducible refine xl_cons rfl ?_
  | (refine And.intro (show List.length _ ≤ 16777216 from by simp only [List.length_cons, List.length_nil]; decide) ?_)
  | (refine And.intro (show tyS _ = some _ from rfl) ?_)
  | (refine And.intro (show flat _ = true from rfl) ?_)
  | (refine And.intro (show List.length _ = _ from rfl) ?_)
  | (refine And.intro (show List.length _ < 16777216 from by simp only [List.length_cons, List.length_nil]; decide) ?_)
  | (refine And.intro (show List.map isOwn _ = List.map isOwn _ from rfl) ?_)
  | with_reducible apply tt_intro
  | with_reducible apply nt_intro
  | with_reducible apply nnf_intro
  | with_reducible apply nnt_intro
  | with_reducible apply nf_intro
  | with_reducible apply ff_intro
  | walk_at "set")
theorem f_check_degree {t : Int} (h : 0 < t) : F_check_degree [.val (.int t)] = some (.ok (.val .non) none) := by
  refine Fp.eq (f_def rfl ?_)
  show X _ [_] _
  unfold B_check_degree
  repeat' walk_at "x"
  refine x_callF rfl (fp_of f_is_integer ?_)
  repeat' walk_at "x"
  all_goals (first | (exfalso; omega) | exact ⟨rfl, rfl⟩)
theorem f_area_often {e n t : Int} (he : S 200 e) (hn : S 200 n) (ht : S 70 t) : F_area_often [.val (.int e), .val (.int n), .val (.int 0), .val (.int t)] = some (.ok (.val (.int (t * (t - 1) / 2 * e * n))) none) := by
  have ht1 : S 71 (t - 1) := ht.sub (j := 1) (S.up (m := 1) (by unfold S; decide) (by decide))
  have hq : S 141 (t * (t - 1) / 2) := Nat.lt_of_le_of_lt (Int.natAbs_ediv_le_natAbs _ 2) (ht.mul ht1)
  refine Fp.eq (f_def rfl ?_)
  show X _ [_, _, _, _] _
  unfold B_area_often
  repeat' walk_at "x"
  refine r_mul (ht.mulOk ht1 (by decide)) ?_
  repeat' walk_at "x"
  refine r_mul (hq.mulOk he (by decide)) ?_
  repeat' walk_at "x"
  refine r_mul ((hq.mul he).mulOk hn (by decide)) ?_
  repeat' walk_at "x"
  exact ⟨by rw [Int.mul_zero, Int.zero_add], rfl⟩
abbrev lft (X Y Z t : Int) : Int := Z - t * (t - 1) / 2 * (X / t) * (Y / t)
def rootB (X Y Z t : Int) : Bool := decide (X % t = 0 ∧ Y % t = 0 ∧ lft X Y Z t % t = 0)
def rootD (X Y Z t : Int) : D := if rootB X Y Z t = true then mv (X / t) (Y / t) (lft X Y Z t / t) else .non
theorem f_root {X Y Z t : Int} (t0 : 0 < t) (st : S 70 t) (sX : S 200 X) (sY : S 200 Y) : F_move_root [.val (mv X Y Z), .val (.int t)] = some (.ok (.val (rootD X Y Z t)) none) := by
  have sq : ∀ {i : Int}, S 200 i → S 200 (i / t) := fun h => Nat.lt_of_le_of_lt (Int.natAbs_ediv_le_natAbs _ t) h
  have lt : t.natAbs.log2 < 9000 := Nat.lt_of_le_of_lt st.log (by decide)
  refine Fp.eq (f_def rfl ?_)
  show DF.X _ [_, _, _, _, _] _
  unfold B_move_root
  repeat' walk_at "x"
  refine x_callF rfl (fp_of f_check_move ?_)
  repeat' walk_at "x"
  refine x_callF rfl (fp_of (f_check_degree t0) ?_)
  repeat' walk_at "x"
  refine x_callF rfl (fp_of f_east ?_)
  repeat' walk_at "x"
  rotate_left
  · rename_i hh
    exact ⟨by rw [show rootD X Y Z t = .non from if_neg (by unfold rootB; rw [decide_eq_true_eq]; exact fun h => hh h.1)], rfl⟩
  refine x_callF rfl (fp_of f_north ?_)
  repeat' walk_at "x"
  rotate_left
  · rename_i hh
    exact ⟨by rw [show rootD X Y Z t = .non from if_neg (by unfold rootB; rw [decide_eq_true_eq]; exact fun h => hh h.2.1)], rfl⟩
  refine x_callF rfl (fp_of f_east ?_)
  repeat' walk_at "x"
  refine x_callF rfl (fp_of f_north ?_)
  repeat' walk_at "x"
  refine x_callF rfl (fp_of f_area ?_)
  repeat' walk_at "x"
  refine x_callF rfl (fp_of (f_area_often (sq sX) (sq sY) st) ?_)
  repeat' walk_at "x"
  have h1 : X % t = 0 := by assumption
  have h2 : Y % t = 0 := by assumption
  refine ⟨fun hl => ?_, fun hl => ?_⟩
  · repeat' walk_at "x"
    have hl : lft X Y Z t % t ≠ 0 := by simpa using hl
    exact ⟨by rw [show rootD X Y Z t = .non from if_neg (by unfold rootB; rw [decide_eq_true_eq]; exact fun h => hl h.2.2)], rfl⟩
  · repeat' walk_at "x"
    have hl : lft X Y Z t % t = 0 := by simpa using hl
    refine fp_of f_init ⟨rfl, _, _, rfl, ?_⟩
    repeat' walk_at "x"
    exact ⟨by rw [show rootD X Y Z t = mv (X / t) (Y / t) (lft X Y Z t / t) from if_pos (by unfold rootB; rw [decide_eq_true_eq]; exact ⟨h1, h2, hl⟩)], rfl⟩
theorem tri {t : Int} : 2 * (t * (t - 1) / 2) = t * (t - 1) := by
  have : t * (t - 1) % 2 = 0 := by
    rcases Int.emod_two_eq t with h | h <;> simp [Int.mul_emod, Int.sub_emod, h]
  omega
/-- the root of a power -/
theorem root_pow {x y z t X Y Z : Int} (t0 : 0 < t) (p : Pw x y z t X Y Z) : rootD X Y Z t = mv x y z ∧ (1 < t → rootD X Y (Z + 1) t = .non) := by
  obtain ⟨rfl, rfl, p⟩ := p
  have ex : t * x / t = x := Int.mul_ediv_cancel_left _ (by omega)
  have ey : t * y / t = y := Int.mul_ediv_cancel_left _ (by omega)
  have ez : lft (t * x) (t * y) Z t = t * z := by
    show Z - t * (t - 1) / 2 * (t * x / t) * (t * y / t) = _
    rw [ex, ey]
    have := tri (t := t)
    generalize t * (t - 1) / 2 = c at *
    rw [← this] at p
    have : 2 * Z = 2 * (t * z + c * x * y) := by grind
    omega
  have ez' : lft (t * x) (t * y) (Z + 1) t = t * z + 1 := by
    rw [← ez]
    show Z + 1 - _ = Z - _ + 1
    omega
  constructor
  · have : rootB (t * x) (t * y) Z t = true := decide_eq_true ⟨Int.mul_emod_right .., Int.mul_emod_right .., by rw [ez]; exact Int.mul_emod_right ..⟩
    unfold rootD
    rw [if_pos this, ex, ey, ez, Int.mul_ediv_cancel_left _ (by omega)]
  · intro t1
    refine if_neg ?_
    unfold rootB
    rw [decide_eq_true_eq]
    rintro ⟨_, _, h⟩
    rw [ez', Int.add_emod, Int.mul_emod_right, Int.zero_add, Int.emod_emod, Int.emod_eq_of_lt (by decide) t1] at h
    cases h
/-- what has a root is its power -/
theorem root_of {X Y Z t : Int} (h : rootB X Y Z t = true) : Pw (X / t) (Y / t) (lft X Y Z t / t) t X Y Z := by
  obtain ⟨h1, h2, h3⟩ := of_decide_eq_true h
  have ex : t * (X / t) = X := by have := Int.mul_ediv_add_emod X t; omega
  have ey : t * (Y / t) = Y := by have := Int.mul_ediv_add_emod Y t; omega
  have ez : t * (lft X Y Z t / t) = lft X Y Z t := by have := Int.mul_ediv_add_emod (lft X Y Z t) t; omega
  refine ⟨ex.symm, ey.symm, ?_⟩
  rw [ez]
  have := tri (t := t)
  show _ = 2 * (Z - t * (t - 1) / 2 * (X / t) * (Y / t)) + _
  generalize t * (t - 1) / 2 = c at *
  generalize X / t = a at *
  generalize Y / t = b at *
  rw [← this]
  grind
theorem rootB_of {x y z t X Y Z : Int} (t0 : 0 < t) (p : Pw x y z t X Y Z) : rootB X Y Z t = true := by
  have h := (root_pow t0 p).1
  unfold rootD at h
  by_cases e : rootB X Y Z t = true
  · exact e
  · rw [if_neg e] at h
    cases h
theorem pw_mk {x y z t : Int} : Pw x y z t (t * x) (t * y) (t * z + t * (t - 1) / 2 * (x * y)) := by
  refine ⟨rfl, rfl, ?_⟩
  have := tri (t := t)
  generalize t * (t - 1) / 2 = c at *
  rw [← this]
  grind
theorem lft_bound {X Y Z t : Int} (t1 : 1 ≤ t) (t5 : t ≤ 5) (hX : -4 ≤ X / t ∧ X / t ≤ 4) (hY : -4 ≤ Y / t ∧ Y / t ≤ 4) (hZ : -50 ≤ Z ∧ Z ≤ 50) : -60 ≤ lft X Y Z t / t ∧ lft X Y Z t / t < 61 := by
  show -60 ≤ (Z - t * (t - 1) / 2 * (X / t) * (Y / t)) / t ∧ _
  show _ ∧ (Z - t * (t - 1) / 2 * (X / t) * (Y / t)) / t < 61
  rw [Int.mul_assoc]
  have hp : -16 ≤ X / t * (Y / t) ∧ X / t * (Y / t) ≤ 16 := by
    generalize X / t = a at *
    generalize Y / t = b at *
    have : a = -4 ∨ a = -3 ∨ a = -2 ∨ a = -1 ∨ a = 0 ∨ a = 1 ∨ a = 2 ∨ a = 3 ∨ a = 4 := by omega
    rcases this with rfl | rfl | rfl | rfl | rfl | rfl | rfl | rfl | rfl <;> omega
  generalize X / t * (Y / t) = p at *
  have : t = 1 ∨ t = 2 ∨ t = 3 ∨ t = 4 ∨ t = 5 := by omega
  rcases this with rfl | rfl | rfl | rfl | rfl <;> omega
end Kr

set_option linter.all false
set_option maxRecDepth 100000
set_option pp.maxSteps 500
set_option maxHeartbeats 1000000
namespace Kr
open PySem PySem.Spec PyProof.Rows L2 DF TL NumText
variable [TbC]
/-! ### one step -/
local macro_rules | `(tactic| walk_at "set") => `(tactic| (refine' e_set ?qa ?_; (case qa => (simp only [wipeF, backF, List.set, List.getD_cons_succ, List.getD_cons_zero, Int.reduceToNat]; rfl))))
local macro_rules | `(tactic| walk_at "cnd") => `(tactic| first | assumption | decide | omega)
local macro_rules | `(tactic| walk_at "mul") => `(tactic| first | exact mulOk_r (by decide) (by decide) | exact mulOk_l (by decide) (by decide) | exact mulOk_l (by omega) (by omega) | exact mulOk_r (by omega) (by omega))
local macro_rules | `(tactic| walk_at "x") => `(tactic| first
  | with_reducible apply x_seq
  | with_reducible apply k_nx
  | with_reducible apply k_rt
  | with_reducible apply x_nx
  | with_reducible refine x_asgK (fa := fLstO _) ?_
  | with_reducible refine x_asgK (fa := fLcO _ _ _ _ _) ?_
  | with_reducible apply ak_own
  | with_reducible apply ak_val
  | with_reducible apply x_asg
  | with_reducible refine x_retK (fa := fLstO _) ?_
  | with_reducible apply rk_own
  | with_reducible apply x_ret
  | with_reducible apply x_ifS
  | with_reducible apply x_asgG
  | with_reducible apply x_drop
  | with_reducible apply x_par
  | with_reducible apply x_par3
  | with_reducible apply x_asg3
  | with_reducible apply x_for
  | with_reducible refine x_aug ⟨_, rfl, ?_⟩
  | with_reducible apply xv_c
  | (with_reducible refine xv_var rfl ?_)
  | (with_reducible refine x_varV rfl ?_)
  | (with_reducible refine x_varO rfl ?_)
  | with_reducible apply xv_op
  | with_reducible apply xv_un
  | with_reducible apply xv_cb
  | with_reducible apply xs_nil
  | with_reducible apply xs_cons
  | with_reducible apply xa_nil
  | with_reducible apply xa_cons
  | with_reducible apply xv_tup
  | with_reducible apply xv_lst
  | with_reducible apply x_lstO
  | with_reducible apply xv_if
  | with_reducible apply xv_andV
  | with_reducible apply xv_orV
  | with_reducible apply xv_notV
  | with_reducible apply xv_isN
  | with_reducible apply xv_notN
  | with_reducible apply xt_test
  | with_reducible apply xt_tru
  | with_reducible apply xt_not
  | with_reducible apply xt_and
  | with_reducible apply xt_or
  | with_reducible apply xt_yes
  | with_reducible apply xv_call
  | with_reducible apply xv_callN
  | with_reducible apply xv_cmeth
  | with_reducible apply xv_cmethN
  | with_reducible apply xv_fld
  | with_reducible apply xv_prop
  | with_reducible apply x_setF
  | with_reducible apply xv_make
  | with_reducible apply xv_makeN
  | (with_reducible refine xv_makeL rfl ?_)
  | with_reducible apply xg_name
  | with_reducible apply xg_nil
  | with_reducible apply xg_cons
  | (with_reducible refine xg_tup rfl ?_)
  | (with_reducible refine xg_unl rfl ?_)
  | (with_reducible refine xg_sub rfl ?_)
  | (with_reducible refine xv_ixO rfl ?_)
  | ((with_reducible refine' xv_pk ?qa ?_); (case qa => (simp only [List.map, seeO, odD]; rfl)))
  | ((with_reducible refine' xt_pk ?qa ?_); (case qa => (simp only [List.map, seeO, odD]; rfl)))
  | with_reducible apply xv_bm
  | with_reducible apply xv_bm0
  | with_reducible apply xv_sl
  | with_reducible apply xo_no
  | with_reducible apply xo_some
  | with_reducible apply xv_revS
  | with_reducible apply xv_revL
  | with_reducible apply xv_fmt
  | with_reducible apply xw_any
  | with_reducible apply xw_rng1
  | with_reducible apply xw_rng2
  | with_reducible apply xv_lc
  | with_reducible apply vk_val
  | with_reducible apply bk_none
  | with_reducible apply bk_tmp
  | (with_reducible refine bk_slot rfl ?_)
  | with_reducible apply rk_val
  | with_reducible apply fk_nx
  | with_reducible apply fk_rt
  | ((with_reducible refine' e_par ?qa ?_); (case qa => (simp only [List.set]; rfl)))
  | ((with_reducible refine' e_par3 ?qa ?_); (case qa => (simp only [List.set]; rfl)))
  | ((with_reducible refine' e_ixO ?qa ?qb ?_); (case qa => exact rfl); (case qb => exact rfl))
  | ((with_reducible refine' e_sub ?qa ?qb ?qc ?_); (case qa => exact rfl); (case qb => exact rfl); (case qc => (simp only [List.set, Int.reduceToNat]; rfl)))
  | ((with_reducible refine' e_setF ?qa ?qb ?qc ?_); (case qa => exact rfl); (case qb => (simp only [List.length_cons, List.length_nil]; decide)); (case qc => (simp only [List.set, Int.reduceToNat]; rfl)))
  | ((with_reducible refine' e_fields ?qa ?qb ?_); (case qa => exact rfl); (case qb => exact rfl))
  | ((with_reducible refine' e_has ?qa ?_); (case qa => exact rfl))
  | with_reducible apply r_addI
  | with_reducible apply r_sub
  | with_reducible apply r_lt
  | with_reducible apply r_gt
  | with_reducible apply r_le
  | with_reducible apply r_ge
  | with_reducible apply r_int
  | with_reducible apply r_intB
  | with_reducible apply r_abs
  | with_reducible refine r_dec2 (fun h => ?_) (fun h => ?_)
  | with_reducible refine r_decN2 (fun h => ?_) (fun h => ?_)
  | with_reducible refine r_decM2 (fun h => ?_) (fun h => ?_)
  | with_reducible apply r_bool
  | with_reducible apply r_truB
  | with_reducible apply r_len
  | with_reducible apply r_lenS
  | with_reducible apply r_orEqS
  | with_reducible apply r_orNeS
  | with_reducible apply r_orEqI
  | with_reducible apply r_orNeI
  | with_reducible apply xv_joined
  | with_reducible apply xj_cons
  | with_reducible apply xj_nil
  | with_reducible apply r_eqI
  | with_reducible apply r_neI
  | with_reducible apply r_eqS
  | with_reducible apply r_neS
  | ((with_reducible refine' e_addD ?qa ?_); (case qa => exact rfl))
  | ((with_reducible refine' e_subD ?qa ?_); (case qa => exact rfl))
  | ((with_reducible refine' r_mul ?qa ?_); (case qa => walk_at "mul"))
  | ((with_reducible refine' r_mod ?qa ?_); (case qa => walk_at "cnd"))
  | ((with_reducible refine' r_fdiv ?qa ?qb ?_); (case qa => walk_at "cnd"); (case qb => walk_at "cnd"))
  | ((with_reducible refine' r_divmod ?qa ?qb ?_); (case qa => walk_at "cnd"); (case qb => walk_at "cnd"))
  | ((with_reducible refine' e_ltD ?qa ?_); (case qa => exact rfl))
  | ((with_reducible refine' e_leD ?qa ?_); (case qa => exact rfl))
  | ((with_reducible refine' e_gtD ?qa ?_); (case qa => exact rfl))
  | ((with_reducible refine' e_geD ?qa ?_); (case qa => exact rfl))
  | ((with_reducible refine' e_negD ?qa ?_); (case qa => exact rfl))
  | ((with_reducible refine' e_ixD ?qa ?_); (case qa => exact rfl))
  | ((with_reducible refine' e_intD ?qa ?_); (case qa => exact rfl))
  | ((with_reducible refine' e_absD ?qa ?_); (case qa => exact rfl))
  | ((with_reducible refine' e_intOf ?qa ?_); (case qa => exact rfl))
  | ((with_reducible refine' e_tupOf ?qa ?_); (case qa => exact rfl))
  | ((with_reducible refine' e_lstOf ?qa ?_); (case qa => exact rfl))
  | ((with_reducible refine' e2_boolOf ?qa ?_ ?_); (case qa => exact rfl))
  | ((with_reducible refine' e_boolOf ?qa ?_); (case qa => exact rfl))
  | ((with_reducible refine' e_truD ?qa ?_); (case qa => exact rfl))
  | ((with_reducible refine' e_itemsOf ?qa ?_); (case qa => exact rfl))
  | ((with_reducible refine' e_slD ?qa ?_); (case qa => exact rfl))
  | ((with_reducible refine' e_isiD ?qa ?_); (case qa => exact rfl))
  | ((with_reducible refine' e_boolI ?qa ?_); (case qa => exact rfl))
  | ((with_reducible refine' e_rng ?qa ?_); (case qa => exact ⟨by omega, by omega⟩))
  | with_reducible apply e_some
  | with_reducible apply e_str
  | with_reducible apply e_rev
  | ((with_reducible refine' en_val ?qa ?_); (case qa => exact rfl))
  | ((with_reducible refine' en_own ?qa ?_); (case qa => exact rfl))
  | ((with_reducible refine' en_nx ?qa ?_); (case qa => exact rfl))
  | with_reducible apply x_call
  | with_reducible refine x_ofV (fa := fC _) ?_
  | with_reducible refine x_ofV (fa := fOp _ _ _) ?_
  | with_reducible refine x_ofV (fa := fUn _ _) ?_
  | with_reducible refine x_ofV (fa := fCB _ _) ?_
  | with_reducible refine x_ofV (fa := fTup _) ?_
  | with_reducible refine x_ofV (fa := fLst _) ?_
  | with_reducible refine x_ofV (fa := fBM _ _ _ _) ?_
  | with_reducible refine x_ofV (fa := fBM0 _ _ _) ?_
  | with_reducible refine x_ofV (fa := fLc _ _ _ _ _) ?_
  | with_reducible refine x_ofV (fa := fFld _ _ _) ?_
  | with_reducible refine x_ofV (fa := fProp _ _ _) ?_
  | with_reducible refine x_ofV (fa := fMake _ _ _) ?_
  | with_reducible refine x_ofV (fa := fMakeN _ _ _ _ _ _ _) ?_
  | with_reducible refine x_ofV (fa := fSl _ _ _) ?_
  | with_reducible refine x_ofV (fa := fJoined _) ?_
  | with_reducible refine x_ofV (fa := fAndV _ _) ?_
  | with_reducible refine x_ofV (fa := fOrV _ _) ?_
  | with_reducible refine x_ofV (fa := fNotV _) ?_
  | with_reducible refine x_ofV (fa := fIf _ _ _) ?_
  | with_reducible refine x_ofV (fa := fIxO _ _) ?_
  | with_reducible refine x_ofV (fa := fCMeth _ _ _) ?_
  | with_reducible refine x_ofV (fa := fCMethN _ _ _ _ _) ?_
  | with_reducible refine x_ofV (fa := fCallN _ _ _ _ _ _) ?_
  | with_reducible refine x_ofV (fa := fIsN _) ?_
  | with_reducible refine x_ofV (fa := fNotN _) ?_
  | with_reducible apply xl_nil
  | with_reducible refine xl_cons rfl ?_
  | (refine And.intro (show List.length _ ≤ 16777216 from by simp only [List.length_cons, List.length_nil]; decide) ?_)
  | (refine And.intro (show tyS _ = some _ from rfl) ?_)
  | (refine And.intro (show flat _ = true from rfl) ?_)
  | (refine And.intro (show List.length _ = _ from rfl) ?_)
  | (refine And.intro (show List.length _ < 16777216 from by simp only [List.length_cons, List.length_nil]; decide) ?_)
  | (refine And.intro (show List.map isOwn _ = List.map isOwn _ from rfl) ?_)
  | with_reducible apply tt_intro
  | with_reducible apply nt_intro
  | with_reducible apply nnf_intro
  | with_reducible apply nnt_intro
  | with_reducible apply nf_intro
  | with_reducible apply ff_intro
  | walk_at "set")
theorem f_has_root {X Y Z t : Int} (t1 : 1 ≤ t) (t5 : t ≤ 5) (hX : -4 ≤ X / t ∧ X / t ≤ 4) (hY : -4 ≤ Y / t ∧ Y / t ≤ 4) (hZ : -50 ≤ Z ∧ Z ≤ 50) : F_l_has_root [.val (tr X Y Z), .val (.int t)] = some (.ok (.val (.bl (rootB X Y Z t))) none) := by
  have s10 : ∀ {i : Int}, -100 ≤ i → i ≤ 100 → S 10 i := fun h1 h2 => by show _ < 1024; omega
  have hb := lft_bound t1 t5 hX hY hZ
  refine Fp.eq (f_def rfl ?_)
  show DF.X _ [_, _, _, _, _] _
  unfold B_l_has_root
  repeat' walk_at "x"
  refine ⟨_, _, rfl, by decide, ?_⟩
  refine x_forI (fun i Γ => ∃ s2 s3, Γ = [.val (tr X Y Z), .val (.int t), s2, s3, .no] ∧ ∀ a b, -4 ≤ a → a < i → -4 ≤ b → b < 5 → a * t = X → b * t ≠ Y) (by decide) ⟨.no, .no, rfl, fun a b h1 h2 => by omega⟩ ?_ ?_
  · rintro i Γ i0 i1 ⟨s2, s3, rfl, hn⟩
    repeat' walk_at "x"
    refine ⟨_, _, rfl, by decide, ?_⟩
    refine x_forI (fun j Γ => ∃ s3, Γ = [.val (tr X Y Z), .val (.int t), .val (.int i), s3, .no] ∧ ∀ b, -4 ≤ b → b < j → i * t = X → b * t ≠ Y) (by decide) ⟨s3, rfl, fun b h1 h2 => by omega⟩ ?_ ?_
    · rintro j Γ j0 j1 ⟨s3, rfl, hm⟩
      repeat' walk_at "x"
      · have eX : i * t = X := by assumption
        have eY : j * t = Y := by assumption
        refine ⟨_, _, rfl, by decide, ?_⟩
        refine ⟨by rw [len_rng]; decide, ?_⟩
        refine x_lcI (fun q acc Γ => Γ = [.val (tr X Y Z), .val (.int t), .val (.int i), .val (.int j), .no] ∧ (∀ d ∈ acc, smI d) ∧ (acc = [] ↔ ∀ b, -60 ≤ b → b < q → ¬ Pw i j b t X Y Z)) (by decide) ⟨rfl, by simp, by simp; intro b; omega⟩ ?_ ?_
        · rintro q acc Γ q0 q1 ⟨rfl, hs, he⟩
          refine ⟨_, rfl, rfl, ?_⟩
          show DF.X _ [_, _, _, _, _] _
          repeat' walk_at "x"
          refine x_callF rfl (fp_of (f_power (by omega) ((s10 (by omega) (by omega)).up (by decide)) ((s10 (by omega) (by omega)).up (by decide)) ((s10 (by omega) (by omega)).up (by decide)) (pw_mk (x := i) (y := j) (z := q))) ?_)
          repeat' walk_at "x"
          refine r_eq3 ?_
          repeat' walk_at "x"
          · rename_i hh
            obtain ⟨h1, h2, h3⟩ := hh
            have P : Pw i j q t X Y Z := by rw [← h1, ← h2, ← h3]; exact pw_mk
            exact ⟨rfl, mem_snoc hs ⟨q, rfl, by omega⟩, (fun h => by simp at h), fun h => absurd P (h q (by omega) (by omega))⟩
          · rename_i hh
            refine ⟨rfl, hs, he.trans ⟨fun h b h1 h2 h3 => ?_, fun h b h1 h2 => h b h1 (by omega)⟩⟩
            by_cases e : b = q
            · subst e; exact hh (pw_mk.uniq h3)
            · exact h b h1 (by omega) h3
        · rintro acc Γ ⟨rfl, hs, he⟩
          repeat' walk_at "x"
          refine r_neNil hs ?_
          repeat' walk_at "x"
          refine ⟨?_, rfl⟩
          congr 2
          cases e : rootB X Y Z t
          · have : acc = [] := he.mpr fun b _ _ h3 => by rw [rootB_of (by omega) h3] at e; cases e
            simp [this]
          · have p := root_of e
            have e1 : X / t = i := by rw [← eX]; exact Int.mul_ediv_cancel _ (by omega)
            have e2 : Y / t = j := by rw [← eY]; exact Int.mul_ediv_cancel _ (by omega)
            rw [e1, e2] at p
            have : acc ≠ [] := fun h => he.mp h _ hb.1 hb.2 p
            simp [this]
      · rename_i hh
        refine ⟨_, rfl, fun b h1 h2 h3 h4 => ?_⟩
        by_cases e : b = j
        · subst e; exact hh h4
        · exact hm b h1 (by omega) h3 h4
      · rename_i hh
        exact ⟨_, rfl, fun b h1 h2 h3 => absurd h3 hh⟩
    · rintro Γ ⟨s3, rfl, hm⟩
      repeat' walk_at "x"
      refine ⟨_, _, rfl, fun a b h1 h2 h3 h4 h5 => ?_⟩
      by_cases e : a = i
      · subst e; exact hm b h3 h4 h5
      · exact hn a b h1 (by omega) h3 h4 h5
  · rintro Γ ⟨s2, s3, rfl, hn⟩
    repeat' walk_at "x"
    refine ⟨?_, rfl⟩
    cases e : rootB X Y Z t
    · rfl
    · have p := root_of e
      exact absurd (show Y / t * t = Y by rw [Int.mul_comm]; exact p.2.1.symm) (hn _ _ hX.1 (by omega) hY.1 (by omega) (by rw [Int.mul_comm]; exact p.1.symm))
end Kr

set_option linter.all false
set_option maxRecDepth 100000
set_option pp.maxSteps 500
set_option maxHeartbeats 1000000
namespace Kr
open PySem PySem.Spec PyProof.Rows L2 DF TL NumText
variable [TbC]
/-! ### one step -/
local macro_rules | `(tactic| walk_at "set") => `(tactic| (refine' e_set ?qa ?_; (case qa => (simp only [wipeF, backF, List.set, List.getD_cons_succ, List.getD_cons_zero, Int.reduceToNat]; rfl))))
local macro_rules | `(tactic| walk_at "cnd") => `(tactic| first | assumption | decide | omega)
local macro_rules | `(tactic| walk_at "mul") => `(tactic| first | exact mulOk_r (by decide) (by decide) | exact mulOk_l (by decide) (by decide) | exact mulOk_l (by omega) (by omega) | exact mulOk_r (by omega) (by omega))
local macro_rules | `(tactic| walk_at "x") => `(tactic| first
  | with_reducible apply x_seq
  | with_reducible apply k_nx
  | with_reducible apply k_rt
  | with_reducible apply x_nx
  | with_reducible refine x_asgK (fa := fLstO _) ?_
  | with_reducible refine x_asgK (fa := fLcO _ _ _ _ _) ?_
  | with_reducible apply ak_own
  | with_reducible apply ak_val
  | with_reducible apply x_asg
  | with_reducible refine x_retK (fa := fLstO _) ?_
  | with_reducible apply rk_own
  | with_reducible apply x_ret
  | with_reducible apply x_ifS
  | with_reducible apply x_asgG
  | with_reducible apply x_drop
  | with_reducible apply x_par
  | with_reducible apply x_par3
  | with_reducible apply x_asg3
  | with_reducible apply x_for
  | with_reducible refine x_aug ⟨_, rfl, ?_⟩
  | with_reducible apply xv_c
  | (with_reducible refine xv_var rfl ?_)
  | (with_reducible refine x_varV rfl ?_)
  | (with_reducible refine x_varO rfl ?_)
  | with_reducible apply xv_op
  | with_reducible apply xv_un
  | with_reducible apply xv_cb
  | with_reducible apply xs_nil
  | with_reducible apply xs_cons
  | with_reducible apply xa_nil
  | with_reducible apply xa_cons
  | with_reducible apply xv_tup
  | with_reducible apply xv_lst
  | with_reducible apply x_lstO
  | with_reducible apply xv_if
  | with_reducible apply xv_andV
  | with_reducible apply xv_orV
  | with_reducible apply xv_notV
  | with_reducible apply xv_isN
  | with_reducible apply xv_notN
  | with_reducible apply xt_test
  | with_reducible apply xt_tru
  | with_reducible apply xt_not
  | with_reducible apply xt_and
  | with_reducible apply xt_or
  | with_reducible apply xt_yes
  | with_reducible apply xv_call
  | with_reducible apply xv_callN
  | with_reducible apply xv_cmeth
  | with_reducible apply xv_cmethN
  | with_reducible apply xv_fld
  | with_reducible apply xv_prop
  | with_reducible apply x_setF
  | with_reducible apply xv_make
  | with_reducible apply xv_makeN
  | (with_reducible refine xv_makeL rfl ?_)
  | with_reducible apply xg_name
  | with_reducible apply xg_nil
  | with_reducible apply xg_cons
  | (with_reducible refine xg_tup rfl ?_)
  | (with_reducible refine xg_unl rfl ?_)
  | (with_reducible refine xg_sub rfl ?_)
  | (with_reducible refine xv_ixO rfl ?_)
  | ((with_reducible refine' xv_pk ?qa ?_); (case qa => (simp only [List.map, seeO, odD]; rfl)))
  | ((with_reducible refine' xt_pk ?qa ?_); (case qa => (simp only [List.map, seeO, odD]; rfl)))
  | with_reducible apply xv_bm
  | with_reducible apply xv_bm0
  | with_reducible apply xv_sl
  | with_reducible apply xo_no
  | with_reducible apply xo_some
  | with_reducible apply xv_revS
  | with_reducible apply xv_revL
  | with_reducible apply xv_fmt
  | with_reducible apply xw_any
  | with_reducible apply xw_rng1
  | with_reducible apply xw_rng2
  | with_reducible apply xv_lc
  | with_reducible apply vk_val
  | with_reducible apply bk_none
  | with_reducible apply bk_tmp
  | (with_reducible refine bk_slot rfl ?_)
  | with_reducible apply rk_val
  | with_reducible apply fk_nx
  | with_reducible apply fk_rt
  | ((with_reducible refine' e_par ?qa ?_); (case qa => (simp only [List.set]; rfl)))
  | ((with_reducible refine' e_par3 ?qa ?_); (case qa => (simp only [List.set]; rfl)))
  | ((with_reducible refine' e_ixO ?qa ?qb ?_); (case qa => exact rfl); (case qb => exact rfl))
  | ((with_reducible refine' e_sub ?qa ?qb ?qc ?_); (case qa => exact rfl); (case qb => exact rfl); (case qc => (simp only [List.set, Int.reduceToNat]; rfl)))
  | ((with_reducible refine' e_setF ?qa ?qb ?qc ?_); (case qa => exact rfl); (case qb => (simp only [List.length_cons, List.length_nil]; decide)); (case qc => (simp only [List.set, Int.reduceToNat]; rfl)))
  | ((with_reducible refine' e_fields ?qa ?qb ?_); (case qa => exact rfl); (case qb => exact rfl))
  | ((with_reducible refine' e_has ?qa ?_); (case qa => exact rfl))
  | with_reducible apply r_addI
  | with_reducible apply r_sub
  | with_reducible apply r_lt
  | with_reducible apply r_gt
  | with_reducible apply r_le
  | with_reducible apply r_ge
  | with_reducible apply r_int
  | with_reducible apply r_intB
  | with_reducible apply r_abs
  | with_reducible refine r_dec2 (fun h => ?_) (fun h => ?_)
  | with_reducible refine r_decN2 (fun h => ?_) (fun h => ?_)
  | with_reducible refine r_decM2 (fun h => ?_) (fun h => ?_)
  | with_reducible apply r_bool
  | with_reducible apply r_truB
  | with_reducible apply r_len
  | with_reducible apply r_lenS
  | with_reducible apply r_orEqS
  | with_reducible apply r_orNeS
  | with_reducible apply r_orEqI
  | with_reducible apply r_orNeI
  | with_reducible apply xv_joined
  | with_reducible apply xj_cons
  | with_reducible apply xj_nil
  | with_reducible apply r_eqI
  | with_reducible apply r_neI
  | with_reducible apply r_eqS
  | with_reducible apply r_neS
  | ((with_reducible refine' e_addD ?qa ?_); (case qa => exact rfl))
  | ((with_reducible refine' e_subD ?qa ?_); (case qa => exact rfl))
  | ((with_reducible refine' r_mul ?qa ?_); (case qa => walk_at "mul"))
  | ((with_reducible refine' r_mod ?qa ?_); (case qa => walk_at "cnd"))
  | ((with_reducible refine' r_fdiv ?qa ?qb ?_); (case qa => walk_at "cnd"); (case qb => walk_at "cnd"))
  | ((with_reducible refine' r_divmod ?qa ?qb ?_); (case qa => walk_at "cnd"); (case qb => walk_at "cnd"))
  | ((with_reducible refine' e_ltD ?qa ?_); (case qa => exact rfl))
  | ((with_reducible refine' e_leD ?qa ?_); (case qa => exact rfl))
  | ((with_reducible refine' e_gtD ?qa ?_); (case qa => exact rfl))
  | ((with_reducible refine' e_geD ?qa ?_); (case qa => exact rfl))
  | ((with_reducible refine' e_negD ?qa ?_); (case qa => exact rfl))
  | ((with_reducible refine' e_ixD ?qa ?_); (case qa => exact rfl))
  | ((with_reducible refine' e_intD ?qa ?_); (case qa => exact rfl))
  | ((with_reducible refine' e_absD ?qa ?_); (case qa => exact rfl))
  | ((with_reducible refine' e_intOf ?qa ?_); (case qa => exact rfl))
  | ((with_reducible refine' e_tupOf ?qa ?_); (case qa => exact rfl))
  | ((with_reducible refine' e_lstOf ?qa ?_); (case qa => exact rfl))
  | ((with_reducible refine' e2_boolOf ?qa ?_ ?_); (case qa => exact rfl))
  | ((with_reducible refine' e_boolOf ?qa ?_); (case qa => exact rfl))
  | ((with_reducible refine' e_truD ?qa ?_); (case qa => exact rfl))
  | ((with_reducible refine' e_itemsOf ?qa ?_); (case qa => exact rfl))
  | ((with_reducible refine' e_slD ?qa ?_); (case qa => exact rfl))
  | ((with_reducible refine' e_isiD ?qa ?_); (case qa => exact rfl))
  | ((with_reducible refine' e_boolI ?qa ?_); (case qa => exact rfl))
  | ((with_reducible refine' e_rng ?qa ?_); (case qa => exact ⟨by omega, by omega⟩))
  | with_reducible apply e_some
  | with_reducible apply e_str
  | with_reducible apply e_rev
  | ((with_reducible refine' en_val ?qa ?_); (case qa => exact rfl))
  | ((with_reducible refine' en_own ?qa ?_); (case qa => exact rfl))
  | ((with_reducible refine' en_nx ?qa ?_); (case qa => exact rfl))
  | with_reducible apply x_call
  | with_reducible refine x_ofV (fa := fC _) ?_
  | with_reducible refine x_ofV (fa := fOp _ _ _) ?_
  | with_reducible refine x_ofV (fa := fUn _ _) ?_
  | with_reducible refine x_ofV (fa := fCB _ _) ?_
  | with_reducible refine x_ofV (fa := fTup _) ?_
  | with_reducible refine x_ofV (fa := fLst _) ?_
  | with_reducible refine x_ofV (fa := fBM _ _ _ _) ?_
  | with_reducible refine x_ofV (fa := fBM0 _ _ _) ?_
  | with_reducible refine x_ofV (fa := fLc _ _ _ _ _) ?_
  | with_reducible refine x_ofV (fa := fFld _ _ _) ?_
  | with_reducible refine x_ofV (fa := fProp _ _ _) ?_
  | with_reducible refine x_ofV (fa := fMake _ _ _) ?_
  | with_reducible refine x_ofV (fa := fMakeN _ _ _ _ _ _ _) ?_
  | with_reducible refine x_ofV (fa := fSl _ _ _) ?_
  | with_reducible refine x_ofV (fa := fJoined _) ?_
  | with_reducible refine x_ofV (fa := fAndV _ _) ?_
  | with_reducible refine x_ofV (fa := fOrV _ _) ?_
  | with_reducible refine x_ofV (fa := fNotV _) ?_
  | with_reducible refine x_ofV (fa := fIf _ _ _) ?_
  | with_reducible refine x_ofV (fa := fIxO _ _) ?_
  | with_reducible refine x_ofV (fa := fCMeth _ _ _) ?_
  | with_reducible refine x_ofV (fa := fCMethN _ _ _ _ _) ?_
  | with_reducible refine x_ofV (fa := fCallN _ _ _ _ _ _) ?_
  | with_reducible refine x_ofV (fa := fIsN _) ?_
  | with_reducible refine x_ofV (fa := fNotN _) ?_
  | with_reducible apply xl_nil
  | with_reducible refine xl_cons rfl ?_
  | (refine And.intro (show List.length _ ≤ 16777216 from by simp only [List.length_cons, List.length_nil]; decide) ?_)
  | (refine And.intro (show tyS _ = some _ from rfl) ?_)
  | (refine And.intro (show flat _ = true from rfl) ?_)
  | (refine And.intro (show List.length _ = _ from rfl) ?_)
  | (refine And.intro (show List.length _ < 16777216 from by simp only [List.length_cons, List.length_nil]; decide) ?_)
  | (refine And.intro (show List.map isOwn _ = List.map isOwn _ from rfl) ?_)
  | with_reducible apply tt_intro
  | with_reducible apply nt_intro
  | with_reducible apply nnf_intro
  | with_reducible apply nnt_intro
  | with_reducible apply nf_intro
  | with_reducible apply ff_intro
  | walk_at "set")
theorem s100 {i : Int} (h : i.natAbs ≤ 10 ^ 27) : S 90 i := Nat.lt_of_le_of_lt h (by decide)
theorem sI {i : Int} {n : Nat} (hn : 10 ≤ n) (h1 : -1000 ≤ i) (h2 : i ≤ 1000) : S n i := S.up (m := 10) (show i.natAbs < 1024 by omega) hn
structure Rt (X Y Z t : Int) : Prop where
  hX : -4 ≤ X / t ∧ X / t ≤ 4
  hY : -4 ≤ Y / t ∧ Y / t ≤ 4
  hZ : -50 ≤ Z ∧ Z ≤ 50
  bX : -1000 ≤ X ∧ X ≤ 1000
  bY : -1000 ≤ Y ∧ Y ≤ 1000
theorem Rt.small {X Y Z t : Int} (t1 : 1 ≤ t) (t5 : t ≤ 5) (hX : -4 ≤ X ∧ X ≤ 4) (hY : -4 ≤ Y ∧ Y ≤ 4) (hZ : -4 ≤ Z ∧ Z ≤ 4) : Rt X Y Z t := by
  have : t = 1 ∨ t = 2 ∨ t = 3 ∨ t = 4 ∨ t = 5 := by omega
  rcases this with rfl | rfl | rfl | rfl | rfl <;> exact ⟨by omega, by omega, by omega, by omega, by omega⟩
theorem Rt.pow {x y z t : Int} (t1 : 1 ≤ t) (t5 : t ≤ 5) (hX : -2 ≤ x ∧ x ≤ 2) (hY : -2 ≤ y ∧ y ≤ 2) (hZ : -2 ≤ z ∧ z ≤ 2) : Rt (t * x) (t * y) (t * z + t * (t - 1) / 2 * (x * y)) t := by
  have ex : t * x / t = x := Int.mul_ediv_cancel_left _ (by omega)
  have ey : t * y / t = y := Int.mul_ediv_cancel_left _ (by omega)
  have hp : -4 ≤ x * y ∧ x * y ≤ 4 := by
    have : x = -2 ∨ x = -1 ∨ x = 0 ∨ x = 1 ∨ x = 2 := by omega
    rcases this with rfl | rfl | rfl | rfl | rfl <;> omega
  generalize x * y = p at *
  refine ⟨by rw [ex]; omega, by rw [ey]; omega, ?_, ?_, ?_⟩
  all_goals
    have : t = 1 ∨ t = 2 ∨ t = 3 ∨ t = 4 ∨ t = 5 := by omega
    rcases this with rfl | rfl | rfl | rfl | rfl <;> omega
theorem m25 {x : Int} (h1 : -9 ≤ x) (h2 : x ≤ 9) : mulOk x (10 ^ 25) = true := S.mulOk (m := 10) (n := 90) (show x.natAbs < 1024 by omega) (show _ < _ by decide) (by decide)
theorem s25 {x : Int} (h1 : -9 ≤ x) (h2 : x ≤ 9) : S 90 (x * 10 ^ 25 + 1) := s100 (by omega)
set_option hygiene false in
local macro_rules | `(tactic| walk_at "t64") => `(tactic| (
    refine x_callF rfl (p_trip h (by omega) (by decide) (by decide) fun x y z a b c hx hy hz h => ?_)
    repeat' walk_at "x"
    refine r_pow (v := 10 ^ 25) (by decide) (by decide) ?_
    refine r_mul (m25 hx.1 hx.2) ?_
    repeat' walk_at "x"
    refine r_pow (v := 10 ^ 25) (by decide) (by decide) ?_
    refine r_mul (m25 hy.1 hy.2) ?_
    repeat' walk_at "x"
    refine r_pow (v := 10 ^ 25) (by decide) (by decide) ?_
    refine r_mul (m25 hz.1 hz.2) ?_
    repeat' walk_at "x"
    refine r_pow (v := 10 ^ 20) (by decide) (by decide) ?_
    repeat' walk_at "x"
    refine x_callF rfl (p_wind h (by omega) (by decide) (by decide) fun j a b c j0 j1 h => ?_)
    repeat' walk_at "x"
    have sx := s25 hx.1 hx.2
    have sy := s25 hy.1 hy.2
    have sm : S 70 (10 ^ 20 + j) := by show (10 ^ 20 + j).natAbs < 2 ^ 70; omega
    have m0 : 1 < 10 ^ 20 + j := by omega
    generalize x * 10 ^ 25 + 1 = A at *
    generalize y * 10 ^ 25 + 1 = B at *
    generalize z * 10 ^ 25 + 1 = C at *
    generalize (10 : Int) ^ 20 + j = m at *
    have Q := pw_mk (x := A) (y := B) (z := C) (t := m)
    refine x_callF rfl (fp_of (f_power (by omega) sm (sx.up (by decide)) (sy.up (by decide)) Q) ?_)
    generalize m * A = U at *
    generalize m * B = V at *
    generalize m * C + m * (m - 1) / 2 * (A * B) = W at *
    repeat' walk_at "x"
    have sU : S 200 U := by rw [Q.1]; exact (sm.mul sx).up (by decide)
    have sV : S 200 V := by rw [Q.2.1]; exact (sm.mul sy).up (by decide)
    have f1 := f_root (X := U) (Y := V) (Z := W) (t := m) (by omega) sm sU sV
    have f2 := f_root (X := U) (Y := V) (Z := W + 1) (t := m) (by omega) sm sU sV
    have f3 := f_root (X := 0) (Y := 0) (Z := 0) (t := m) (by omega) sm (sI (by decide) (by decide) (by decide)) (sI (by decide) (by decide) (by decide))
    rw [(root_pow (by omega) Q).1] at f1
    rw [(root_pow (by omega) Q).2 m0] at f2
    rw [(root_pow (x := 0) (y := 0) (z := 0) (t := m) (by omega) ⟨by simp, by simp, by simp⟩).1] at f3
    refine x_callF rfl (fp_of f_move ?_)
    repeat' walk_at "x"
    refine x_callF rfl (fp_of f1 ?_)
    repeat' walk_at "x"
    refine x_callF rfl (fp_of f_move ?_)
    repeat' walk_at "x"
    refine r_orInsN rfl rfl f_eq ?_
    rw [E3_self]
    repeat' walk_at "x"
    refine x_callF rfl (fp_of f_move ?_)
    repeat' walk_at "x"
    refine x_callF rfl (fp_of f2 ?_)
    repeat' walk_at "x"
    refine ⟨(fun h => nomatch h), fun _ => ?_⟩
    repeat' walk_at "x"
    refine fp_of f_init ⟨rfl, _, _, rfl, ?_⟩
    repeat' walk_at "x"
    refine x_callF rfl (fp_of f3 ?_)
    repeat' walk_at "x"
    refine fp_of f_init ⟨rfl, _, _, rfl, ?_⟩
    repeat' walk_at "x"
    refine r_orIns rfl rfl f_eq ?_
    rw [E3_self]
    repeat' walk_at "x"
    exact k _ _ _ (h.up (by omega))))
theorem p_roots {n a b c : Int} {Φ : Vr → Option OD → Prop} (h : RO n a b c) (hn : n ≤ 10 ^ 13) (k : ∀ a b c, RO (n + 20) a b c → Φ (.val (.bl true)) (some (rl a b c))) : Fp F_l_roots_right [.own 1 (rl a b c)] Φ := by
  refine f_def rfl ?_
  show X _ [_, _, _, _, _, _, _, _, _, _] _
  unfold B_l_roots_right
  repeat' walk_at "x"
  refine x_callF rfl (p_wind h (by omega) (by decide) (by decide) fun w a b c w0 w1 h => ?_)
  repeat' walk_at "x"
  refine x_callF rfl (p_trip h (by omega) (by decide) (by decide) fun x y z a b c hx hy hz h => ?_)
  repeat' walk_at "x"
  refine x_callF rfl (p_trip h (by omega) (by decide) (by decide) fun x' y' z' a b c hx' hy' hz' h => ?_)
  repeat' walk_at "x"
  refine x_callF rfl (fp_of (f_power (t := 1 + w) (by omega) (sI (by decide) (by omega) (by omega)) (sI (by decide) (by omega) (by omega)) (sI (by decide) (by omega) (by omega)) pw_mk) ?_)
  repeat' walk_at "x"
  have t1 : 1 ≤ 1 + w := by omega
  have t5 : 1 + w ≤ 5 := by omega
  have R1 : Rt x y z (1 + w) := .small t1 t5 hx hy hz
  have R2 := Rt.pow t1 t5 hx' hy' hz'
  generalize 1 + w = t at *
  generalize t * x' = x2 at *
  generalize t * y' = y2 at *
  generalize t * z' + t * (t - 1) / 2 * (x' * y') = z2 at *
  refine x_callF rfl (p_one_of h (by omega) (m := 2) rfl (by decide) (by decide) fun i a b c i0 i1 h => ?_)
  have : ∃ X Y Z, ixD (.lst [tr x y z, tr x2 y2 z2]) (.int i) = some (tr X Y Z) ∧ Rt X Y Z t := by
    have : i = 0 ∨ i = 1 := by omega
    rcases this with rfl | rfl
    · exact ⟨_, _, _, rfl, R1⟩
    · exact ⟨_, _, _, rfl, R2⟩
  obtain ⟨X, Y, Z, ed, R⟩ := this
  refine ⟨_, ed, ?_⟩
  clear ed R1 R2
  repeat' walk_at "x"
  have fh := f_has_root t1 t5 R.hX R.hY R.hZ
  have fr := f_root (X := X) (Y := Y) (Z := Z) (t := t) (by omega) (sI (by decide) (by omega) (by omega)) (sI (by decide) (by have := R.bX; omega) (by have := R.bX; omega)) (sI (by decide) (by have := R.bY; omega) (by have := R.bY; omega))
  cases e : rootB X Y Z t
  · have hD : rootD X Y Z t = .non := if_neg (by rw [e]; decide)
    rw [hD] at fr
    rw [e] at fh
    refine x_callF rfl (fp_of f_move ?_)
    repeat' walk_at "x"
    refine x_callF rfl (fp_of fr ?_)
    repeat' walk_at "x"
    refine x_callF rfl (fp_of f_move ?_)
    repeat' walk_at "x"
    refine x_callF rfl (fp_of fr ?_)
    repeat' walk_at "x"
    refine x_callF rfl (fp_of fh ?_)
    repeat' walk_at "x"
    refine r_orL (r_ne (b := true) rfl rfl rfl ?_)
    repeat' walk_at "x"
    walk_at "t64"
  · have hD : rootD X Y Z t = mv (X / t) (Y / t) (lft X Y Z t / t) := if_pos e
    have P := root_of e
    rw [hD] at fr
    rw [e] at fh
    refine x_callF rfl (fp_of f_move ?_)
    repeat' walk_at "x"
    refine x_callF rfl (fp_of fr ?_)
    repeat' walk_at "x"
    refine x_callF rfl (fp_of f_move ?_)
    repeat' walk_at "x"
    refine x_callF rfl (fp_of fr ?_)
    repeat' walk_at "x"
    refine x_callF rfl (fp_of fh ?_)
    repeat' walk_at "x"
    refine r_orL (r_ne (b := true) rfl rfl rfl ?_)
    repeat' walk_at "x"
    iterate 2
      refine x_callF rfl (fp_of f_three ?_)
      repeat' walk_at "x"
      refine x_callF rfl (fp_of (f_power (by omega) (sI (by decide) (by omega) (by omega)) (sI (by decide) (by have := R.hX; omega) (by have := R.hX; omega)) (sI (by decide) (by have := R.hY; omega) (by have := R.hY; omega)) P) ?_)
      repeat' walk_at "x"
    refine r_orL (r_ne (b := true) rfl rfl (SeqAt.eqv_refl _ rfl) ?_)
    repeat' walk_at "x"
    walk_at "t64"
end Kr

set_option linter.all false
set_option maxRecDepth 100000
set_option pp.maxSteps 500
set_option maxHeartbeats 1000000
namespace Kr
open PySem PySem.Spec PyProof.Rows L2 DF TL NumText
variable [TbC]
/-! ### one step -/
local macro_rules | `(tactic| walk_at "set") => `(tactic| (refine' e_set ?qa ?_; (case qa => (simp only [wipeF, backF, List.set, List.getD_cons_succ, List.getD_cons_zero, Int.reduceToNat]; rfl))))
local macro_rules | `(tactic| walk_at "cnd") => `(tactic| first | assumption | decide | omega)
local macro_rules | `(tactic| walk_at "mul") => `(tactic| first | exact mulOk_r (by decide) (by decide) | exact mulOk_l (by decide) (by decide) | exact mulOk_l (by omega) (by omega) | exact mulOk_r (by omega) (by omega))
local macro_rules | `(tactic| walk_at "x") => `(tactic| first
  | with_reducible apply x_seq
  | with_reducible apply k_nx
  | with_reducible apply k_rt
  | with_reducible apply x_nx
  | with_reducible refine x_asgK (fa := fLstO _) ?_
  | with_reducible refine x_asgK (fa := fLcO _ _ _ _ _) ?_
  | with_reducible apply ak_own
  | with_reducible apply ak_val
  | with_reducible apply x_asg
  | with_reducible refine x_retK (fa := fLstO _) ?_
  | with_reducible apply rk_own
  | with_reducible apply x_ret
  | with_reducible apply x_ifS
  | with_reducible apply x_asgG
  | with_reducible apply x_drop
  | with_reducible apply x_par
  | with_reducible apply x_par3
  | with_reducible apply x_asg3
  | with_reducible apply x_for
  | with_reducible refine x_aug ⟨_, rfl, ?_⟩
  | with_reducible apply xv_c
  | (with_reducible refine xv_var rfl ?_)
  | (with_reducible refine x_varV rfl ?_)
  | (with_reducible refine x_varO rfl ?_)
  | with_reducible apply xv_op
  | with_reducible apply xv_un
  | with_reducible apply xv_cb
  | with_reducible apply xs_nil
  | with_reducible apply xs_cons
  | with_reducible apply xa_nil
  | with_reducible apply xa_cons
  | with_reducible apply xv_tup
  | with_reducible apply xv_lst
  | with_reducible apply x_lstO
  | with_reducible apply xv_if
  | with_reducible apply xv_andV
  | with_reducible apply xv_orV
  | with_reducible apply xv_notV
  | with_reducible apply xv_isN
  | with_reducible apply xv_notN
  | with_reducible apply xt_test
  | with_reducible apply xt_tru
  | with_reducible apply xt_not
  | with_reducible apply xt_and
  | with_reducible apply xt_or
  | with_reducible apply xt_yes
  | with_reducible apply xv_call
  | with_reducible apply xv_callN
  | with_reducible apply xv_cmeth
  | with_reducible apply xv_cmethN
  | with_reducible apply xv_fld
  | with_reducible apply xv_prop
  | with_reducible apply x_setF
  | with_reducible apply xv_make
  | with_reducible apply xv_makeN
  | (with_reducible refine xv_makeL rfl ?_)
  | with_reducible apply xg_name
  | with_reducible apply xg_nil
  | with_reducible apply xg_cons
  | (with_reducible refine xg_tup rfl ?_)
  | (with_reducible refine xg_unl rfl ?_)
  | (with_reducible refine xg_sub rfl ?_)
  | (with_reducible refine xv_ixO rfl ?_)
  | ((with_reducible refine' xv_pk ?qa ?_); (case qa => (simp only [List.map, seeO, odD]; rfl)))
  | ((with_reducible refine' xt_pk ?qa ?_); (case qa => (simp only [List.map, seeO, odD]; rfl)))
  | with_reducible apply xv_bm
  | with_reducible apply xv_bm0
  | with_reducible apply xv_sl
  | with_reducible apply xo_no
  | with_reducible apply xo_some
  | with_reducible apply xv_revS
  | with_reducible apply xv_revL
  | with_reducible apply xv_fmt
  | with_reducible apply xw_any
  | with_reducible apply xw_rng1
  | with_reducible apply xw_rng2
  | with_reducible apply xv_lc
  | with_reducible apply vk_val
  | with_reducible apply bk_none
  | with_reducible apply bk_tmp
  | (with_reducible refine bk_slot rfl ?_)
  | with_reducible apply rk_val
  | with_reducible apply fk_nx
  | with_reducible apply fk_rt
  | ((with_reducible refine' e_par ?qa ?_); (case qa => (simp only [List.set]; rfl)))
  | ((with_reducible refine' e_par3 ?qa ?_); (case qa => (simp only [List.set]; rfl)))
  | ((with_reducible refine' e_ixO ?qa ?qb ?_); (case qa => exact rfl); (case qb => exact rfl))
  | ((with_reducible refine' e_sub ?qa ?qb ?qc ?_); (case qa => exact rfl); (case qb => exact rfl); (case qc => (simp only [List.set, Int.reduceToNat]; rfl)))
  | ((with_reducible refine' e_setF ?qa ?qb ?qc ?_); (case qa => exact rfl); (case qb => (simp only [List.length_cons, List.length_nil]; decide)); (case qc => (simp only [List.set, Int.reduceToNat]; rfl)))
  | ((with_reducible refine' e_fields ?qa ?qb ?_); (case qa => exact rfl); (case qb => exact rfl))
  | ((with_reducible refine' e_has ?qa ?_); (case qa => exact rfl))
  | with_reducible apply r_addI
  | with_reducible apply r_sub
  | with_reducible apply r_lt
  | with_reducible apply r_gt
  | with_reducible apply r_le
  | with_reducible apply r_ge
  | with_reducible apply r_int
  | with_reducible apply r_intB
  | with_reducible apply r_abs
  | with_reducible refine r_dec2 (fun h => ?_) (fun h => ?_)
  | with_reducible refine r_decN2 (fun h => ?_) (fun h => ?_)
  | with_reducible refine r_decM2 (fun h => ?_) (fun h => ?_)
  | with_reducible apply r_bool
  | with_reducible apply r_truB
  | with_reducible apply r_len
  | with_reducible apply r_lenS
  | with_reducible apply r_orEqS
  | with_reducible apply r_orNeS
  | with_reducible apply r_orEqI
  | with_reducible apply r_orNeI
  | with_reducible apply xv_joined
  | with_reducible apply xj_cons
  | with_reducible apply xj_nil
  | with_reducible apply r_eqI
  | with_reducible apply r_neI
  | with_reducible apply r_eqS
  | with_reducible apply r_neS
  | ((with_reducible refine' e_addD ?qa ?_); (case qa => exact rfl))
  | ((with_reducible refine' e_subD ?qa ?_); (case qa => exact rfl))
  | ((with_reducible refine' r_mul ?qa ?_); (case qa => walk_at "mul"))
  | ((with_reducible refine' r_mod ?qa ?_); (case qa => walk_at "cnd"))
  | ((with_reducible refine' r_fdiv ?qa ?qb ?_); (case qa => walk_at "cnd"); (case qb => walk_at "cnd"))
  | ((with_reducible refine' r_divmod ?qa ?qb ?_); (case qa => walk_at "cnd"); (case qb => walk_at "cnd"))
  | ((with_reducible refine' e_ltD ?qa ?_); (case qa => exact rfl))
  | ((with_reducible refine' e_leD ?qa ?_); (case qa => exact rfl))
  | ((with_reducible refine' e_gtD ?qa ?_); (case qa => exact rfl))
  | ((with_reducible refine' e_geD ?qa ?_); (case qa => exact rfl))
  | ((with_reducible refine' e_negD ?qa ?_); (case qa => exact rfl))
  | ((with_reducible refine' e_ixD ?qa ?_); (case qa => exact rfl))
  | ((with_reducible refine' e_intD ?qa ?_); (case qa => exact rfl))
  | ((with_reducible refine' e_absD ?qa ?_); (case qa => exact rfl))
  | ((with_reducible refine' e_intOf ?qa ?_); (case qa => exact rfl))
  | ((with_reducible refine' e_tupOf ?qa ?_); (case qa => exact rfl))
  | ((with_reducible refine' e_lstOf ?qa ?_); (case qa => exact rfl))
  | ((with_reducible refine' e2_boolOf ?qa ?_ ?_); (case qa => exact rfl))
  | ((with_reducible refine' e_boolOf ?qa ?_); (case qa => exact rfl))
  | ((with_reducible refine' e_truD ?qa ?_); (case qa => exact rfl))
  | ((with_reducible refine' e_itemsOf ?qa ?_); (case qa => exact rfl))
  | ((with_reducible refine' e_slD ?qa ?_); (case qa => exact rfl))
  | ((with_reducible refine' e_isiD ?qa ?_); (case qa => exact rfl))
  | ((with_reducible refine' e_boolI ?qa ?_); (case qa => exact rfl))
  | ((with_reducible refine' e_rng ?qa ?_); (case qa => exact ⟨by omega, by omega⟩))
  | with_reducible apply e_some
  | with_reducible apply e_str
  | with_reducible apply e_rev
  | ((with_reducible refine' en_val ?qa ?_); (case qa => exact rfl))
  | ((with_reducible refine' en_own ?qa ?_); (case qa => exact rfl))
  | ((with_reducible refine' en_nx ?qa ?_); (case qa => exact rfl))
  | with_reducible apply x_call
  | with_reducible refine x_ofV (fa := fC _) ?_
  | with_reducible refine x_ofV (fa := fOp _ _ _) ?_
  | with_reducible refine x_ofV (fa := fUn _ _) ?_
  | with_reducible refine x_ofV (fa := fCB _ _) ?_
  | with_reducible refine x_ofV (fa := fTup _) ?_
  | with_reducible refine x_ofV (fa := fLst _) ?_
  | with_reducible refine x_ofV (fa := fBM _ _ _ _) ?_
  | with_reducible refine x_ofV (fa := fBM0 _ _ _) ?_
  | with_reducible refine x_ofV (fa := fLc _ _ _ _ _) ?_
  | with_reducible refine x_ofV (fa := fFld _ _ _) ?_
  | with_reducible refine x_ofV (fa := fProp _ _ _) ?_
  | with_reducible refine x_ofV (fa := fMake _ _ _) ?_
  | with_reducible refine x_ofV (fa := fMakeN _ _ _ _ _ _ _) ?_
  | with_reducible refine x_ofV (fa := fSl _ _ _) ?_
  | with_reducible refine x_ofV (fa := fJoined _) ?_
  | with_reducible refine x_ofV (fa := fAndV _ _) ?_
  | with_reducible refine x_ofV (fa := fOrV _ _) ?_
  | with_reducible refine x_ofV (fa := fNotV _) ?_
  | with_reducible refine x_ofV (fa := fIf _ _ _) ?_
  | with_reducible refine x_ofV (fa := fIxO _ _) ?_
  | with_reducible refine x_ofV (fa := fCMeth _ _ _) ?_
  | with_reducible refine x_ofV (fa := fCMethN _ _ _ _ _) ?_
  | with_reducible refine x_ofV (fa := fCallN _ _ _ _ _ _) ?_
  | with_reducible refine x_ofV (fa := fIsN _) ?_
  | with_reducible refine x_ofV (fa := fNotN _) ?_
  | with_reducible apply xl_nil
  | with_reducible refine xl_cons rfl ?_
  | (refine And.intro (show List.length _ ≤ 16777216 from by simp only [List.length_cons, List.length_nil]; decide) ?_)
  | (refine And.intro (show tyS _ = some _ from rfl) ?_)
  | (refine And.intro (show flat _ = true from rfl) ?_)
  | (refine And.intro (show List.length _ = _ from rfl) ?_)
  | (refine And.intro (show List.length _ < 16777216 from by simp only [List.length_cons, List.length_nil]; decide) ?_)
  | (refine And.intro (show List.map isOwn _ = List.map isOwn _ from rfl) ?_)
  | with_reducible apply tt_intro
  | with_reducible apply nt_intro
  | with_reducible apply nnf_intro
  | with_reducible apply nnt_intro
  | with_reducible apply nf_intro
  | with_reducible apply ff_intro
  | walk_at "set")
theorem m20 {x : Int} (h1 : -5 ≤ x) (h2 : x ≤ 5) : mulOk x (10 ^ 20) = true := S.mulOk (m := 10) (n := 70) (show x.natAbs < 1024 by omega) (show _ < _ by decide) (by decide)
theorem s20 {x : Int} (h1 : -5 ≤ x) (h2 : x ≤ 5) : S 72 (x * 10 ^ 20 + 7) := by show (x * 10 ^ 20 + 7).natAbs < 2 ^ 72; omega
theorem side_ne {a b s : Int} (hs : 1 < s) : ((Int.gcd (a * s) (b * s + 2 * s) : Nat) : Int) ∣ 1 → False := by
  rw [← Int.add_mul]
  exact gcd_side hs
set_option hygiene false in
local macro_rules | `(tactic| walk_at "t64b") => `(tactic| (
    refine x_callF rfl (fp_of (f_alike_right (x := x) (y := y) (z := z) (u := x) (v := y) (w := zz) (due := true) (sI (by decide) (by omega) (by omega)) (sI (by decide) (by omega) (by omega)) (sI (by decide) (by omega) (by omega)) (sI (by decide) (by omega) (by omega)) (sI (by decide) (by omega) (by omega)) (hZ.up (by decide)) ⟨fun _ => ⟨rfl, rfl, hG⟩, fun _ => rfl⟩) ?_)
    repeat' walk_at "x"
    refine x_callF rfl (p_roots h (by omega) fun a b c h => ?_)
    repeat' walk_at "x"
    exact ⟨_, _, _, _, _, _, _, _, _, h.up (by omega), rfl, by omega, rfl⟩))
theorem p_right {a b c : Int} {Φ : Vr → Option OD → Prop} (h : RO 1 a b c) (k : ∀ a b c, Φ (.val (.bl true)) (some (rl a b c))) : Fp F_l_right [.own 1 (rl a b c)] Φ := by
  refine f_def rfl ?_
  show X _ [_, _, _, _, _, _, _, _, _] _
  unfold B_l_right
  repeat' walk_at "x"
  refine x_forI (fun i Γ => ∃ n a b c s1 s4 s5 s6 s7, RO n a b c ∧ n = 1 + 50 * i ∧ i ≤ 3 ∧ Γ = [.own 1 (rl a b c), s1, .no, .no, s4, s5, s6, s7, .no]) (by decide) ⟨_, _, _, _, .no, .no, .no, .no, .no, h, by decide, by decide, rfl⟩ ?_ ?_
  · rintro i Γ i0 i1 ⟨n, a, b, c, s1, s4, s5, s6, s7, h, hn, _, rfl⟩
    repeat' walk_at "x"
    refine x_callF rfl (p_trip h (by omega) (by decide) (by decide) fun x y z a b c hx hy hz h => ?_)
    repeat' walk_at "x"
    refine x_callF rfl (p_trip h (by omega) (by decide) (by decide) fun u v w a b c hu hv hw h => ?_)
    repeat' walk_at "x"
    refine x_callF rfl (fp_of (f_between (k := 10) (sI (by decide) (by omega) (by omega)) (sI (by decide) (by omega) (by omega)) (sI (by decide) (by omega) (by omega)) (sI (by decide) (by omega) (by omega)) (by decide)) ?_)
    repeat' walk_at "x"
    refine x_callF rfl (p_wind h (by omega) (by decide) (by decide) fun j a b c j0 j1 h => ?_)
    repeat' walk_at "x"
    refine x_callF rfl (p_trip h (by omega) (by decide) (by decide) fun p q r a b c hp hq hr h => ?_)
    repeat' walk_at "x"
    have hZ : S 20 (z + u * y - v * x) := by
      have h1 : S 10 z := sI (by decide) (by omega) (by omega)
      have h2 : S 10 u := sI (by decide) (by omega) (by omega)
      have h3 : S 10 y := sI (by decide) (by omega) (by omega)
      have h4 : S 10 v := sI (by decide) (by omega) (by omega)
      have h5 : S 10 x := sI (by decide) (by omega) (by omega)
      have hp : ∀ {a b : Int}, -4 ≤ a → a ≤ 4 → -4 ≤ b → b ≤ 4 → -16 ≤ a * b ∧ a * b ≤ 16 := by
        intro a b h1 h2 h3 h4
        have : a = -4 ∨ a = -3 ∨ a = -2 ∨ a = -1 ∨ a = 0 ∨ a = 1 ∨ a = 2 ∨ a = 3 ∨ a = 4 := by omega
        rcases this with rfl | rfl | rfl | rfl | rfl | rfl | rfl | rfl | rfl <;> omega
      have e1 := hp (a := u) (b := y) (by omega) (by omega) (by omega) (by omega)
      have e2 := hp (a := v) (b := x) (by omega) (by omega) (by omega) (by omega)
      exact sI (by decide) (by omega) (by omega)
    have hG : ((Int.gcd x y : Nat) : Int) ∣ z + u * y - v * x - z := gcd_lin (x := u) (y := v) (by omega)
    generalize z + u * y - v * x = zz at *
    refine x_callF rfl (p_one_of h (by omega) (m := 4) rfl (by decide) (by decide) fun o a b c o0 o1 h => ?_)
    have : ∃ X Y Z, ixD (.lst [tr x y zz, tr x y (j - 4), tr p q r, tr x y z]) (.int o) = some (tr X Y Z) ∧ (-4 ≤ X ∧ X ≤ 4) ∧ (-4 ≤ Y ∧ Y ≤ 4) ∧ S 20 Z := by
      have : o = 0 ∨ o = 1 ∨ o = 2 ∨ o = 3 := by omega
      rcases this with rfl | rfl | rfl | rfl
      · exact ⟨_, _, _, rfl, hx, hy, hZ⟩
      · exact ⟨_, _, _, rfl, hx, hy, sI (by decide) (by omega) (by omega)⟩
      · exact ⟨_, _, _, rfl, hp, hq, sI (by decide) (by omega) (by omega)⟩
      · exact ⟨_, _, _, rfl, hx, hy, sI (by decide) (by omega) (by omega)⟩
    obtain ⟨X, Y, Z, ed, hX, hY, sZ⟩ := this
    refine ⟨_, ed, ?_⟩
    clear ed
    repeat' walk_at "x"
    · have hd : -9 < Z - z ∧ Z - z < 9 := by
        rename_i hh
        split at hh <;> omega
      have hdue : decide (x = X ∧ y = Y ∧ ((Int.gcd x y : Nat) : Int) ∣ Z - z) = true ↔ x = X ∧ y = Y ∧ ((Int.gcd x y : Nat) : Int) ∣ Z - z := decide_eq_true_iff
      refine x_callF rfl (fp_of (f_are_alike hx hy hd hdue) ?_)
      repeat' walk_at "x"
      refine x_callF rfl (fp_of (f_alike_right (sI (by decide) (by omega) (by omega)) (sI (by decide) (by omega) (by omega)) (sI (by decide) (by omega) (by omega)) (sI (by decide) (by omega) (by omega)) (sI (by decide) (by omega) (by omega)) (sZ.up (by decide)) hdue) ?_)
      repeat' walk_at "x"
      walk_at "t64b"
    · walk_at "t64b"
  · rintro Γ ⟨n, a, b, c, s1, s4, s5, s6, s7, h, hn, _, rfl⟩
    repeat' walk_at "x"
    refine x_callF rfl (p_trip h (by omega) (by decide) (by decide) fun x y z a b c hx hy hz h => ?_)
    repeat' walk_at "x"
    refine r_pow (v := 10 ^ 25) (by decide) (by decide) ?_
    repeat' walk_at "x"
    refine x_callF rfl (p_wind h (by omega) (by decide) (by decide) fun j a b c j0 j1 h => ?_)
    repeat' walk_at "x"
    have sd1 : 1 < (10 : Int) ^ 25 * (1 + j) := by omega
    have sS : S 87 ((10 : Int) ^ 25 * (1 + j)) := by show ((10 : Int) ^ 25 * (1 + j)).natAbs < 2 ^ 87; omega
    generalize (10 : Int) ^ 25 * (1 + j) = sd at *
    have sx : S 99 (x * sd) := (S.mul (m := 10) (sI (by decide) (by omega) (by omega)) sS).up (by decide)
    have sy : S 99 (y * sd + 2 * sd) := ((S.mul (m := 10) (sI (by decide) (by omega) (by omega)) sS).add ((S.mul (m := 10) (sI (by decide) (by omega) (by omega)) sS))).up (by decide)
    have hne := side_ne (a := x) (b := y) sd1
    generalize x * sd = gx at *
    generalize y * sd + 2 * sd = gy at *
    refine x_callF rfl (p_trip h (by omega) (by decide) (by decide) fun u v w a b c hu hv hw h => ?_)
    repeat' walk_at "x"
    refine r_pow (v := 10 ^ 20) (by decide) (by decide) ?_
    refine r_mul (m20 hu.1 hu.2) ?_
    repeat' walk_at "x"
    refine r_pow (v := 10 ^ 20) (by decide) (by decide) ?_
    refine r_mul (m20 hv.1 hv.2) ?_
    repeat' walk_at "x"
    refine r_pow (v := 10 ^ 20) (by decide) (by decide) ?_
    refine r_mul (m20 hw.1 hw.2) ?_
    repeat' walk_at "x"
    have su := s20 hu.1 hu.2
    have sv := s20 hv.1 hv.2
    generalize u * 10 ^ 20 + 7 = U at *
    generalize v * 10 ^ 20 + 7 = V at *
    refine x_callF rfl (fp_of (f_between (x := U) (y := V) (z := w * 10 ^ 20 + 7) (e := gx) (n := gy) (a := z) (k := 99) (su.up (by decide)) (sv.up (by decide)) sx sy (by decide)) ?_)
    repeat' walk_at "x"
    have sz : S 198 z := sI (by decide) (by omega) (by omega)
    have sZ : S 199 (z + U * gy - V * gx) := by
      have h1 := su.mul sy
      have h2 := sv.mul sx
      exact ((((sI (n := 171) (by decide) (by omega) (by omega) : S 171 z).add (h1.up (n := 171) (by decide))).sub (h2.up (n := 172) (by decide)))).up (by decide)
    have hG : ((Int.gcd gx gy : Nat) : Int) ∣ z + U * gy - V * gx - z := gcd_lin (x := U) (y := V) (by omega)
    generalize z + U * gy - V * gx = zz at *
    refine x_callF rfl (fp_of (f_alike_right (x := gx) (y := gy) (z := z) (u := gx) (v := gy) (w := zz) (due := true) sx sy sx sy (sz.up (by decide)) sZ ⟨fun _ => ⟨rfl, rfl, hG⟩, fun _ => rfl⟩) ?_)
    repeat' walk_at "x"
    refine x_callF rfl (fp_of (f_alike_right (x := gx) (y := gy) (z := z) (u := gx) (v := gy) (w := z + 1) (due := false) sx sy sx sy (sz.up (by decide)) (sI (by decide) (by omega) (by omega)) ⟨fun h => (nomatch h), fun h => (hne (by have := h.2.2; rwa [show z + 1 - z = 1 by omega] at this)).elim⟩) ?_)
    repeat' walk_at "x"
    exact k _ _ _
theorem hF0 : ∀ ns : List Int, ns.length ≤ 63 → F_law [.val (.scr ns)] = some (.ok (.val (.bl true)) none) := by
  intro ns hn
  refine Fp.eq (f_def rfl ?_)
  show X _ [_, _] _
  unfold B_law
  repeat' walk_at "x"
  show List.length [D.int 0, .int 1] < 16777216 ∧ X (lcL _ _ _ _ [D.int 0, .int 1] _) _ _
  repeat' walk_at "x"
  refine x_callF rfl ?_
  refine p_reel hn (by decide) (by decide) fun a b c h => ?_
  repeat' walk_at "x"
  refine x_callF rfl ?_
  refine p_right h fun a b c => ?_
  repeat' walk_at "x"
  refine x_callF rfl ?_
  refine p_reel hn (by decide) (by decide) fun a b c h => ?_
  repeat' walk_at "x"
  refine x_callF rfl ?_
  refine p_right h fun a b c => ?_
  repeat' walk_at "x"
  refine e_allD (allD_true ?_) ?_
  · intro b hb
    simp at hb
    exact hb
  repeat' walk_at "x"
  exact ⟨rfl, rfl⟩
end Kr

set_option linter.all false
set_option maxRecDepth 100000
set_option maxHeartbeats 4000000
namespace Kr
open PySem PySem.Spec PyProof.Rows L2 DF TX LamX
theorem all_mk {w : World} {K : PySem.W.Frag} {h : Heap} {mg : Str → Option Value} {fa f0 f1 f2 f3 f4 f5 f6 f7 f8 f9 f10 f11 f12 f13 f14 f15 f16 f17 f18 f19 f20 f21 f22 f23 f24 f25 f26 f27 f28 f29 f30 f31 f32 f33 f34 f35 f36 f37 f38 : Addr} (X : K.In h) (G : h.Ns mainGlobals mg) (hfa : mg "law" = some (.ref fa))
    {od0 od1 od2 od3 od4 od5 od6 od7 od8 od9 od10 od11 od12 od13 od14 od15 od16 od17 od18 od19 od20 od21 od22 od23 od24 od25 od26 od27 od28 od29 od30 od31 od32 od33 od34 od35 od36 od37 od38 an0 an1 an2 an3 an4 an5 an6 an7 an8 an9 an10 an11 an12 an13 an14 an15 an16 an17 an18 an19 an20 an21 an22 an23 an24 an25 an26 an27 an28 an29 an30 an31 an32 an33 an34 an35 an36 an37 an38 : Option Addr} {sl0 sl1 sl2 sl3 sl4 sl5 sl6 sl7 sl8 sl9 sl10 sl11 sl12 sl13 sl14 sl15 sl16 sl17 sl18 sl19 sl20 sl21 sl22 sl23 sl24 sl25 sl26 sl27 sl28 sl29 sl30 sl31 sl32 sl33 sl34 sl35 sl36 sl37 sl38 : Array (Option Value)} {oc0 oc1 oc2 oc3 oc4 oc5 oc6 oc7 oc8 oc9 oc10 oc11 oc12 oc13 oc14 oc15 oc16 oc17 oc18 oc19 oc20 oc21 oc22 oc23 oc24 oc25 oc26 oc27 oc28 oc29 oc30 oc31 oc32 oc33 oc34 oc35 oc36 oc37 oc38 kV0 kV1 kV2 kV3 kV4 kV5 kV6 kV7 kV8 kV9 kV10 kV11 kV12 kV13 kV14 kV15 kV16 kV17 kV18 kV19 kV20 kV21 kV22 kV23 kV24 kV25 kV26 kV27 kV28 kV29 kV30 kV31 kV32 kV33 kV34 kV35 kV36 kV37 kV38 dc0 dc1 dc2 dc3 dc4 dc5 dc6 dc7 dc8 dc9 dc10 dc11 dc12 dc13 dc14 dc15 dc16 dc17 dc18 dc19 dc20 dc21 dc22 dc23 dc24 dc25 dc26 dc27 dc28 dc29 dc30 dc31 dc32 dc33 dc34 dc35 dc36 dc37 dc38 pm0 pm1 pm2 pm3 pm4 pm5 pm6 pm7 pm8 pm9 pm10 pm11 pm12 pm13 pm14 pm15 pm16 pm17 pm18 pm19 pm20 pm21 pm22 pm23 pm24 pm25 pm26 pm27 pm28 pm29 pm30 pm31 pm32 pm33 pm34 pm35 pm36 pm37 pm38 cd0 cd1 cd2 cd3 cd4 cd5 cd6 cd7 cd8 cd9 cd10 cd11 cd12 cd13 cd14 cd15 cd16 cd18 cd19 cd20 cd21 cd22 cd23 cd24 cd25 cd26 cd27 cd28 cd29 cd30 cd31 cd32 cd33 cd34 cd35 cd36 cd37 cd38 ct0 ct1 ct2 ct3 ct4 ct5 ct6 ct7 ct8 ct9 ct10 ct11 ct12 ct13 ct14 ct15 ct16 ct17 ct18 ct19 ct20 ct21 ct22 ct23 ct24 ct25 ct26 ct27 ct28 ct29 ct30 ct31 ct32 ct33 ct34 ct35 ct36 ct37 ct38 : Value}
    {ca17 cp17 : Addr} {co17 : Option Addr} {cv17 : Array Value} {cs17 : Array (Option Value)}
    {C_Move : Addr}
    {pp_Move_east : Addr} {rp_Move_east : List Value}
    {pp_Move_north : Addr} {rp_Move_north : List Value}
    {pp_Move_area : Addr} {rp_Move_area : List Value}
    {nm_Move qq_Move : Str} {Ns_Move : Addr} {bs_Move : List Value} {hdd_Move : Bool} {sn_Move : List Str} {sb_Move : List Value} {ab_Move : Bool} {col_Move : Option Bool} {dd_Move : Option Addr} {k0_Move k1_Move k2_Move k3_Move k5_Move : Option Value} {nid_Move : String}
    (a0 : PySem.W.nsIn K mainGlobals "_law_wind" = some (some (.ref f0)))
    (l0 : K.lookup f0 = some ⟨oc0, od0, .func (PySem.W.fnOf "_law_wind" "_law_wind" (defArgs s_l_wind) (defBody s_l_wind) (defScope s_l_wind) .none kV0 dc0 pm0 an0 cd0 ct0), sl0⟩)
    (c0 : PySem.W.codeIn K cd0 "_law_wind" = true)
    (k0 : PySem.W.keepIn K (.ref f0) = true)
    (a1 : PySem.W.nsIn K mainGlobals "_law_trip" = some (some (.ref f1)))
    (l1 : K.lookup f1 = some ⟨oc1, od1, .func (PySem.W.fnOf "_law_trip" "_law_trip" (defArgs s_l_trip) (defBody s_l_trip) (defScope s_l_trip) .none kV1 dc1 pm1 an1 cd1 ct1), sl1⟩)
    (c1 : PySem.W.codeIn K cd1 "_law_trip" = true)
    (k1 : PySem.W.keepIn K (.ref f1) = true)
    (a2 : PySem.W.nsIn K mainGlobals "_law_put" = some (some (.ref f2)))
    (l2 : K.lookup f2 = some ⟨oc2, od2, .func (PySem.W.fnOf "_law_put" "_law_put" (defArgs s_l_put) (defBody s_l_put) (defScope s_l_put) .none kV2 dc2 pm2 an2 cd2 ct2), sl2⟩)
    (c2 : PySem.W.codeIn K cd2 "_law_put" = true)
    (k2 : PySem.W.keepIn K (.ref f2) = true)
    (a3 : PySem.W.nsIn K mainGlobals "_law_off" = some (some (.ref f3)))
    (l3 : K.lookup f3 = some ⟨oc3, od3, .func (PySem.W.fnOf "_law_off" "_law_off" (defArgs s_l_off) (defBody s_l_off) (defScope s_l_off) .none kV3 dc3 pm3 an3 cd3 ct3), sl3⟩)
    (c3 : PySem.W.codeIn K cd3 "_law_off" = true)
    (k3 : PySem.W.keepIn K (.ref f3) = true)
    (a4 : PySem.W.nsIn K mainGlobals "_law_between" = some (some (.ref f4)))
    (l4 : K.lookup f4 = some ⟨oc4, od4, .func (PySem.W.fnOf "_law_between" "_law_between" (defArgs s_l_between) (defBody s_l_between) (defScope s_l_between) .none kV4 dc4 pm4 an4 cd4 ct4), sl4⟩)
    (c4 : PySem.W.codeIn K cd4 "_law_between" = true)
    (k4 : PySem.W.keepIn K (.ref f4) = true)
    (a5 : PySem.W.nsIn K mainGlobals "_law_one_of" = some (some (.ref f5)))
    (l5 : K.lookup f5 = some ⟨oc5, od5, .func (PySem.W.fnOf "_law_one_of" "_law_one_of" (defArgs s_l_one_of) (defBody s_l_one_of) (defScope s_l_one_of) .none kV5 dc5 pm5 an5 cd5 ct5), sl5⟩)
    (c5 : PySem.W.codeIn K cd5 "_law_one_of" = true)
    (k5 : PySem.W.keepIn K (.ref f5) = true)
    (a6 : PySem.W.nsIn K mainGlobals "is_integer" = some (some (.ref f6)))
    (l6 : K.lookup f6 = some ⟨oc6, od6, .func (PySem.W.fnOf "is_integer" "is_integer" (defArgs s_is_integer) (defBody s_is_integer) (defScope s_is_integer) .none kV6 dc6 pm6 an6 cd6 ct6), sl6⟩)
    (c6 : PySem.W.codeIn K cd6 "is_integer" = true)
    (k6 : PySem.W.keepIn K (.ref f6) = true)
    (a7 : PySem.W.nsIn K mainGlobals "check_number" = some (some (.ref f7)))
    (l7 : K.lookup f7 = some ⟨oc7, od7, .func (PySem.W.fnOf "check_number" "check_number" (defArgs s_check_number) (defBody s_check_number) (defScope s_check_number) .none kV7 dc7 pm7 an7 cd7 ct7), sl7⟩)
    (c7 : PySem.W.codeIn K cd7 "check_number" = true)
    (k7 : PySem.W.keepIn K (.ref f7) = true)
    (l8 : K.lookup f8 = some ⟨oc8, od8, .func (PySem.W.fnOf "__init__" "Move.__init__" (defArgs s_Move_init) (defBody s_Move_init) (defScope s_Move_init) .none kV8 dc8 pm8 an8 cd8 ct8), sl8⟩)
    (c8 : PySem.W.codeIn K cd8 "Move.__init__" = true)
    (k8 : PySem.W.keepIn K (.ref f8) = true)
    (a9 : PySem.W.nsIn K mainGlobals "_law_move" = some (some (.ref f9)))
    (l9 : K.lookup f9 = some ⟨oc9, od9, .func (PySem.W.fnOf "_law_move" "_law_move" (defArgs s_l_move) (defBody s_l_move) (defScope s_l_move) .none kV9 dc9 pm9 an9 cd9 ct9), sl9⟩)
    (c9 : PySem.W.codeIn K cd9 "_law_move" = true)
    (k9 : PySem.W.keepIn K (.ref f9) = true)
    (a10 : PySem.W.nsIn K mainGlobals "check_move" = some (some (.ref f10)))
    (l10 : K.lookup f10 = some ⟨oc10, od10, .func (PySem.W.fnOf "check_move" "check_move" (defArgs s_check_move) (defBody s_check_move) (defScope s_check_move) .none kV10 dc10 pm10 an10 cd10 ct10), sl10⟩)
    (c10 : PySem.W.codeIn K cd10 "check_move" = true)
    (k10 : PySem.W.keepIn K (.ref f10) = true)
    (a11 : PySem.W.nsIn K mainGlobals "check_moves" = some (some (.ref f11)))
    (l11 : K.lookup f11 = some ⟨oc11, od11, .func (PySem.W.fnOf "check_moves" "check_moves" (defArgs s_check_moves) (defBody s_check_moves) (defScope s_check_moves) .none kV11 dc11 pm11 an11 cd11 ct11), sl11⟩)
    (c11 : PySem.W.codeIn K cd11 "check_moves" = true)
    (k11 : PySem.W.keepIn K (.ref f11) = true)
    (l12 : K.lookup f12 = some ⟨oc12, od12, .func (PySem.W.fnOf "east" "Move.east" (defArgs s_Move_east) (defBody s_Move_east) (defScope s_Move_east) .none kV12 dc12 pm12 an12 cd12 ct12), sl12⟩)
    (c12 : PySem.W.codeIn K cd12 "Move.east" = true)
    (k12 : PySem.W.keepIn K (.ref f12) = true)
    (l13 : K.lookup f13 = some ⟨oc13, od13, .func (PySem.W.fnOf "north" "Move.north" (defArgs s_Move_north) (defBody s_Move_north) (defScope s_Move_north) .none kV13 dc13 pm13 an13 cd13 ct13), sl13⟩)
    (c13 : PySem.W.codeIn K cd13 "Move.north" = true)
    (k13 : PySem.W.keepIn K (.ref f13) = true)
    (a14 : PySem.W.nsIn K mainGlobals "pivot_place" = some (some (.ref f14)))
    (l14 : K.lookup f14 = some ⟨oc14, od14, .func (PySem.W.fnOf "pivot_place" "pivot_place" (defArgs s_pivot_place) (defBody s_pivot_place) (defScope s_pivot_place) .none kV14 dc14 pm14 an14 cd14 ct14), sl14⟩)
    (c14 : PySem.W.codeIn K cd14 "pivot_place" = true)
    (k14 : PySem.W.keepIn K (.ref f14) = true)
    (a15 : PySem.W.nsIn K mainGlobals "less" = some (some (.ref f15)))
    (l15 : K.lookup f15 = some ⟨oc15, od15, .func (PySem.W.fnOf "less" "less" (defArgs s_less) (defBody s_less) (defScope s_less) .none kV15 dc15 pm15 an15 cd15 ct15), sl15⟩)
    (c15 : PySem.W.codeIn K cd15 "less" = true)
    (k15 : PySem.W.keepIn K (.ref f15) = true)
    (a16 : PySem.W.nsIn K mainGlobals "taken_by_lines" = some (some (.ref f16)))
    (l16 : K.lookup f16 = some ⟨oc16, od16, .func (PySem.W.fnOf "taken_by_lines" "taken_by_lines" (defArgs s_taken_by_lines) (defBody s_taken_by_lines) (defScope s_taken_by_lines) .none kV16 dc16 pm16 an16 cd16 ct16), sl16⟩)
    (c16 : PySem.W.codeIn K cd16 "taken_by_lines" = true)
    (k16 : PySem.W.keepIn K (.ref f16) = true)
    (a17 : PySem.W.nsIn K mainGlobals "swept" = some (some (.ref f17)))
    (l17 : K.lookup f17 = some ⟨oc17, od17, .func (PySem.W.fnOf "swept" "swept" (defArgs s_swept) (defBody s_swept) (defScope s_swept) .none kV17 dc17 pm17 an17 (.ref ca17) ct17), sl17⟩)
    (x1_17 : K.lookup ca17 = some ⟨.type "code", co17, .fields cv17, cs17⟩)
    (x2_17 : (cv17[11]? : Option Value) = some (.ref cp17))
    (c17 : PySem.W.codeIn K (.ref ca17) "swept" = true)
    (k17 : PySem.W.keepIn K (.ref f17) = true)
    (a18 : PySem.W.nsIn K mainGlobals "lines_of" = some (some (.ref f18)))
    (l18 : K.lookup f18 = some ⟨oc18, od18, .func (PySem.W.fnOf "lines_of" "lines_of" (defArgs s_lines_of) (defBody s_lines_of) (defScope s_lines_of) .none kV18 dc18 pm18 an18 cd18 ct18), sl18⟩)
    (c18 : PySem.W.codeIn K cd18 "lines_of" = true)
    (k18 : PySem.W.keepIn K (.ref f18) = true)
    (a19 : PySem.W.nsIn K mainGlobals "times_for" = some (some (.ref f19)))
    (l19 : K.lookup f19 = some ⟨oc19, od19, .func (PySem.W.fnOf "times_for" "times_for" (defArgs s_times_for) (defBody s_times_for) (defScope s_times_for) .none kV19 dc19 pm19 an19 cd19 ct19), sl19⟩)
    (c19 : PySem.W.codeIn K cd19 "times_for" = true)
    (k19 : PySem.W.keepIn K (.ref f19) = true)
    (l20 : K.lookup f20 = some ⟨oc20, od20, .func (PySem.W.fnOf "area" "Move.area" (defArgs s_Move_area) (defBody s_Move_area) (defScope s_Move_area) .none kV20 dc20 pm20 an20 cd20 ct20), sl20⟩)
    (c20 : PySem.W.codeIn K cd20 "Move.area" = true)
    (k20 : PySem.W.keepIn K (.ref f20) = true)
    (a21 : PySem.W.nsIn K mainGlobals "move_alike" = some (some (.ref f21)))
    (l21 : K.lookup f21 = some ⟨oc21, od21, .func (PySem.W.fnOf "move_alike" "move_alike" (defArgs s_move_alike) (defBody s_move_alike) (defScope s_move_alike) .none kV21 dc21 pm21 an21 cd21 ct21), sl21⟩)
    (c21 : PySem.W.codeIn K cd21 "move_alike" = true)
    (k21 : PySem.W.keepIn K (.ref f21) = true)
    (a22 : PySem.W.nsIn K mainGlobals "is_move_alike" = some (some (.ref f22)))
    (l22 : K.lookup f22 = some ⟨oc22, od22, .func (PySem.W.fnOf "is_move_alike" "is_move_alike" (defArgs s_is_move_alike) (defBody s_is_move_alike) (defScope s_is_move_alike) .none kV22 dc22 pm22 an22 cd22 ct22), sl22⟩)
    (c22 : PySem.W.codeIn K cd22 "is_move_alike" = true)
    (k22 : PySem.W.keepIn K (.ref f22) = true)
    (a23 : PySem.W.nsIn K mainGlobals "_law_three" = some (some (.ref f23)))
    (l23 : K.lookup f23 = some ⟨oc23, od23, .func (PySem.W.fnOf "_law_three" "_law_three" (defArgs s_l_three) (defBody s_l_three) (defScope s_l_three) .none kV23 dc23 pm23 an23 cd23 ct23), sl23⟩)
    (c23 : PySem.W.codeIn K cd23 "_law_three" = true)
    (k23 : PySem.W.keepIn K (.ref f23) = true)
    (a24 : PySem.W.nsIn K mainGlobals "cross" = some (some (.ref f24)))
    (l24 : K.lookup f24 = some ⟨oc24, od24, .func (PySem.W.fnOf "cross" "cross" (defArgs s_cross) (defBody s_cross) (defScope s_cross) .none kV24 dc24 pm24 an24 cd24 ct24), sl24⟩)
    (c24 : PySem.W.codeIn K cd24 "cross" = true)
    (k24 : PySem.W.keepIn K (.ref f24) = true)
    (a25 : PySem.W.nsIn K mainGlobals "do_moves_commute" = some (some (.ref f25)))
    (l25 : K.lookup f25 = some ⟨oc25, od25, .func (PySem.W.fnOf "do_moves_commute" "do_moves_commute" (defArgs s_do_moves_commute) (defBody s_do_moves_commute) (defScope s_do_moves_commute) .none kV25 dc25 pm25 an25 cd25 ct25), sl25⟩)
    (c25 : PySem.W.codeIn K cd25 "do_moves_commute" = true)
    (k25 : PySem.W.keepIn K (.ref f25) = true)
    (a26 : PySem.W.nsIn K mainGlobals "_law_alike_right" = some (some (.ref f26)))
    (l26 : K.lookup f26 = some ⟨oc26, od26, .func (PySem.W.fnOf "_law_alike_right" "_law_alike_right" (defArgs s_l_alike_right) (defBody s_l_alike_right) (defScope s_l_alike_right) .none kV26 dc26 pm26 an26 cd26 ct26), sl26⟩)
    (c26 : PySem.W.codeIn K cd26 "_law_alike_right" = true)
    (k26 : PySem.W.keepIn K (.ref f26) = true)
    (a27 : PySem.W.nsIn K mainGlobals "_law_are_alike" = some (some (.ref f27)))
    (l27 : K.lookup f27 = some ⟨oc27, od27, .func (PySem.W.fnOf "_law_are_alike" "_law_are_alike" (defArgs s_l_are_alike) (defBody s_l_are_alike) (defScope s_l_are_alike) .none kV27 dc27 pm27 an27 cd27 ct27), sl27⟩)
    (c27 : PySem.W.codeIn K cd27 "_law_are_alike" = true)
    (k27 : PySem.W.keepIn K (.ref f27) = true)
    (a28 : PySem.W.nsIn K mainGlobals "_law_power" = some (some (.ref f28)))
    (l28 : K.lookup f28 = some ⟨oc28, od28, .func (PySem.W.fnOf "_law_power" "_law_power" (defArgs s_l_power) (defBody s_l_power) (defScope s_l_power) .none kV28 dc28 pm28 an28 cd28 ct28), sl28⟩)
    (c28 : PySem.W.codeIn K cd28 "_law_power" = true)
    (k28 : PySem.W.keepIn K (.ref f28) = true)
    (a29 : PySem.W.nsIn K mainGlobals "check_degree" = some (some (.ref f29)))
    (l29 : K.lookup f29 = some ⟨oc29, od29, .func (PySem.W.fnOf "check_degree" "check_degree" (defArgs s_check_degree) (defBody s_check_degree) (defScope s_check_degree) .none kV29 dc29 pm29 an29 cd29 ct29), sl29⟩)
    (c29 : PySem.W.codeIn K cd29 "check_degree" = true)
    (k29 : PySem.W.keepIn K (.ref f29) = true)
    (a30 : PySem.W.nsIn K mainGlobals "area_often" = some (some (.ref f30)))
    (l30 : K.lookup f30 = some ⟨oc30, od30, .func (PySem.W.fnOf "area_often" "area_often" (defArgs s_area_often) (defBody s_area_often) (defScope s_area_often) .none kV30 dc30 pm30 an30 cd30 ct30), sl30⟩)
    (c30 : PySem.W.codeIn K cd30 "area_often" = true)
    (k30 : PySem.W.keepIn K (.ref f30) = true)
    (a31 : PySem.W.nsIn K mainGlobals "move_root" = some (some (.ref f31)))
    (l31 : K.lookup f31 = some ⟨oc31, od31, .func (PySem.W.fnOf "move_root" "move_root" (defArgs s_move_root) (defBody s_move_root) (defScope s_move_root) .none kV31 dc31 pm31 an31 cd31 ct31), sl31⟩)
    (c31 : PySem.W.codeIn K cd31 "move_root" = true)
    (k31 : PySem.W.keepIn K (.ref f31) = true)
    (a32 : PySem.W.nsIn K mainGlobals "_law_has_root" = some (some (.ref f32)))
    (l32 : K.lookup f32 = some ⟨oc32, od32, .func (PySem.W.fnOf "_law_has_root" "_law_has_root" (defArgs s_l_has_root) (defBody s_l_has_root) (defScope s_l_has_root) .none kV32 dc32 pm32 an32 cd32 ct32), sl32⟩)
    (c32 : PySem.W.codeIn K cd32 "_law_has_root" = true)
    (k32 : PySem.W.keepIn K (.ref f32) = true)
    (a33 : PySem.W.nsIn K mainGlobals "triple_of" = some (some (.ref f33)))
    (l33 : K.lookup f33 = some ⟨oc33, od33, .func (PySem.W.fnOf "triple_of" "triple_of" (defArgs s_triple_of) (defBody s_triple_of) (defScope s_triple_of) .none kV33 dc33 pm33 an33 cd33 ct33), sl33⟩)
    (c33 : PySem.W.codeIn K cd33 "triple_of" = true)
    (k33 : PySem.W.keepIn K (.ref f33) = true)
    (l34 : K.lookup f34 = some ⟨oc34, od34, .func (PySem.W.fnOf "__eq__" "Move.__eq__" (defArgs s_Move_eq) (defBody s_Move_eq) (defScope s_Move_eq) .none kV34 dc34 pm34 an34 cd34 ct34), sl34⟩)
    (c34 : PySem.W.codeIn K cd34 "Move.__eq__" = true)
    (k34 : PySem.W.keepIn K (.ref f34) = true)
    (a35 : PySem.W.nsIn K mainGlobals "_law_roots_right" = some (some (.ref f35)))
    (l35 : K.lookup f35 = some ⟨oc35, od35, .func (PySem.W.fnOf "_law_roots_right" "_law_roots_right" (defArgs s_l_roots_right) (defBody s_l_roots_right) (defScope s_l_roots_right) .none kV35 dc35 pm35 an35 cd35 ct35), sl35⟩)
    (c35 : PySem.W.codeIn K cd35 "_law_roots_right" = true)
    (k35 : PySem.W.keepIn K (.ref f35) = true)
    (a36 : PySem.W.nsIn K mainGlobals "_law_right" = some (some (.ref f36)))
    (l36 : K.lookup f36 = some ⟨oc36, od36, .func (PySem.W.fnOf "_law_right" "_law_right" (defArgs s_l_right) (defBody s_l_right) (defScope s_l_right) .none kV36 dc36 pm36 an36 cd36 ct36), sl36⟩)
    (c36 : PySem.W.codeIn K cd36 "_law_right" = true)
    (k36 : PySem.W.keepIn K (.ref f36) = true)
    (a37 : PySem.W.nsIn K mainGlobals "_law_reel" = some (some (.ref f37)))
    (l37 : K.lookup f37 = some ⟨oc37, od37, .func (PySem.W.fnOf "_law_reel" "_law_reel" (defArgs s_l_reel) (defBody s_l_reel) (defScope s_l_reel) .none kV37 dc37 pm37 an37 cd37 ct37), sl37⟩)
    (c37 : PySem.W.codeIn K cd37 "_law_reel" = true)
    (k37 : PySem.W.keepIn K (.ref f37) = true)
    (a38 : PySem.W.nsIn K mainGlobals "law" = some (some (.ref f38)))
    (l38 : K.lookup f38 = some ⟨oc38, od38, .func (PySem.W.fnOf "law" "law" (defArgs s_law) (defBody s_law) (defScope s_law) .none kV38 dc38 pm38 an38 cd38 ct38), sl38⟩)
    (c38 : PySem.W.codeIn K cd38 "law" = true)
    (k38 : PySem.W.keepIn K (.ref f38) = true)
    (aC_Move : PySem.W.nsIn K mainGlobals "Move" = some (some (.ref C_Move)))
    (pg_Move : PySem.W.plainGet K C_Move Str.empty = true)
    (hd_Move : PySem.W.hasDictIn K C_Move = true)
    (po_Move : PySem.W.plainOver K C_Move = true)
    (sa_Move : PySem.W.findIn K (.ref C_Move) "__setattr__" = some (some (.builtin "object.__setattr__")))
    (mk_Move : PySem.W.makesIn K C_Move = true)
    (kc_Move : PySem.W.keepIn K (.ref C_Move) = true)
    (ii_Move : PySem.W.findIn K (.ref C_Move) "__init__" = some (some (.ref f8)))
    (ij_Move : PySem.W.isFn K (.ref f8) = true)
    (pa_Move_east : PySem.W.findIn K (.ref C_Move) "east" = some (some (.ref pp_Move_east)))
    (pb_Move_east : PySem.W.specialIn K (.ref pp_Move_east) "__get__" = some (some (.builtin "property.__get__")))
    (pc_Move_east : PySem.W.takesIn K (.ref pp_Move_east) = some true)
    (pd_Move_east : PySem.W.recIn K pp_Move_east "property" = some (.ref f12 :: rp_Move_east))
    (pa_Move_north : PySem.W.findIn K (.ref C_Move) "north" = some (some (.ref pp_Move_north)))
    (pb_Move_north : PySem.W.specialIn K (.ref pp_Move_north) "__get__" = some (some (.builtin "property.__get__")))
    (pc_Move_north : PySem.W.takesIn K (.ref pp_Move_north) = some true)
    (pd_Move_north : PySem.W.recIn K pp_Move_north "property" = some (.ref f13 :: rp_Move_north))
    (pa_Move_area : PySem.W.findIn K (.ref C_Move) "area" = some (some (.ref pp_Move_area)))
    (pb_Move_area : PySem.W.specialIn K (.ref pp_Move_area) "__get__" = some (some (.builtin "property.__get__")))
    (pc_Move_area : PySem.W.takesIn K (.ref pp_Move_area) = some true)
    (pd_Move_area : PySem.W.recIn K pp_Move_area "property" = some (.ref f20 :: rp_Move_area))
    (ea_Move : PySem.W.findIn K (.ref C_Move) "__eq__" = some (some (.ref f34)))
    (eb_Move : PySem.W.isFn K (.ref f34) = true)
    (ec_Move : K.lookup C_Move = some (excClassObj nm_Move qq_Move C_Move Ns_Move bs_Move [.type "object"] hdd_Move sn_Move sb_Move ab_Move col_Move dd_Move k0_Move k1_Move k2_Move k3_Move k5_Move nid_Move))
    (ed_Move : PySem.W.nsOkIn K Ns_Move = true)
    (ee_Move : PySem.W.nsIn K Ns_Move "__eq__" = some (some (.ref f34)))
    (ef_Move : PySem.W.nsIn K Ns_Move "__ne__" = some none)
    (na_Move__area : PySem.W.findIn K (.ref C_Move) "_area" = some none)
    (na_Move__east : PySem.W.findIn K (.ref C_Move) "_east" = some none)
    (na_Move__north : PySem.W.findIn K (.ref C_Move) "_north" = some none)
    (ia_Move : PySem.W.findIn K (.ref C_Move) "__class__" = some (some (.builtin "object.__class__")))
    (ib_Move : PySem.W.specialIn K (.builtin "object.__class__") "__get__" = some (some (.builtin "getset_descriptor.__get__")))
    (ic_Move : PySem.W.takesIn K (.builtin "object.__class__") = some true)
    (id_Move : PySem.W.mroIn K C_Move (.type "object") = some true)
    (it_0 : PySem.W.kitOne K (.type "NoneType") (.type "int") = some false)
    (it_1 : PySem.W.kitOne K (.type "NoneType") (.type "bool") = some false)
    (it_2 : PySem.W.kitOne K (.type "NoneType") (.ref C_Move) = some false)
    (it_3 : PySem.W.kitOne K (.type "bool") (.type "int") = some true)
    (it_4 : PySem.W.kitOne K (.type "bool") (.type "bool") = some true)
    (it_5 : PySem.W.kitOne K (.type "bool") (.ref C_Move) = some false)
    (it_6 : PySem.W.kitOne K (.type "int") (.type "int") = some true)
    (it_7 : PySem.W.kitOne K (.type "int") (.type "bool") = some false)
    (it_8 : PySem.W.kitOne K (.type "int") (.ref C_Move) = some false)
    (it_9 : PySem.W.kitOne K (.type "str") (.type "int") = some false)
    (it_10 : PySem.W.kitOne K (.type "str") (.type "bool") = some false)
    (it_11 : PySem.W.kitOne K (.type "str") (.ref C_Move) = some false)
    (it_12 : PySem.W.kitOne K (.type "tuple") (.type "int") = some false)
    (it_13 : PySem.W.kitOne K (.type "tuple") (.type "bool") = some false)
    (it_14 : PySem.W.kitOne K (.type "tuple") (.ref C_Move) = some false)
    (it_15 : PySem.W.kitOne K (.type "list") (.type "int") = some false)
    (it_16 : PySem.W.kitOne K (.type "list") (.type "bool") = some false)
    (it_17 : PySem.W.kitOne K (.type "list") (.ref C_Move) = some false)
    (it_18 : PySem.W.kitOne K (.ref C_Move) (.type "int") = some false)
    (it_19 : PySem.W.kitOne K (.ref C_Move) (.type "bool") = some false)
    (it_20 : PySem.W.kitOne K (.ref C_Move) (.ref C_Move) = some true)
    (n_int : PySem.W.nsIn K mainGlobals "int" = some none)
    (n_bool : PySem.W.nsIn K mainGlobals "bool" = some none)
    (n_tuple : PySem.W.nsIn K mainGlobals "tuple" = some none)
    (n_list : PySem.W.nsIn K mainGlobals "list" = some none)
    (n_isinstance : PySem.W.nsIn K mainGlobals "isinstance" = some none)
    (n_len : PySem.W.nsIn K mainGlobals "len" = some none)
    (n_abs : PySem.W.nsIn K mainGlobals "abs" = some none)
    (n_repr : PySem.W.nsIn K mainGlobals "repr" = some none)
    (n_all : PySem.W.nsIn K mainGlobals "all" = some none)
    (n_range : PySem.W.nsIn K mainGlobals "range" = some none)
    (n_divmod : PySem.W.nsIn K mainGlobals "divmod" = some none)
    (n_zip : PySem.W.nsIn K mainGlobals "zip" = some none)
    (n_enumerate : PySem.W.nsIn K mainGlobals "enumerate" = some none)
    (n_sorted : PySem.W.nsIn K mainGlobals "sorted" = some none) : ∃ T : Tx w K mg, T.f_law = fa ∧ T.c_swept = ca17 ∧ T.P_swept = cp17 := by
  have e := hfa.symm.trans (PySem.W.mg_of X G a38)
  cases e
  have F0 := fun_mk (st := s_l_wind) l0 c0 k0
  have F1 := fun_mk (st := s_l_trip) l1 c1 k1
  have F2 := fun_mk (st := s_l_put) l2 c2 k2
  have F3 := fun_mk (st := s_l_off) l3 c3 k3
  have F4 := fun_mk (st := s_l_between) l4 c4 k4
  have F5 := fun_mk (st := s_l_one_of) l5 c5 k5
  have F6 := fun_mk (st := s_is_integer) l6 c6 k6
  have F7 := fun_mk (st := s_check_number) l7 c7 k7
  have F8 := fun_mk (st := s_Move_init) l8 c8 k8
  have F9 := fun_mk (st := s_l_move) l9 c9 k9
  have F10 := fun_mk (st := s_check_move) l10 c10 k10
  have F11 := fun_mk (st := s_check_moves) l11 c11 k11
  have F12 := fun_mk (st := s_Move_east) l12 c12 k12
  have F13 := fun_mk (st := s_Move_north) l13 c13 k13
  have F14 := fun_mk (st := s_pivot_place) l14 c14 k14
  have F15 := fun_mk (st := s_less) l15 c15 k15
  have F16 := fun_mk (st := s_taken_by_lines) l16 c16 k16
  have F17 := fun_mkC (st := s_swept) l17 c17 k17
  have F18 := fun_mk (st := s_lines_of) l18 c18 k18
  have F19 := fun_mk (st := s_times_for) l19 c19 k19
  have F20 := fun_mk (st := s_Move_area) l20 c20 k20
  have F21 := fun_mk (st := s_move_alike) l21 c21 k21
  have F22 := fun_mk (st := s_is_move_alike) l22 c22 k22
  have F23 := fun_mk (st := s_l_three) l23 c23 k23
  have F24 := fun_mk (st := s_cross) l24 c24 k24
  have F25 := fun_mk (st := s_do_moves_commute) l25 c25 k25
  have F26 := fun_mk (st := s_l_alike_right) l26 c26 k26
  have F27 := fun_mk (st := s_l_are_alike) l27 c27 k27
  have F28 := fun_mk (st := s_l_power) l28 c28 k28
  have F29 := fun_mk (st := s_check_degree) l29 c29 k29
  have F30 := fun_mk (st := s_area_often) l30 c30 k30
  have F31 := fun_mk (st := s_move_root) l31 c31 k31
  have F32 := fun_mk (st := s_l_has_root) l32 c32 k32
  have F33 := fun_mk (st := s_triple_of) l33 c33 k33
  have F34 := fun_mk (st := s_Move_eq) l34 c34 k34
  have F35 := fun_mk (st := s_l_roots_right) l35 c35 k35
  have F36 := fun_mk (st := s_l_right) l36 c36 k36
  have F37 := fun_mk (st := s_l_reel) l37 c37 k37
  have F38 := fun_mk (st := s_law) l38 c38 k38
  exact ⟨{
    f_l_wind := f0
    d_l_wind := _
    F_l_wind := F0
    b_l_wind := F0.binds (ps := ["_law_reel_here", "_law_many"]) (fun _ _ _ _ _ _ us hl => match us, hl with | [_, _], _ => rfl)
    mg_l_wind := PySem.W.mg_of X G a0
    f_l_trip := f1
    d_l_trip := _
    F_l_trip := F1
    b_l_trip := F1.binds (ps := ["_law_reel_here", "_law_size"]) (fun _ _ _ _ _ _ us hl => match us, hl with | [_, _], _ => rfl)
    mg_l_trip := PySem.W.mg_of X G a1
    f_l_put := f2
    d_l_put := _
    F_l_put := F2
    b_l_put := F2.binds (ps := ["_law_left", "_law_right_here"]) (fun _ _ _ _ _ _ us hl => match us, hl with | [_, _], _ => rfl)
    mg_l_put := PySem.W.mg_of X G a2
    f_l_off := f3
    d_l_off := _
    F_l_off := F3
    b_l_off := F3.binds (ps := ["_law_trip_here"]) (fun _ _ _ _ _ _ us hl => match us, hl with | [_], _ => rfl)
    mg_l_off := PySem.W.mg_of X G a3
    f_l_between := f4
    d_l_between := _
    F_l_between := F4
    b_l_between := F4.binds (ps := ["_law_by", "_law_trip_here"]) (fun _ _ _ _ _ _ us hl => match us, hl with | [_, _], _ => rfl)
    mg_l_between := PySem.W.mg_of X G a4
    f_l_one_of := f5
    d_l_one_of := _
    F_l_one_of := F5
    b_l_one_of := F5.binds (ps := ["_law_reel_here", "_law_menu"]) (fun _ _ _ _ _ _ us hl => match us, hl with | [_, _], _ => rfl)
    mg_l_one_of := PySem.W.mg_of X G a5
    f_is_integer := f6
    d_is_integer := _
    F_is_integer := F6
    b_is_integer := F6.binds (ps := ["value"]) (fun _ _ _ _ _ _ us hl => match us, hl with | [_], _ => rfl)
    mg_is_integer := PySem.W.mg_of X G a6
    f_check_number := f7
    d_check_number := _
    F_check_number := F7
    b_check_number := F7.binds (ps := ["value"]) (fun _ _ _ _ _ _ us hl => match us, hl with | [_], _ => rfl)
    mg_check_number := PySem.W.mg_of X G a7
    f_Move_init := f8
    d_Move_init := _
    F_Move_init := F8
    b_Move_init := F8.binds (ps := ["self", "east", "north", "area"]) (fun _ _ _ _ _ _ us hl => match us, hl with | [_, _, _, _], _ => rfl)
    f_l_move := f9
    d_l_move := _
    F_l_move := F9
    b_l_move := F9.binds (ps := ["_law_trip_here"]) (fun _ _ _ _ _ _ us hl => match us, hl with | [_], _ => rfl)
    mg_l_move := PySem.W.mg_of X G a9
    f_check_move := f10
    d_check_move := _
    F_check_move := F10
    b_check_move := F10.binds (ps := ["value"]) (fun _ _ _ _ _ _ us hl => match us, hl with | [_], _ => rfl)
    mg_check_move := PySem.W.mg_of X G a10
    f_check_moves := f11
    d_check_moves := _
    F_check_moves := F11
    b_check_moves := F11.binds (ps := ["one", "other"]) (fun _ _ _ _ _ _ us hl => match us, hl with | [_, _], _ => rfl)
    mg_check_moves := PySem.W.mg_of X G a11
    f_Move_east := f12
    d_Move_east := _
    F_Move_east := F12
    b_Move_east := F12.binds (ps := ["self"]) (fun _ _ _ _ _ _ us hl => match us, hl with | [_], _ => rfl)
    f_Move_north := f13
    d_Move_north := _
    F_Move_north := F13
    b_Move_north := F13.binds (ps := ["self"]) (fun _ _ _ _ _ _ us hl => match us, hl with | [_], _ => rfl)
    f_pivot_place := f14
    d_pivot_place := _
    F_pivot_place := F14
    b_pivot_place := F14.binds (ps := ["line"]) (fun _ _ _ _ _ _ us hl => match us, hl with | [_], _ => rfl)
    mg_pivot_place := PySem.W.mg_of X G a14
    f_less := f15
    d_less := _
    F_less := F15
    b_less := F15.binds (ps := ["line", "times", "other"]) (fun _ _ _ _ _ _ us hl => match us, hl with | [_, _, _], _ => rfl)
    mg_less := PySem.W.mg_of X G a15
    f_taken_by_lines := f16
    d_taken_by_lines := _
    F_taken_by_lines := F16
    b_taken_by_lines := F16.binds (ps := ["lines", "numbers"]) (fun _ _ _ _ _ _ us hl => match us, hl with | [_, _], _ => rfl)
    mg_taken_by_lines := PySem.W.mg_of X G a16
    c_swept := ca17
    P_swept := cp17
    f_swept := f17
    d_swept := _
    F_swept := F17
    b_swept := F17.fun.binds (ps := ["rows", "column"]) (fun _ _ _ _ _ _ us hl => match us, hl with | [_, _], _ => rfl)
    mg_swept := PySem.W.mg_of X G a17
    f_lines_of := f18
    d_lines_of := _
    F_lines_of := F18
    b_lines_of := F18.binds (ps := ["rows", "width"]) (fun _ _ _ _ _ _ us hl => match us, hl with | [_, _], _ => rfl)
    mg_lines_of := PySem.W.mg_of X G a18
    f_times_for := f19
    d_times_for := _
    F_times_for := F19
    b_times_for := F19.binds (ps := ["rows", "numbers"]) (fun _ _ _ _ _ _ us hl => match us, hl with | [_, _], _ => rfl)
    mg_times_for := PySem.W.mg_of X G a19
    f_Move_area := f20
    d_Move_area := _
    F_Move_area := F20
    b_Move_area := F20.binds (ps := ["self"]) (fun _ _ _ _ _ _ us hl => match us, hl with | [_], _ => rfl)
    f_move_alike := f21
    d_move_alike := _
    F_move_alike := F21
    b_move_alike := F21.binds (ps := ["one", "other"]) (fun _ _ _ _ _ _ us hl => match us, hl with | [_, _], _ => rfl)
    mg_move_alike := PySem.W.mg_of X G a21
    f_is_move_alike := f22
    d_is_move_alike := _
    F_is_move_alike := F22
    b_is_move_alike := F22.binds (ps := ["one", "other"]) (fun _ _ _ _ _ _ us hl => match us, hl with | [_, _], _ => rfl)
    mg_is_move_alike := PySem.W.mg_of X G a22
    f_l_three := f23
    d_l_three := _
    F_l_three := F23
    b_l_three := F23.binds (ps := ["_law_made"]) (fun _ _ _ _ _ _ us hl => match us, hl with | [_], _ => rfl)
    mg_l_three := PySem.W.mg_of X G a23
    f_cross := f24
    d_cross := _
    F_cross := F24
    b_cross := F24.binds (ps := ["one", "other"]) (fun _ _ _ _ _ _ us hl => match us, hl with | [_, _], _ => rfl)
    mg_cross := PySem.W.mg_of X G a24
    f_do_moves_commute := f25
    d_do_moves_commute := _
    F_do_moves_commute := F25
    b_do_moves_commute := F25.binds (ps := ["one", "other"]) (fun _ _ _ _ _ _ us hl => match us, hl with | [_, _], _ => rfl)
    mg_do_moves_commute := PySem.W.mg_of X G a25
    f_l_alike_right := f26
    d_l_alike_right := _
    F_l_alike_right := F26
    b_l_alike_right := F26.binds (ps := ["_law_first", "_law_last", "_law_due"]) (fun _ _ _ _ _ _ us hl => match us, hl with | [_, _, _], _ => rfl)
    mg_l_alike_right := PySem.W.mg_of X G a26
    f_l_are_alike := f27
    d_l_are_alike := _
    F_l_are_alike := F27
    b_l_are_alike := F27.binds (ps := ["_law_first", "_law_last"]) (fun _ _ _ _ _ _ us hl => match us, hl with | [_, _], _ => rfl)
    mg_l_are_alike := PySem.W.mg_of X G a27
    f_l_power := f28
    d_l_power := _
    F_l_power := F28
    b_l_power := F28.binds (ps := ["_law_trip_here", "_law_count"]) (fun _ _ _ _ _ _ us hl => match us, hl with | [_, _], _ => rfl)
    mg_l_power := PySem.W.mg_of X G a28
    f_check_degree := f29
    d_check_degree := _
    F_check_degree := F29
    b_check_degree := F29.binds (ps := ["value"]) (fun _ _ _ _ _ _ us hl => match us, hl with | [_], _ => rfl)
    mg_check_degree := PySem.W.mg_of X G a29
    f_area_often := f30
    d_area_often := _
    F_area_often := F30
    b_area_often := F30.binds (ps := ["east", "north", "area", "times"]) (fun _ _ _ _ _ _ us hl => match us, hl with | [_, _, _, _], _ => rfl)
    mg_area_often := PySem.W.mg_of X G a30
    f_move_root := f31
    d_move_root := _
    F_move_root := F31
    b_move_root := F31.binds (ps := ["one", "degree"]) (fun _ _ _ _ _ _ us hl => match us, hl with | [_, _], _ => rfl)
    mg_move_root := PySem.W.mg_of X G a31
    f_l_has_root := f32
    d_l_has_root := _
    F_l_has_root := F32
    b_l_has_root := F32.binds (ps := ["_law_trip_here", "_law_level"]) (fun _ _ _ _ _ _ us hl => match us, hl with | [_, _], _ => rfl)
    mg_l_has_root := PySem.W.mg_of X G a32
    f_triple_of := f33
    d_triple_of := _
    F_triple_of := F33
    b_triple_of := F33.binds (ps := ["move"]) (fun _ _ _ _ _ _ us hl => match us, hl with | [_], _ => rfl)
    mg_triple_of := PySem.W.mg_of X G a33
    f_Move_eq := f34
    d_Move_eq := _
    F_Move_eq := F34
    b_Move_eq := F34.binds (ps := ["self", "other"]) (fun _ _ _ _ _ _ us hl => match us, hl with | [_, _], _ => rfl)
    f_l_roots_right := f35
    d_l_roots_right := _
    F_l_roots_right := F35
    b_l_roots_right := F35.binds (ps := ["_law_reel_here"]) (fun _ _ _ _ _ _ us hl => match us, hl with | [_], _ => rfl)
    mg_l_roots_right := PySem.W.mg_of X G a35
    f_l_right := f36
    d_l_right := _
    F_l_right := F36
    b_l_right := F36.binds (ps := ["_law_reel_here"]) (fun _ _ _ _ _ _ us hl => match us, hl with | [_], _ => rfl)
    mg_l_right := PySem.W.mg_of X G a36
    f_l_reel := f37
    d_l_reel := _
    F_l_reel := F37
    b_l_reel := F37.binds (ps := ["_law_script", "_law_turn"]) (fun _ _ _ _ _ _ us hl => match us, hl with | [_, _], _ => rfl)
    mg_l_reel := PySem.W.mg_of X G a37
    f_law := fa
    d_law := _
    F_law := F38
    b_law := F38.binds (ps := ["_law_script"]) (fun _ _ _ _ _ _ us hl => match us, hl with | [_], _ => rfl)
    mg_law := PySem.W.mg_of X G a38
    C_Move := C_Move
    mg_Move := PySem.W.mg_of X G aC_Move
    ct_Move := aC_Move
    cl_Move := ⟨pg_Move, hd_Move, po_Move, sa_Move⟩
    mk_Move := ⟨mk_Move, ii_Move, ij_Move, kc_Move⟩
    pp_Move_east := pp_Move_east
    pr_Move_east := ⟨pa_Move_east, pb_Move_east, pc_Move_east, rp_Move_east, pd_Move_east⟩
    pp_Move_north := pp_Move_north
    pr_Move_north := ⟨pa_Move_north, pb_Move_north, pc_Move_north, rp_Move_north, pd_Move_north⟩
    pp_Move_area := pp_Move_area
    pr_Move_area := ⟨pa_Move_area, pb_Move_area, pc_Move_area, rp_Move_area, pd_Move_area⟩
    eqC_Move := ⟨ea_Move, eb_Move, nm_Move, qq_Move, Ns_Move, bs_Move, hdd_Move, sn_Move, sb_Move, ab_Move, col_Move, dd_Move, k0_Move, k1_Move, k2_Move, k3_Move, k5_Move, nid_Move, ec_Move, ed_Move, ee_Move, ef_Move⟩
    na_Move__area := na_Move__area
    na_Move__east := na_Move__east
    na_Move__north := na_Move__north
    isi_Move := ⟨⟨pg_Move, hd_Move, po_Move, sa_Move⟩, ia_Move, ib_Move, ic_Move, id_Move⟩
    it_0 := it_0
    it_1 := it_1
    it_2 := it_2
    it_3 := it_3
    it_4 := it_4
    it_5 := it_5
    it_6 := it_6
    it_7 := it_7
    it_8 := it_8
    it_9 := it_9
    it_10 := it_10
    it_11 := it_11
    it_12 := it_12
    it_13 := it_13
    it_14 := it_14
    it_15 := it_15
    it_16 := it_16
    it_17 := it_17
    it_18 := it_18
    it_19 := it_19
    it_20 := it_20
    n_int := PySem.W.mg_none_of X G n_int
    n_bool := PySem.W.mg_none_of X G n_bool
    n_tuple := PySem.W.mg_none_of X G n_tuple
    n_list := PySem.W.mg_none_of X G n_list
    n_isinstance := PySem.W.mg_none_of X G n_isinstance
    n_len := PySem.W.mg_none_of X G n_len
    n_abs := PySem.W.mg_none_of X G n_abs
    n_repr := PySem.W.mg_none_of X G n_repr
    n_all := PySem.W.mg_none_of X G n_all
    n_range := PySem.W.mg_none_of X G n_range
    n_divmod := PySem.W.mg_none_of X G n_divmod
    n_zip := PySem.W.mg_none_of X G n_zip
    n_enumerate := PySem.W.mg_none_of X G n_enumerate
    n_sorted := PySem.W.mg_none_of X G n_sorted }, rfl, rfl, rfl⟩
theorem fin {P : Program} {w : World} {K : PySem.W.Frag} {mg : Str → Option Value} {fa : Addr} {h : Heap} {ca17 cp17 : Addr} (KX : K.In h) (mt17 : h.get? cp17 = some (PySem.W.tabObj #[])) (nt17 : K.lookup cp17 = none) (ch17 : PySem.W.codeHdIn K ca17 cp17 = true)  (hh : ∃ T : Tx w K mg, T.f_law = fa ∧ T.c_swept = ca17 ∧ T.P_swept = cp17) :
    ∃ (fd : FuncData) (cs : List (Addr × Addr)) (T : List (Addr × Str)), (∀ p ∈ T, p.1 ∈ cs.map (·.2)) ∧ (∀ p ∈ cs, h.get? p.2 = some (PySem.W.tabObj #[])) ∧ (∀ p ∈ cs, K.lookup p.2 = none) ∧ (∀ p ∈ cs, PySem.W.CodeHd h p.1 p.2) ∧
      (∀ (s : Shared) (u : Value), BindsTo s fd ⟨[u], []⟩ [("_law_script", u)]) ∧ ∀ base : Heap, K.In base → base.Ns mainGlobals mg → (∀ p ∈ cs, TabB base mg p.1 p.2) → FnG P w K mg base CX0 11 fa fd ["_law_script"] (@spF (TbC.tabs T) K F_law) := by
  obtain ⟨T, rfl, rfl, rfl⟩ := hh
  refine ⟨T.d_law, [(T.c_swept, T.P_swept)], [(T.P_swept, (("swept" : Str) ++ ".<locals>.") ++ "<lambda>")], ?_, ?_, ?_, ?_, fun s u => ?_, fun base _ _ tb => ?_⟩
  · intro p hp
    simp only [List.mem_cons, List.not_mem_nil, or_false] at hp
    rcases hp with rfl <;> simp
  · intro p hp
    simp only [List.mem_cons, List.not_mem_nil, or_false] at hp
    rcases hp with rfl <;> assumption
  · intro p hp
    simp only [List.mem_cons, List.not_mem_nil, or_false] at hp
    rcases hp with rfl <;> assumption
  · intro p hp
    simp only [List.mem_cons, List.not_mem_nil, or_false] at hp
    rcases hp with rfl <;> exact PySem.W.codeHd_of_K KX (by assumption)
  · obtain ⟨oc, od, kV, doc, pm, an, cdv, ct, osl, e, _⟩ := T.F_law.ex
    rw [e]
    exact .of_eq rfl
  · letI : TbC := TbC.tabs [(T.P_swept, (("swept" : Str) ++ ".<locals>.") ++ "<lambda>")]
    have B : Tb T base := {
      ne := by simp
      tb_swept := tb (T.c_swept, T.P_swept) (by simp)
      m_swept := (show _ ∈ [(T.P_swept, (("swept" : Str) ++ ".<locals>.") ++ "<lambda>")] from by simp)
      u_swept := by
        intro p hp e
        have hp : p ∈ [(T.P_swept, (("swept" : Str) ++ ".<locals>.") ++ "<lambda>")] := hp
        simp only [List.mem_cons, List.not_mem_nil, or_false] at hp
        rcases hp with rfl <;> first | (exact absurd e (by assumption)) | (exact absurd e.symm (by assumption)) | rfl
    }
    exact ok_law T B
end Kr
open PySem PySem.W PyProof.Rows
set_option maxRecDepth 100000 in
set_option maxHeartbeats 0 in
theorem PySem.Challenge.cw_pressworlds_k64_whole_moves_alike_commut_holds : PySem.Challenge.rw_pressworlds_k64_whole_moves_alike_commut.Holds := by
  w_on; o_law; k_head; (case hw => w_witness2)
  k_fill
  refine DF.walkT (FF0 := Kr.F_law) (fun t => @Kr.hF0 t) (l := PySem.Challenge.rw_pressworlds_k64_whole_moves_alike_commut) (k := 11) (x := "_law_script") rfl rfl ⟨rfl, by decide, by decide⟩ (fun w h Y => PySem.W.km_in_of Y) ?F
  case F =>
    intro w mg fa h Y KX G hmg
    refine' Kr.fin KX ?mt17 ?nt17 ?ch17 (Kr.all_mk KX G hmg ?a0 ?l0 ?c0 ?k0 ?a1 ?l1 ?c1 ?k1 ?a2 ?l2 ?c2 ?k2 ?a3 ?l3 ?c3 ?k3 ?a4 ?l4 ?c4 ?k4 ?a5 ?l5 ?c5 ?k5 ?a6 ?l6 ?c6 ?k6 ?a7 ?l7 ?c7 ?k7 ?l8 ?c8 ?k8 ?a9 ?l9 ?c9 ?k9 ?a10 ?l10 ?c10 ?k10 ?a11 ?l11 ?c11 ?k11 ?l12 ?c12 ?k12 ?l13 ?c13 ?k13 ?a14 ?l14 ?c14 ?k14 ?a15 ?l15 ?c15 ?k15 ?a16 ?l16 ?c16 ?k16 ?a17 ?l17 ?x1_17 ?x2_17 ?c17 ?k17 ?a18 ?l18 ?c18 ?k18 ?a19 ?l19 ?c19 ?k19 ?l20 ?c20 ?k20 ?a21 ?l21 ?c21 ?k21 ?a22 ?l22 ?c22 ?k22 ?a23 ?l23 ?c23 ?k23 ?a24 ?l24 ?c24 ?k24 ?a25 ?l25 ?c25 ?k25 ?a26 ?l26 ?c26 ?k26 ?a27 ?l27 ?c27 ?k27 ?a28 ?l28 ?c28 ?k28 ?a29 ?l29 ?c29 ?k29 ?a30 ?l30 ?c30 ?k30 ?a31 ?l31 ?c31 ?k31 ?a32 ?l32 ?c32 ?k32 ?a33 ?l33 ?c33 ?k33 ?l34 ?c34 ?k34 ?a35 ?l35 ?c35 ?k35 ?a36 ?l36 ?c36 ?k36 ?a37 ?l37 ?c37 ?k37 ?a38 ?l38 ?c38 ?k38 ?aC_Move ?pg_Move ?hd_Move ?po_Move ?sa_Move ?mk_Move ?kc_Move ?ii_Move ?ij_Move ?pa_Move_east ?pb_Move_east ?pc_Move_east ?pd_Move_east ?pa_Move_north ?pb_Move_north ?pc_Move_north ?pd_Move_north ?pa_Move_area ?pb_Move_area ?pc_Move_area ?pd_Move_area ?ea_Move ?eb_Move ?ec_Move ?ed_Move ?ee_Move ?ef_Move ?na_Move__area ?na_Move__east ?na_Move__north ?ia_Move ?ib_Move ?ic_Move ?id_Move ?it_0 ?it_1 ?it_2 ?it_3 ?it_4 ?it_5 ?it_6 ?it_7 ?it_8 ?it_9 ?it_10 ?it_11 ?it_12 ?it_13 ?it_14 ?it_15 ?it_16 ?it_17 ?it_18 ?it_19 ?it_20 ?n_int ?n_bool ?n_tuple ?n_list ?n_isinstance ?n_len ?n_abs ?n_repr ?n_all ?n_range ?n_divmod ?n_zip ?n_enumerate ?n_sorted)
    (case aC_Move => k_is); (case ii_Move => k_is); (case pa_Move_east => k_is); (case pd_Move_east => k_is); (case pa_Move_north => k_is); (case pd_Move_north => k_is); (case pa_Move_area => k_is); (case pd_Move_area => k_is); (case ea_Move => k_is); (case a0 => k_is); (case a1 => k_is); (case a2 => k_is); (case a3 => k_is); (case a4 => k_is); (case a5 => k_is); (case a6 => k_is); (case a7 => k_is); (case a9 => k_is); (case a10 => k_is); (case a11 => k_is); (case a14 => k_is); (case a15 => k_is); (case a16 => k_is); (case a17 => k_is); (case a18 => k_is); (case a19 => k_is); (case a21 => k_is); (case a22 => k_is); (case a23 => k_is); (case a24 => k_is); (case a25 => k_is); (case a26 => k_is); (case a27 => k_is); (case a28 => k_is); (case a29 => k_is); (case a30 => k_is); (case a31 => k_is); (case a32 => k_is); (case a33 => k_is); (case a35 => k_is); (case a36 => k_is); (case a37 => k_is); (case a38 => k_is); (case l0 => k_is); (case c0 => k_is); (case k0 => k_is); (case l1 => k_is); (case c1 => k_is); (case k1 => k_is); (case l2 => k_is); (case c2 => k_is); (case k2 => k_is); (case l3 => k_is); (case c3 => k_is); (case k3 => k_is); (case l4 => k_is); (case c4 => k_is); (case k4 => k_is); (case l5 => k_is); (case c5 => k_is); (case k5 => k_is); (case l6 => k_is); (case c6 => k_is); (case k6 => k_is); (case l7 => k_is); (case c7 => k_is); (case k7 => k_is); (case l8 => k_is); (case c8 => k_is); (case k8 => k_is); (case l9 => k_is); (case c9 => k_is); (case k9 => k_is); (case l10 => k_is); (case c10 => k_is); (case k10 => k_is); (case l11 => k_is); (case c11 => k_is); (case k11 => k_is); (case l12 => k_is); (case c12 => k_is); (case k12 => k_is); (case l13 => k_is); (case c13 => k_is); (case k13 => k_is); (case l14 => k_is); (case c14 => k_is); (case k14 => k_is); (case l15 => k_is); (case c15 => k_is); (case k15 => k_is); (case l16 => k_is); (case c16 => k_is); (case k16 => k_is); (case l17 => k_is); (case x1_17 => k_is); (case x2_17 => rfl); (case c17 => k_is); (case k17 => k_is); (case l18 => k_is); (case c18 => k_is); (case k18 => k_is); (case l19 => k_is); (case c19 => k_is); (case k19 => k_is); (case l20 => k_is); (case c20 => k_is); (case k20 => k_is); (case l21 => k_is); (case c21 => k_is); (case k21 => k_is); (case l22 => k_is); (case c22 => k_is); (case k22 => k_is); (case l23 => k_is); (case c23 => k_is); (case k23 => k_is); (case l24 => k_is); (case c24 => k_is); (case k24 => k_is); (case l25 => k_is); (case c25 => k_is); (case k25 => k_is); (case l26 => k_is); (case c26 => k_is); (case k26 => k_is); (case l27 => k_is); (case c27 => k_is); (case k27 => k_is); (case l28 => k_is); (case c28 => k_is); (case k28 => k_is); (case l29 => k_is); (case c29 => k_is); (case k29 => k_is); (case l30 => k_is); (case c30 => k_is); (case k30 => k_is); (case l31 => k_is); (case c31 => k_is); (case k31 => k_is); (case l32 => k_is); (case c32 => k_is); (case k32 => k_is); (case l33 => k_is); (case c33 => k_is); (case k33 => k_is); (case l34 => k_is); (case c34 => k_is); (case k34 => k_is); (case l35 => k_is); (case c35 => k_is); (case k35 => k_is); (case l36 => k_is); (case c36 => k_is); (case k36 => k_is); (case l37 => k_is); (case c37 => k_is); (case k37 => k_is); (case l38 => k_is); (case c38 => k_is); (case k38 => k_is); (case pg_Move => k_is); (case hd_Move => k_is); (case po_Move => k_is); (case sa_Move => k_is); (case mk_Move => k_is); (case kc_Move => k_is); (case ij_Move => k_is); (case pb_Move_east => k_is); (case pc_Move_east => k_is); (case pb_Move_north => k_is); (case pc_Move_north => k_is); (case pb_Move_area => k_is); (case pc_Move_area => k_is); (case eb_Move => k_is); (case ec_Move => k_is); (case ed_Move => first | exact (by rfl) | kernel_rfl); (case ee_Move => k_is); (case ef_Move => k_is); (case na_Move__area => k_is); (case na_Move__east => k_is); (case na_Move__north => k_is); (case ia_Move => k_is); (case ib_Move => k_is); (case ic_Move => k_is); (case id_Move => k_is); (case it_0 => first | k_is | rfl | kernel_rfl); (case it_1 => first | k_is | rfl | kernel_rfl); (case it_2 => first | k_is | rfl | kernel_rfl); (case it_3 => first | k_is | rfl | kernel_rfl); (case it_4 => first | k_is | rfl | kernel_rfl); (case it_5 => first | k_is | rfl | kernel_rfl); (case it_6 => first | k_is | rfl | kernel_rfl); (case it_7 => first | k_is | rfl | kernel_rfl); (case it_8 => first | k_is | rfl | kernel_rfl); (case it_9 => first | k_is | rfl | kernel_rfl); (case it_10 => first | k_is | rfl | kernel_rfl); (case it_11 => first | k_is | rfl | kernel_rfl); (case it_12 => first | k_is | rfl | kernel_rfl); (case it_13 => first | k_is | rfl | kernel_rfl); (case it_14 => first | k_is | rfl | kernel_rfl); (case it_15 => first | k_is | rfl | kernel_rfl); (case it_16 => first | k_is | rfl | kernel_rfl); (case it_17 => first | k_is | rfl | kernel_rfl); (case it_18 => first | k_is | rfl | kernel_rfl); (case it_19 => first | k_is | rfl | kernel_rfl); (case it_20 => first | k_is | rfl | kernel_rfl); (case n_int => k_is); (case n_bool => k_is); (case n_tuple => k_is); (case n_list => k_is); (case n_isinstance => k_is); (case n_len => k_is); (case n_abs => k_is); (case n_repr => k_is); (case n_all => k_is); (case n_range => k_is); (case n_divmod => k_is); (case n_zip => k_is); (case n_enumerate => k_is); (case n_sorted => k_is)
    (case mt17 => exact PySem.W.km_tabs_of Y _ (by decide)); (case nt17 => first | kernel_rfl | k_is | rfl); (case ch17 => first | kernel_rfl | k_is | rfl)

