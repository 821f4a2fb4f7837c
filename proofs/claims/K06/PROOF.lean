import PyProof.Rows.All
import Wide.All
import OpenK.AllK
import Wide.FinOn
import HandS.ForMost
import HandS.ForExc
import HandS.OwnEq
import HandS.IsInst
import HandS.Property
import HandS.Defaults
import HandS.MakeKw
import HandS.Wide
import HandS.WideBits
import HandS.NoneIn
import HandS.Style
import HandS.Deep
import HandS.Gcd
import HandS.Walk
import HandS.StrMore
import HandS.FStr
import HandS.ClsMeth
import HandS.Lambda
import HandS.TupAny
import HandS.TupMul
import HandS.MakeKwOnly
import HandS.RaiseMore
import HandS.Rev
import HandS.CallLocal
import HandS.Small
import HandS.Flow
import KE.KRevSl
import HandS.Text
import PyProof.Rows.RegReprOcc
import KE.DataCmp
import KE.KCallOwn
import HandS.List
import HandS.TryMany
import HandS.ExcInit
import HandS.ExcIs
import HandS.ExcField
import KE.KExcIs
import HandS.ExcOwn
import HandS.WordsExc
import KE.KExcInit
import HandS.EndTab
import HandS.SetFor
import HandS.HotCalls
import KE.SortKeyHeap
import HandS.Set
import HandS.SetTxt0
import PySem.Challenge.RW_pressworlds_k06_whole_turns_and_least_ro
set_option Elab.async false
set_option linter.all false
set_option maxRecDepth 100000
set_option maxHeartbeats 4000000
/-! DF: Python data as plain data; defs as plain functions; one's own things by value in their slots. -/
namespace DF
open PySem L2

def CT (K : PySem.W.Frag) (c : Str) (C : Addr) : Prop := PySem.W.nsIn K mainGlobals c = some (some (.ref C))
theorem CT.one {K : PySem.W.Frag} {c : Str} {C C' : Addr} (h : CT K c C) (h' : CT K c C') : C = C' := by
  unfold CT at h h'
  rw [h] at h'
  injection h' with h'
  injection h' with h'
  injection h'

inductive D where
  | non | bl (b : Bool) | int (i : Int) | str (s : Str) | ty (n : String) | cls (c : Str) | scr (ns : List Int)
  | tup (ds : List D) | lst (ds : List D) | ins (c : Str) (fs : List (Str × D)) | dct (kvs : List (Key × D))

/-- the script: locked, or one of the module's own lists -/
def Sc (K : PySem.W.Frag) (H : Hp) (b : Addr) (ns : List Int) : Prop := (∃ o, H b = some (.frz o (.lst (ns.map V.int)))) ∨ ∀ H' : Hp, SqL K H' b (ns.map V.int)
theorem Sc.ext {K : PySem.W.Frag} {G H : Hp} {b : Addr} {ns : List Int} (h : Sc K G b ns) (e : Ext G H) : Sc K H b ns := h.elim (fun ⟨o, z⟩ => .inl ⟨o, e _ _ z⟩) .inr
theorem Sc.seq {K : PySem.W.Frag} {H : Hp} {b : Addr} {ns : List Int} (h : Sc K H b ns) : SqL K H b (ns.map V.int) := h.elim (fun ⟨o, z⟩ => .inl (.inr ⟨o, z⟩)) fun z => z H
theorem sqT_ext {K : PySem.W.Frag} {G H : Hp} {b : Addr} {xs : List V} (h : SqT K G b xs) (e : Ext G H) : SqT K H b xs := by
  rcases h with h | h
  · rcases h with h | ⟨o, h⟩
    · exact .inl (.inl (e _ _ h))
    · exact .inl (.inr ⟨o, e _ _ h⟩)
  · exact .inr h
theorem ext_upd {G : Hp} {p : Addr} {o : HO} (h : G p = none) : Ext G (upd G p o) := fun b u e => by rw [upd_ne (by intro z; subst z; rw [h] at e; cases e)]; exact e
theorem ext_upd' {G H : Hp} {p : Addr} {o : HO} (i : Ext G H) (h : H p = none) : Ext G (upd H p o) := i.trans (ext_upd h)
mutual
inductive At (K : PySem.W.Frag) (G : Hp) : V → D → Prop
  | non : At K G .non .non
  | bl (b : Bool) : At K G (.bl b) (.bl b)
  | int (i : Int) : At K G (.int i) (.int i)
  | str (s : Str) : At K G (.str s) (.str s)
  | ty (n : String) : At K G (.ty n) (.ty n)
  | cls {a : Addr} {c : Str} : CT K c a → At K G (.ref a) (.cls c)
  | scr {p : Addr} {ns : List Int} : Sc K G p ns → At K G (.ref p) (.scr ns)
  | tup {p : Addr} {vs : List V} {ds : List D} : SqT K G p vs → AtL K G vs ds → At K G (.ref p) (.tup ds)
  | lst {p : Addr} {vs : List V} {ds : List D} : G p = some (.lst vs) → AtL K G vs ds → At K G (.ref p) (.lst ds)
  | ins {p C dx : Addr} {c : Str} {fs : List (Str × V)} {gs : List (Str × D)} : CT K c C → G p = some (.ins C dx fs) → AtF K G fs gs → At K G (.ref p) (.ins c gs)
  | dct {p : Addr} {vs : List (Key × V)} {ds : List (Key × D)} : G p = some (.dK vs) → AtK K G vs ds → At K G (.ref p) (.dct ds)
inductive AtL (K : PySem.W.Frag) (G : Hp) : List V → List D → Prop
  | nil : AtL K G [] []
  | cons {v : V} {d : D} {vs : List V} {ds : List D} : At K G v d → AtL K G vs ds → AtL K G (v :: vs) (d :: ds)
inductive AtF (K : PySem.W.Frag) (G : Hp) : List (Str × V) → List (Str × D) → Prop
  | nil : AtF K G [] []
  | cons {f : Str} {v : V} {d : D} {vs : List (Str × V)} {ds : List (Str × D)} : At K G v d → AtF K G vs ds → AtF K G ((f, v) :: vs) ((f, d) :: ds)
inductive AtK (K : PySem.W.Frag) (G : Hp) : List (Key × V) → List (Key × D) → Prop
  | nil : AtK K G [] []
  | cons {f : Key} {v : V} {d : D} {vs : List (Key × V)} {ds : List (Key × D)} : At K G v d → AtK K G vs ds → AtK K G ((f, v) :: vs) ((f, d) :: ds)
end

section
variable {K : PySem.W.Frag} {G G' H H' : Hp}
mutual
theorem At.mono (e : Ext G G') : ∀ {v : V} {d : D}, At K G v d → At K G' v d
  | _, _, .non => .non
  | _, _, .bl b => .bl b
  | _, _, .int i => .int i
  | _, _, .str s => .str s
  | _, _, .ty n => .ty n
  | _, _, .cls h => .cls h
  | _, _, .scr h => .scr (h.ext e)
  | _, _, .tup h l => .tup (sqT_ext h e) (AtL.mono e l)
  | _, _, .lst h l => .lst (e _ _ h) (AtL.mono e l)
  | _, _, .ins c h l => .ins c (e _ _ h) (AtF.mono e l)
  | _, _, .dct h l => .dct (e _ _ h) (AtK.mono e l)
theorem AtL.mono (e : Ext G G') : ∀ {vs : List V} {ds : List D}, AtL K G vs ds → AtL K G' vs ds
  | _, _, .nil => .nil
  | _, _, .cons h l => .cons (At.mono e h) (AtL.mono e l)
theorem AtF.mono (e : Ext G G') : ∀ {vs : List (Str × V)} {ds : List (Str × D)}, AtF K G vs ds → AtF K G' vs ds
  | _, _, .nil => .nil
  | _, _, .cons h l => .cons (At.mono e h) (AtF.mono e l)
theorem AtK.mono (e : Ext G G') : ∀ {vs : List (Key × V)} {ds : List (Key × D)}, AtK K G vs ds → AtK K G' vs ds
  | _, _, .nil => .nil
  | _, _, .cons h l => .cons (At.mono e h) (AtK.mono e l)
end
theorem AtL.length {vs : List V} : ∀ {ds : List D}, AtL K G vs ds → vs.length = ds.length := by
  induction vs with
  | nil => intro ds h; cases h; rfl
  | cons v vs ih => intro ds h; cases h with | cons _ l => rw [List.length_cons, List.length_cons, ih l]
theorem AtL.get {vs : List V} : ∀ {ds : List D}, AtL K G vs ds → ∀ {j : Nat} {d : D}, ds[j]? = some d → ∃ v, vs[j]? = some v ∧ At K G v d := by
  induction vs with
  | nil => intro ds h j d e; cases h; simp at e
  | cons v vs ih =>
    intro ds h j d e
    cases h with
    | cons a l =>
      cases j with
      | zero => simp at e; subst e; exact ⟨v, by simp, a⟩
      | succ j => simp at e; obtain ⟨u, h1, h2⟩ := ih l e; exact ⟨u, by simpa using h1, h2⟩
theorem AtL.get' {vs : List V} : ∀ {ds : List D}, AtL K G vs ds → ∀ {j : Nat} {v : V}, vs[j]? = some v → ∃ d, ds[j]? = some d ∧ At K G v d := by
  induction vs with
  | nil => intro ds h j d e; simp at e
  | cons v vs ih =>
    intro ds h j d e
    cases h with
    | cons a l =>
      cases j with
      | zero => simp at e; subst e; exact ⟨_, by simp, a⟩
      | succ j => simp at e; obtain ⟨u, h1, h2⟩ := ih l e; exact ⟨u, by simpa using h1, h2⟩
theorem AtL.append {vs : List V} : ∀ {ds : List D} {us : List V} {es : List D}, AtL K G vs ds → AtL K G us es → AtL K G (vs ++ us) (ds ++ es) := by
  induction vs with
  | nil => intro ds us es h k; cases h; exact k
  | cons v vs ih => intro ds us es h k; cases h with | cons a l => exact .cons a (ih l k)
theorem AtL.take {vs : List V} : ∀ {ds : List D} (n : Nat), AtL K G vs ds → AtL K G (vs.take n) (ds.take n) := by
  induction vs with
  | nil => intro ds n h; cases h; simp; exact .nil
  | cons v vs ih => intro ds n h; cases h with | cons a l => cases n with | zero => exact .nil | succ n => exact .cons a (ih n l)
theorem AtL.drop {vs : List V} : ∀ {ds : List D} (n : Nat), AtL K G vs ds → AtL K G (vs.drop n) (ds.drop n) := by
  induction vs with
  | nil => intro ds n h; cases h; simp; exact .nil
  | cons v vs ih => intro ds n h; cases h with | cons a l => cases n with | zero => exact .cons a l | succ n => exact ih n l
theorem AtL.set {vs : List V} : ∀ {ds : List D} (n : Nat) {v : V} {d : D}, AtL K G vs ds → At K G v d → AtL K G (vs.set n v) (ds.set n d) := by
  induction vs with
  | nil => intro ds n v d h _; cases h; exact .nil
  | cons v vs ih => intro ds n u d h t; cases h with | cons a l => cases n with | zero => exact .cons t l | succ n => exact .cons a (ih n l t)
theorem AtL.reverse {vs : List V} : ∀ {ds : List D}, AtL K G vs ds → AtL K G vs.reverse ds.reverse := by
  induction vs with
  | nil => intro ds h; cases h; exact .nil
  | cons v vs ih => intro ds h; cases h with | cons a l => rw [List.reverse_cons, List.reverse_cons]; exact (ih l).append (.cons a .nil)
theorem AtL.dropLast {vs : List V} {ds : List D} (h : AtL K G vs ds) : AtL K G vs.dropLast ds.dropLast := by
  rw [List.dropLast_eq_take, List.dropLast_eq_take, h.length]; exact h.take _
theorem AtF.look {fs : List (Str × V)} : ∀ {gs : List (Str × D)}, AtF K G fs gs → ∀ {f : Str} {d : D}, gs.lookup f = some d → ∃ v, fs.lookup f = some v ∧ At K G v d := by
  induction fs with
  | nil => intro gs h f d e; cases h; simp [List.lookup] at e
  | cons p fs ih =>
    intro gs h f d e
    cases h with
    | cons a l =>
      rename_i f0 v0 d0 ds0
      by_cases hf : (f == f0) = true
      · simp [List.lookup, hf] at e ⊢
        subst e
        exact a
      · have hf' : (f == f0) = false := by simpa using hf
        simp [List.lookup, hf'] at e ⊢
        exact ih l e
theorem AtF.no {fs : List (Str × V)} : ∀ {gs : List (Str × D)}, AtF K G fs gs → ∀ {f : Str}, gs.lookup f = none → fs.lookup f = none := by
  induction fs with
  | nil => intro gs h f e; rfl
  | cons p fs ih =>
    intro gs h f e
    cases h with
    | cons a l =>
      rename_i f0 v0 d0 ds0
      by_cases hf : (f == f0) = true
      · rw [List.lookup, hf] at e; cases e
      · have hf' : (f == f0) = false := by simpa using hf
        rw [List.lookup, hf'] at e ⊢
        exact ih l e
theorem AtF.length {fs : List (Str × V)} : ∀ {gs : List (Str × D)}, AtF K G fs gs → fs.length = gs.length := by
  induction fs with
  | nil => intro gs h; cases h; rfl
  | cons p fs ih => intro gs h; cases h with | cons a l => rw [List.length_cons, List.length_cons, ih l]
end

/-! ### what is one's own -/
inductive OD where
  | lst (ds : List D) | dct (kvs : List (Key × D)) | ins (c : Str) (gs : List (Str × D))
abbrev Ow := Addr → Option OD
def Ow.put (c : Ow) (p : Addr) (o : OD) : Ow := fun b => if b = p then some o else c b
def Ow.del (c : Ow) (p : Addr) : Ow := fun b => if b = p then none else c b
theorem Ow.put_same {c : Ow} {p : Addr} {o : OD} : c.put p o p = some o := if_pos rfl
theorem Ow.put_ne {c : Ow} {p b : Addr} {o : OD} (h : b ≠ p) : c.put p o b = c b := if_neg h
theorem Ow.del_same {c : Ow} {p : Addr} : c.del p p = none := if_pos rfl
theorem Ow.del_ne {c : Ow} {p b : Addr} (h : b ≠ p) : c.del p b = c b := if_neg h
def HasO (K : PySem.W.Frag) (G H : Hp) (p : Addr) : OD → Prop
  | .lst ds => ∃ vs, H p = some (.lst vs) ∧ AtL K G vs ds
  | .dct ds => ∃ vs, H p = some (.dK vs) ∧ AtK K G vs ds
  | .ins c gs => ∃ C dx fs, CT K c C ∧ H p = some (.ins C dx fs) ∧ AtF K G fs gs
section
variable {K : PySem.W.Frag} {G G' H H' H1 G1 G2 H2 : Hp} {c c' c1 c2 : Ow}
theorem HasO.mono {p : Addr} (e : Ext G G') (h : H p ≠ none → H' p = H p) : ∀ {o : OD}, HasO K G H p o → HasO K G' H' p o
  | .lst _, ⟨vs, k, l⟩ => ⟨vs, by rw [h (by rw [k]; simp)]; exact k, l.mono e⟩
  | .dct _, ⟨vs, k, l⟩ => ⟨vs, by rw [h (by rw [k]; simp)]; exact k, l.mono e⟩
  | .ins _ _, ⟨C, dx, vs, ct, k, l⟩ => ⟨C, dx, vs, ct, by rw [h (by rw [k]; simp)]; exact k, l.mono e⟩
theorem HasO.some {p : Addr} : ∀ {o : OD}, HasO K G H p o → H p ≠ none
  | .lst _, ⟨vs, k, l⟩ => by rw [k]; simp
  | .dct _, ⟨vs, k, l⟩ => by rw [k]; simp
  | .ins _ _, ⟨_, _, vs, _, k, l⟩ => by rw [k]; simp
/-- what never changes -/
def Stay : HO → Prop
  | .xd _ => True
  | .ext _ => True
  | _ => False
theorem Stay.nt {o : HO} (h : Stay o) : ∀ ps, o ≠ HO.tbl ps := fun ps z => by subst z; exact h
/-- the tables of code objects that lambdas need -/
class TbC where
  T : List (Addr × Str)
  xa : Addr
  Z : Hp → Hp → Prop
  zm : ∀ {G H G' H' : Hp}, Z G H → Ext G G' → (∀ b o, Stay o → H b = some o → H' b = some o) → Z G' H'
def NoT (G : Hp) : Prop := ∀ b ps, G b ≠ some (HO.tbl ps)
theorem NoT.ne {G : Hp} {b : Addr} {o : HO} (h : NoT G) (e : G b = some o) : ∀ ps, o ≠ HO.tbl ps := fun ps z => h b ps (by rw [e, z])
theorem HasO.ne {K : PySem.W.Frag} {G H : Hp} {p : Addr} {o : OD} {ho : HO} (h : HasO K G H p o) (e : H p = Option.some ho) : (∀ ps, ho ≠ HO.tbl ps) ∧ ∀ q, ho ≠ HO.ext q := by
  cases o with
  | lst ds => obtain ⟨vs, k, _⟩ := h; rw [k] at e; cases e; exact ⟨fun _ z => (by cases z), fun _ z => (by cases z)⟩
  | dct ds => obtain ⟨vs, k, _⟩ := h; rw [k] at e; cases e; exact ⟨fun _ z => (by cases z), fun _ z => (by cases z)⟩
  | ins c gs => obtain ⟨_, _, vs, _, k, _⟩ := h; rw [k] at e; cases e; exact ⟨fun _ z => (by cases z), fun _ z => (by cases z)⟩
/-- tables live on where nothing of theirs is touched -/
theorem tabs_keep {T : List (Addr × Str)} {H H' : Hp} (t : LamX.Tabs T H) (e : ∀ b o, H b = Option.some o → ((∃ ps, o = HO.tbl ps) ∨ ∃ q, o = HO.ext q) → H' b = Option.some o) : LamX.Tabs T H' := fun x hx => by
  obtain ⟨ps, h1, h2, h3⟩ := t x hx
  exact ⟨ps, e _ _ h1 (.inl ⟨_, rfl⟩), h2, fun pos cv hc => by
    obtain ⟨c, e1, e2⟩ := h3 pos cv hc
    exact ⟨c, e1, e _ _ e2 (.inr ⟨_, rfl⟩)⟩⟩
variable [TbC]
abbrev ExtT (H H' : Hp) : Prop := ∀ b o, ((∀ ps, o ≠ HO.tbl ps) ∨ TbC.T = []) → H b = some o → H' b = some o
structure Iv (K : PySem.W.Frag) (c : Ow) (G H : Hp) : Prop where
  i : Ext G H
  ow : ∀ p o, c p = some o → G p = none ∧ HasO K G H p o
  nt : NoT G
  tb : LamX.Tabs TbC.T H
  z : TbC.Z G H
/-- told things stand in the heap; none is a table -/
structure Bs (G H : Hp) : Prop where
  i : Ext G H
  nt : NoT G
  tb : LamX.Tabs TbC.T H
  z : TbC.Z G H
theorem Iv.bs (v : Iv K c G H) : Bs G H := ⟨v.i, v.nt, v.tb, v.z⟩
theorem Bs.iv (b : Bs G H) : Iv K (fun _ => none) G H := ⟨b.i, fun _ _ z => (by cases z), b.nt, b.tb, b.z⟩
/-- what may happen: T may be touched -/
structure Grow (T : Addr → Prop) (c : Ow) (G H : Hp) (c' : Ow) (G' H' : Hp) : Prop where
  g : Ext G G'
  h : ∀ b o, c b = none → ((∀ ps, o ≠ HO.tbl ps) ∨ TbC.T = []) → H b = some o → H' b = some o
  w : ∀ b, G' b ≠ none → G b ≠ none ∨ H b = none ∨ T b
  o : ∀ b, c' b ≠ none → c b ≠ none ∨ H b = none
  f : ∀ b, ¬ T b → c b ≠ none → c' b = c b ∧ H' b = H b
  n : ∀ b, H b ≠ none → H' b ≠ none
variable {T T1 T2 : Addr → Prop}
theorem Iv.free (v : Iv K c G H) {b : Addr} (h : H b = none) : c b = none := by
  cases e : c b with
  | none => rfl
  | some o => exact absurd h (v.ow b o e).2.some
theorem Iv.gnone (v : Iv K c G H) {b : Addr} (h : H b = none) : G b = none := by
  cases e : G b with
  | none => rfl
  | some o => rw [v.i b o e] at h; cases h
theorem Grow.refl : Grow T c G H c G H := ⟨Ext.rfl', fun _ _ _ _ h => h, fun _ h => .inl h, fun _ h => .inl h, fun _ _ _ => ⟨rfl, rfl⟩, fun _ h => h⟩
theorem Grow.trans' (v0 : Iv K c G H) (x : Grow T1 c G H c1 G1 H1) (y : Grow T2 c1 G1 H1 c2 G2 H2) (h1 : ∀ b, T1 b → T b) (h2 : ∀ b, T2 b → T b ∨ H b = none) : Grow T c G H c2 G2 H2 := by
  have un : ∀ b, c b = .none → H b ≠ .none → c1 b = .none := fun b hc hb => by
    cases e : c1 b with
    | none => rfl
    | some o => exact ((x.o b (by rw [e]; simp)).elim (fun z => absurd hc z) fun z => absurd z hb)
  have back : ∀ b, H1 b = .none → H b = .none := fun b z => by
    cases e : H b with
    | none => rfl
    | some o => exact absurd z (x.n b (by rw [e]; simp))
  refine ⟨x.g.trans y.g, fun b o hc ho hb => y.h b o (un b hc (by rw [hb]; simp)) ho (x.h b o hc ho hb), fun b hb => ?_, fun b hb => ?_, fun b ht hb => ?_, fun b h => y.n b (x.n b h)⟩
  · rcases y.w b hb with z | z | z
    · rcases x.w b z with z | z | z
      · exact .inl z
      · exact .inr (.inl z)
      · exact .inr (.inr (h1 b z))
    · exact .inr (.inl (back b z))
    · exact (h2 b z).elim (fun z => .inr (.inr z)) fun z => .inr (.inl z)
  · exact (y.o b hb).elim (x.o b) fun z => .inr (back b z)
  · obtain ⟨e1, e2⟩ := x.f b (fun z => ht (h1 b z)) hb
    by_cases z : T2 b
    · rcases h2 b z with z | z
      · exact absurd z ht
      · exact absurd (v0.free z) hb
    · obtain ⟨e3, e4⟩ := y.f b z (by rw [e1]; exact hb)
      exact ⟨e3.trans e1, e4.trans e2⟩
theorem Grow.trans (v0 : Iv K c G H) (x : Grow T c G H c1 G1 H1) (y : Grow T c1 G1 H1 c2 G2 H2) : Grow T c G H c2 G2 H2 := x.trans' v0 y (fun _ h => h) fun _ h => .inl h
theorem Grow.mono (x : Grow T1 c G H c1 G1 H1) (h : ∀ b, T1 b → T b) : Grow T c G H c1 G1 H1 :=
  ⟨x.g, x.h, fun b hb => (x.w b hb).elim .inl fun z => z.elim (fun z => .inr (.inl z)) fun z => .inr (.inr (h b z)), x.o, fun b ht => x.f b fun z => ht (h b z), x.n⟩
/-- pure growth -/
structure PG (G H G' H' : Hp) : Prop where
  g : Ext G G'
  h : ExtT H H'
  i : Ext G' H'
  n : ∀ b, G' b ≠ none → G b ≠ none ∨ H b = none
  m : ∀ b, H b ≠ none → H' b ≠ none
  nt : NoT G → NoT G'
  tb : LamX.Tabs TbC.T H → LamX.Tabs TbC.T H'
/-- no tables at all -/
@[reducible] def TbC.off : TbC := ⟨[], 0, fun _ _ => True, fun _ _ _ => trivial⟩
theorem xd_ext {H H' : Hp} (e : Ext H H') : ∀ b o, Stay o → H b = some o → H' b = some o := fun b o _ h => e b _ h
theorem xd_t {H H' : Hp} (e : ExtT H H') : ∀ b o, Stay o → H b = some o → H' b = some o := fun b o st h => e b _ (.inl st.nt) h
theorem HasO.nxd {K : PySem.W.Frag} {G H : Hp} {p b : Addr} {o : OD} {ho : HO} (h : HasO K G H p o) (st : Stay ho) (e : H b = Option.some ho) : b ≠ p := fun z => by
  subst z
  cases o with
  | lst ds => obtain ⟨vs, k, _⟩ := h; rw [k] at e; cases e; exact st
  | dct ds => obtain ⟨vs, k, _⟩ := h; rw [k] at e; cases e; exact st
  | ins c gs => obtain ⟨_, _, vs, _, k, _⟩ := h; rw [k] at e; cases e; exact st
theorem tabs_ext {T : List (Addr × Str)} (e : Ext H H') (t : LamX.Tabs T H) : LamX.Tabs T H' := fun x hx => (t x hx).ext e
theorem ext_m (e : Ext H H') : ∀ b, H b ≠ none → H' b ≠ none := fun b h => by
  cases k : H b with
  | none => exact absurd k h
  | some o => rw [e b o k]; simp
theorem PG.of (g : Ext G G') (h : Ext H H') (i : Ext G' H') (n : ∀ b, G' b ≠ none → G b ≠ none ∨ H b = none) (nt : NoT G → NoT G') : PG G H G' H' := ⟨g, fun b o _ => h b o, i, n, ext_m h, nt, tabs_ext h⟩
theorem PG.refl (i : Ext G H) : PG G H G H := .of Ext.rfl' Ext.rfl' i (fun _ h => .inl h) id
theorem PG.trans (x : PG G H G1 H1) (y : PG G1 H1 G2 H2) : PG G H G2 H2 := ⟨x.g.trans y.g, fun b o ho e => y.h b o ho (x.h b o ho e), y.i, fun b hb => (y.n b hb).elim (x.n b) fun z => .inr (by
  cases e : H b with
  | none => rfl
  | some o => exact absurd z (x.m b (by rw [e]; simp))), fun b h => y.m b (x.m b h), fun h => y.nt (x.nt h), fun h => y.tb (x.tb h)⟩
theorem PG.grow (v : Iv K c G H) (x : PG G H G' H') : Grow T c G H c G' H' := ⟨x.g, fun b o _ ho e => x.h b o ho e, fun b h => (x.n b h).elim .inl fun z => .inr (.inl z), fun b h => .inl h, fun b _ hb => ⟨rfl, by
  cases q : c b with
  | none => exact absurd q hb
  | some o =>
    cases e : H b with
    | none => exact absurd e (v.ow b o q).2.some
    | some u => exact x.h b u (.inl ((v.ow b o q).2.ne e).1) e⟩, x.m⟩
theorem PG.iv (v : Iv K c G H) (x : PG G H G' H') : Iv K c G' H' := by
  refine ⟨x.i, fun p o e => ?_, x.nt v.nt, x.tb v.tb, TbC.zm v.z x.g (xd_t x.h)⟩
  obtain ⟨h1, h2⟩ := v.ow p o e
  refine ⟨Classical.byContradiction fun z => (x.n p z).elim (fun w => w h1) h2.some, h2.mono x.g fun hs => ?_⟩
  cases k : H p with
  | none => exact absurd k hs
  | some o => exact x.h _ _ (.inl (h2.ne k).1) k
theorem PG.new {p : Addr} {o : HO} (i : Ext G H) (hp : H p = none) (ho : ∀ ps, o ≠ HO.tbl ps := by intro _ z; cases z) : PG G H (upd G p o) (upd H p o) := by
  have gp : G p = none := by
    cases k : G p with
    | none => rfl
    | some u => rw [i p u k] at hp; cases hp
  refine .of (ext_upd gp) (ext_upd hp) (fun b u e => ?_) (fun b h => ?_) fun h b ps e => ?_
  · by_cases hb : b = p
    · subst hb; rw [upd_same] at e ⊢; exact e
    · rw [upd_ne hb] at e ⊢; exact i b u e
  · by_cases hb : b = p
    · subst hb; exact .inr hp
    · rw [upd_ne hb] at h; exact .inl h
  · by_cases hb : b = p
    · subst hb; rw [upd_same] at e; injection e with e; exact ho ps e
    · rw [upd_ne hb] at e; exact h b ps e
/-- a new thing in the heap that is not told -/
theorem PG.hid {p : Addr} {o : HO} (i : Ext G H) (hp : H p = none) : PG G H G (upd H p o) :=
  .of Ext.rfl' (ext_upd hp) (ext_upd' i hp) (fun b h => .inl h) id
/-- a thing of one's own changes -/
theorem own_set (v : Iv K c G H) {p : Addr} {o o' : OD} {ho : HO} (hT : T p) (hi : c p = some o) (hh : HasO K G (upd H p ho) p o') : Grow T c G H (c.put p o') G (upd H p ho) ∧ Iv K (c.put p o') G (upd H p ho) := by
  have gp := (v.ow p o hi).1
  refine ⟨⟨Ext.rfl', fun b u hc _ hb => ?_, fun b h => .inl h, fun b hb => .inl ?_, fun b ht _ => have ne : b ≠ p := fun z => ht (z ▸ hT); ⟨Ow.put_ne ne, upd_ne ne⟩, fun b hb => ?_⟩, fun b u e => ?_, fun b u e => ?_, v.nt, tabs_keep v.tb fun b u e k => ?_, TbC.zm v.z Ext.rfl' fun b u st e => by rw [upd_ne ((v.ow p o hi).2.nxd st e)]; exact e⟩
  · rw [upd_ne (by intro z; subst z; rw [hi] at hc; cases hc)]; exact hb
  · by_cases e : b = p
    · subst e; rw [hi]; simp
    · rwa [Ow.put_ne e] at hb
  · by_cases e : b = p
    · subst e; rw [upd_same]; simp
    · rw [upd_ne e]; exact hb
  · rw [upd_ne (by intro z; subst z; rw [gp] at e; cases e)]; exact v.i b u e
  · by_cases z : b = p
    · subst z; rw [Ow.put_same] at e; cases e; exact ⟨gp, hh⟩
    · rw [Ow.put_ne z] at e
      obtain ⟨q1, q2⟩ := v.ow b u e
      exact ⟨q1, q2.mono Ext.rfl' fun _ => upd_ne z⟩
  · by_cases z : b = p
    · subst z
      obtain ⟨n1, n2⟩ := (v.ow b o hi).2.ne e
      rcases k with ⟨ps, k⟩ | ⟨q, k⟩
      · exact absurd k (n1 ps)
      · exact absurd k (n2 q)
    · rw [upd_ne z]; exact e
/-- a new thing of one's own -/
theorem own_new (v : Iv K c G H) {p : Addr} {o : OD} {ho : HO} (hp : H p = none) (hh : HasO K G (upd H p ho) p o) : Grow T c G H (c.put p o) G (upd H p ho) ∧ Iv K (c.put p o) G (upd H p ho) := by
  have gp := v.gnone hp
  refine ⟨⟨Ext.rfl', fun b u _ _ hb => by rw [upd_ne (ne_of_none hb hp)]; exact hb, fun b h => .inl h, fun b hb => ?_, fun b _ hb => have ne : b ≠ p := fun z => hb (by rw [z]; exact v.free hp); ⟨Ow.put_ne ne, upd_ne ne⟩, fun b hb => ?_⟩, ext_upd' v.i hp, fun b u e => ?_, v.nt, tabs_ext (ext_upd hp) v.tb, TbC.zm v.z Ext.rfl' (xd_ext (ext_upd hp))⟩
  · by_cases e : b = p
    · subst e; exact .inr hp
    · rw [Ow.put_ne e] at hb; exact .inl hb
  · by_cases e : b = p
    · subst e; rw [upd_same]; simp
    · rw [upd_ne e]; exact hb
  · by_cases z : b = p
    · subst z; rw [Ow.put_same] at e; cases e; exact ⟨gp, hh⟩
    · rw [Ow.put_ne z] at e
      obtain ⟨q1, q2⟩ := v.ow b u e
      exact ⟨q1, q2.mono Ext.rfl' fun _ => upd_ne z⟩
/-- .. and is told from now on -/
theorem own_told (v : Iv K c G H) {p : Addr} {o : OD} {ho : HO} (hT : T p) (hi : c p = some o) (hp : H p = some ho) : Grow T c G H (c.del p) (upd G p ho) H ∧ Iv K (c.del p) (upd G p ho) H := by
  have gp := (v.ow p o hi).1
  refine ⟨⟨ext_upd gp, fun b u _ _ hb => hb, fun b h => ?_, fun b hb => .inl ?_, fun b ht _ => ⟨Ow.del_ne fun z => ht (z ▸ hT), rfl⟩, fun b hb => hb⟩, fun b u e => ?_, fun b u e => ?_, fun b ps e => ?_, v.tb, TbC.zm v.z (ext_upd gp) fun _ _ _ e => e⟩
  · by_cases e : b = p
    · subst e; exact .inr (.inr hT)
    · rw [upd_ne e] at h; exact .inl h
  · by_cases e : b = p
    · subst e; rw [hi]; simp
    · rwa [Ow.del_ne e] at hb
  · by_cases e' : b = p
    · subst e'; rw [upd_same] at e; cases e; exact hp
    · rw [upd_ne e'] at e; exact v.i b u e
  · by_cases z : b = p
    · subst z; rw [Ow.del_same] at e; cases e
    · rw [Ow.del_ne z] at e
      obtain ⟨q1, q2⟩ := v.ow b u e
      exact ⟨by rw [upd_ne z]; exact q1, q2.mono (ext_upd gp) fun _ => rfl⟩
  · by_cases z : b = p
    · subst z
      rw [upd_same] at e
      injection e with e
      exact ((v.ow b o hi).2.ne hp).1 ps e
    · rw [upd_ne z] at e; exact v.nt b ps e
end
end DF

set_option linter.all false
set_option maxRecDepth 100000
set_option maxHeartbeats 4000000
namespace DF
open PySem L2
variable [TbC]

/-! ### defs as functions -/
inductive Sl where
  | no | val (d : D) | own (k : Nat) (o : OD) | exc
abbrev EnvF := List Sl
inductive Vr where
  | val (d : D) | slot (i : Nat) | own (o : OD)
inductive Rt (α : Type) where
  | ok (v : α) (Γ : EnvF) | ex (c f : Str) (d : D) (Γ : EnvF)
abbrev FM (α : Type) := EnvF → Option (Rt α)
def FM.pure {α : Type} (v : α) : FM α := fun Γ => some (.ok v Γ)
def FM.bind {α β : Type} (x : FM α) (k : α → FM β) : FM β := fun Γ => match x Γ with
  | some (.ok v Γ') => k v Γ'
  | some (.ex c f d Γ') => some (.ex c f d Γ')
  | none => none
inductive Fl where
  | nx | rt (v : Vr) | bk | ct
abbrev FE := FM Vr
abbrev FA := FM (List Vr)
abbrev FT := FM Bool
abbrev FO := FM (Option Int)
abbrev FS := FM Fl

/-! ### the state -/
inductive EnvR (K : PySem.W.Frag) (G : Hp) (P : List Addr) : L2.St → EnvF → List (Addr × OD) → Prop
  | nil : EnvR K G P [] [] []
  | no {o : Option V} {σ : L2.St} {Γ : EnvF} {L : List (Addr × OD)} : EnvR K G P σ Γ L → EnvR K G P (o :: σ) (.no :: Γ) L
  | exc {σ : L2.St} {Γ : EnvF} {L : List (Addr × OD)} : EnvR K G P σ Γ L → EnvR K G P (some (.ref TbC.xa) :: σ) (.exc :: Γ) L
  | val {v : V} {d : D} {σ : L2.St} {Γ : EnvF} {L : List (Addr × OD)} : At K G v d → EnvR K G P σ Γ L → EnvR K G P (some v :: σ) (.val d :: Γ) L
  | own {p : Addr} {k : Nat} {o : OD} {σ : L2.St} {Γ : EnvF} {L : List (Addr × OD)} : (k = 0 ∧ p ∉ P ∨ ∃ j, k = j + 1 ∧ P[j]? = some p) → EnvR K G P σ Γ L → EnvR K G P (some (.ref p) :: σ) (.own k o :: Γ) ((p, o) :: L)
abbrev TL (L : List (Addr × OD)) : Addr → Prop := fun b => b ∈ L.map (·.1)
structure Sta (K : PySem.W.Frag) (P : List Addr) (c : Ow) (G H : Hp) (σ : L2.St) (Γ : EnvF) (L : List (Addr × OD)) : Prop where
  r : EnvR K G P σ Γ L
  nd : (L.map (·.1)).Nodup
  ow : ∀ e ∈ L, c e.1 = some e.2
  iv : Iv K c G H
  pa : ∀ p ∈ P, H p ≠ none
section
variable {K : PySem.W.Frag} {G G' H H' H0 H1 : Hp} {P : List Addr} {σ σ' : L2.St} {Γ Γ' : EnvF} {L L' : List (Addr × OD)} {c c' : Ow} {W : WX}
theorem EnvR.mono (e : Ext G G') : ∀ {σ : L2.St} {Γ : EnvF} {L : List (Addr × OD)}, EnvR K G P σ Γ L → EnvR K G' P σ Γ L
  | _, _, _, .nil => .nil
  | _, _, _, .no l => .no (EnvR.mono e l)
  | _, _, _, .exc l => .exc (EnvR.mono e l)
  | _, _, _, .val a l => .val (a.mono e) (EnvR.mono e l)
  | _, _, _, .own a l => .own a (EnvR.mono e l)
theorem EnvR.get : ∀ {σ : L2.St} {Γ : EnvF} {L : List (Addr × OD)}, EnvR K G P σ Γ L → ∀ {i : Nat} {d : D}, Γ[i]? = some (.val d) → ∃ v, σ[i]? = some (some v) ∧ At K G v d
  | _, _, _, .nil, i, d, e => by simp at e
  | _, _, _, .no l, 0, d, e => by simp at e
  | _, _, _, .exc l, 0, d, e => by simp at e
  | _, _, _, .no l, i + 1, d, e => by simpa using EnvR.get l (i := i) (d := d) (by simpa using e)
  | _, _, _, .exc l, i + 1, d, e => by simpa using EnvR.get l (i := i) (d := d) (by simpa using e)
  | _, _, _, .val a l, 0, d, e => by simp at e; subst e; exact ⟨_, by simp, a⟩
  | _, _, _, .val a l, i + 1, d, e => by simpa using EnvR.get l (i := i) (d := d) (by simpa using e)
  | _, _, _, .own a l, 0, d, e => by simp at e
  | _, _, _, .own a l, i + 1, d, e => by simpa using EnvR.get l (i := i) (d := d) (by simpa using e)
theorem EnvR.getO : ∀ {σ : L2.St} {Γ : EnvF} {L : List (Addr × OD)}, EnvR K G P σ Γ L → ∀ {i k : Nat} {o : OD}, Γ[i]? = some (.own k o) → ∃ p, σ[i]? = some (some (.ref p)) ∧ (p, o) ∈ L ∧ (k = 0 ∧ p ∉ P ∨ ∃ j, k = j + 1 ∧ P[j]? = some p)
  | _, _, _, .nil, i, k, d, e => by simp at e
  | _, _, _, .no l, 0, k, d, e => by simp at e
  | _, _, _, .exc l, 0, k, d, e => by simp at e
  | _, _, _, .no l, i + 1, k, d, e => by simpa using EnvR.getO l (i := i) (k := k) (o := d) (by simpa using e)
  | _, _, _, .exc l, i + 1, k, d, e => by simpa using EnvR.getO l (i := i) (k := k) (o := d) (by simpa using e)
  | _, _, _, .val a l, 0, k, d, e => by simp at e
  | _, _, _, .val a l, i + 1, k, d, e => by simpa using EnvR.getO l (i := i) (k := k) (o := d) (by simpa using e)
  | _, _, _, .own a l, 0, k, d, e => by simp at e; obtain ⟨e1, e2⟩ := e; subst e1 e2; exact ⟨_, by simp, by simp, a⟩
  | _, _, _, .own a l, i + 1, k, d, e => by
    obtain ⟨p, h1, h2, h3⟩ := EnvR.getO l (i := i) (k := k) (o := d) (by simpa using e)
    exact ⟨p, by simpa using h1, List.mem_cons_of_mem _ h2, h3⟩
theorem EnvR.getX : ∀ {σ : L2.St} {Γ : EnvF} {L : List (Addr × OD)}, EnvR K G P σ Γ L → ∀ {i : Nat}, Γ[i]? = some .exc → σ[i]? = some (some (.ref TbC.xa))
  | _, _, _, .nil, i, e => by simp at e
  | _, _, _, .no l, 0, e => by simp at e
  | _, _, _, .no l, i + 1, e => by simpa using EnvR.getX l (i := i) (by simpa using e)
  | _, _, _, .exc l, 0, e => by simp
  | _, _, _, .exc l, i + 1, e => by simpa using EnvR.getX l (i := i) (by simpa using e)
  | _, _, _, .val a l, 0, e => by simp at e
  | _, _, _, .val a l, i + 1, e => by simpa using EnvR.getX l (i := i) (by simpa using e)
  | _, _, _, .own a l, 0, e => by simp at e
  | _, _, _, .own a l, i + 1, e => by simpa using EnvR.getX l (i := i) (by simpa using e)
theorem EnvR.length : ∀ {σ : L2.St} {Γ : EnvF} {L : List (Addr × OD)}, EnvR K G P σ Γ L → σ.length = Γ.length
  | _, _, _, .nil => rfl
  | _, _, _, .no l => congrArg (· + 1) (EnvR.length l)
  | _, _, _, .exc l => congrArg (· + 1) (EnvR.length l)
  | _, _, _, .val a l => congrArg (· + 1) (EnvR.length l)
  | _, _, _, .own a l => congrArg (· + 1) (EnvR.length l)
/-- a slot is put anew: a value -/
theorem EnvR.setVal : ∀ {σ : L2.St} {Γ : EnvF} {L : List (Addr × OD)}, EnvR K G P σ Γ L → ∀ (i : Nat) {v : V} {d : D}, At K G v d → ∃ L', EnvR K G P (σ.set i (some v)) (Γ.set i (.val d)) L' ∧ L'.Sublist L
  | _, _, _, .nil, i, v, d, a => ⟨_, .nil, List.Sublist.refl _⟩
  | _, _, _, .no l, 0, v, d, a => ⟨_, .val a l, List.Sublist.refl _⟩
  | _, _, _, .exc l, 0, v, d, a => ⟨_, .val a l, List.Sublist.refl _⟩
  | _, _, _, .val b l, 0, v, d, a => ⟨_, .val a l, List.Sublist.refl _⟩
  | _, _, _, .own b l, 0, v, d, a => ⟨_, .val a l, List.sublist_cons_self _ _⟩
  | _, _, _, .no l, i + 1, v, d, a => by obtain ⟨L', h1, h2⟩ := EnvR.setVal l i a; exact ⟨L', .no h1, h2⟩
  | _, _, _, .exc l, i + 1, v, d, a => by obtain ⟨L', h1, h2⟩ := EnvR.setVal l i a; exact ⟨L', .exc h1, h2⟩
  | _, _, _, .val b l, i + 1, v, d, a => by obtain ⟨L', h1, h2⟩ := EnvR.setVal l i a; exact ⟨L', .val b h1, h2⟩
  | _, _, _, .own b l, i + 1, v, d, a => by obtain ⟨L', h1, h2⟩ := EnvR.setVal l i a; exact ⟨_, .own b h1, h2.cons₂ _⟩
theorem EnvR.setNo : ∀ {σ : L2.St} {Γ : EnvF} {L : List (Addr × OD)}, EnvR K G P σ Γ L → ∀ (i : Nat) (o : Option V), ∃ L', EnvR K G P (σ.set i o) (Γ.set i .no) L' ∧ L'.Sublist L
  | _, _, _, .nil, i, o => ⟨_, .nil, List.Sublist.refl _⟩
  | _, _, _, .no l, 0, o => ⟨_, .no l, List.Sublist.refl _⟩
  | _, _, _, .exc l, 0, o => ⟨_, .no l, List.Sublist.refl _⟩
  | _, _, _, .val b l, 0, o => ⟨_, .no l, List.Sublist.refl _⟩
  | _, _, _, .own b l, 0, o => ⟨_, .no l, List.sublist_cons_self _ _⟩
  | _, _, _, .no l, i + 1, o => by obtain ⟨L', h1, h2⟩ := EnvR.setNo l i o; exact ⟨L', .no h1, h2⟩
  | _, _, _, .exc l, i + 1, o => by obtain ⟨L', h1, h2⟩ := EnvR.setNo l i o; exact ⟨L', .exc h1, h2⟩
  | _, _, _, .val b l, i + 1, o => by obtain ⟨L', h1, h2⟩ := EnvR.setNo l i o; exact ⟨L', .val b h1, h2⟩
  | _, _, _, .own b l, i + 1, o => by obtain ⟨L', h1, h2⟩ := EnvR.setNo l i o; exact ⟨_, .own b h1, h2.cons₂ _⟩
theorem EnvR.setX : ∀ {σ : L2.St} {Γ : EnvF} {L : List (Addr × OD)}, EnvR K G P σ Γ L → ∀ (i : Nat), ∃ L', EnvR K G P (σ.set i (some (.ref TbC.xa))) (Γ.set i .exc) L' ∧ L'.Sublist L
  | _, _, _, .nil, i => ⟨_, .nil, List.Sublist.refl _⟩
  | _, _, _, .no l, 0 => ⟨_, .exc l, List.Sublist.refl _⟩
  | _, _, _, .exc l, 0 => ⟨_, .exc l, List.Sublist.refl _⟩
  | _, _, _, .val b l, 0 => ⟨_, .exc l, List.Sublist.refl _⟩
  | _, _, _, .own b l, 0 => ⟨_, .exc l, List.sublist_cons_self _ _⟩
  | _, _, _, .no l, i + 1 => by obtain ⟨L', h1, h2⟩ := EnvR.setX l i; exact ⟨L', .no h1, h2⟩
  | _, _, _, .exc l, i + 1 => by obtain ⟨L', h1, h2⟩ := EnvR.setX l i; exact ⟨L', .exc h1, h2⟩
  | _, _, _, .val b l, i + 1 => by obtain ⟨L', h1, h2⟩ := EnvR.setX l i; exact ⟨L', .val b h1, h2⟩
  | _, _, _, .own b l, i + 1 => by obtain ⟨L', h1, h2⟩ := EnvR.setX l i; exact ⟨_, .own b h1, h2.cons₂ _⟩
/-- .. a thing of one's own -/
theorem EnvR.setOwn {p : Addr} {o : OD} (np : p ∉ P) : ∀ {σ : L2.St} {Γ : EnvF} {L : List (Addr × OD)}, EnvR K G P σ Γ L → (L.map (·.1)).Nodup → p ∉ L.map (·.1) → ∀ (i : Nat), ∃ L', EnvR K G P (σ.set i (some (.ref p))) (Γ.set i (.own 0 o)) L' ∧ (L'.map (·.1)).Nodup ∧ ∀ e ∈ L', e = (p, o) ∨ e ∈ L
  | _, _, _, .nil, nd, h, i => ⟨_, .nil, nd, fun e he => .inr he⟩
  | _, _, _, .no l, nd, h, 0 => ⟨_, .own (.inl ⟨rfl, np⟩) l, by rw [List.map_cons, List.nodup_cons]; exact ⟨h, nd⟩, fun e he => (List.mem_cons.mp he)⟩
  | _, _, _, .exc l, nd, h, 0 => ⟨_, .own (.inl ⟨rfl, np⟩) l, by rw [List.map_cons, List.nodup_cons]; exact ⟨h, nd⟩, fun e he => (List.mem_cons.mp he)⟩
  | _, _, _, .val b l, nd, h, 0 => ⟨_, .own (.inl ⟨rfl, np⟩) l, by rw [List.map_cons, List.nodup_cons]; exact ⟨h, nd⟩, fun e he => (List.mem_cons.mp he)⟩
  | _, _, _, .own b l, nd, h, 0 => by
    rw [List.map_cons, List.nodup_cons] at nd
    refine ⟨_, .own (.inl ⟨rfl, np⟩) l, by rw [List.map_cons, List.nodup_cons]; exact ⟨fun z => h (List.mem_cons_of_mem _ z), nd.2⟩, fun e he => (List.mem_cons.mp he).imp id fun z => List.mem_cons_of_mem _ z⟩
  | _, _, _, .no l, nd, h, i + 1 => by obtain ⟨L', h1, h2⟩ := EnvR.setOwn np l nd h i; exact ⟨L', .no h1, h2⟩
  | _, _, _, .exc l, nd, h, i + 1 => by obtain ⟨L', h1, h2⟩ := EnvR.setOwn np l nd h i; exact ⟨L', .exc h1, h2⟩
  | _, _, _, .val b l, nd, h, i + 1 => by obtain ⟨L', h1, h2⟩ := EnvR.setOwn np l nd h i; exact ⟨L', .val b h1, h2⟩
  | _, _, _, @EnvR.own _ _ _ _ p0 k0 o0 _ _ L0 b l, nd, h, i + 1 => by
    rw [List.map_cons, List.nodup_cons] at nd
    obtain ⟨L', h1, h2, h3⟩ := EnvR.setOwn np l nd.2 (fun z => h (List.mem_cons_of_mem _ z)) i
    refine ⟨_, .own b h1, ?_, fun e he => ?_⟩
    · rw [List.map_cons, List.nodup_cons]
      refine ⟨fun z => ?_, h2⟩
      obtain ⟨e, he, e1⟩ := List.mem_map.mp z
      rcases h3 e he with q | q
      · rw [q] at e1; exact h (by rw [List.map_cons, ← e1]; exact List.mem_cons_self)
      · exact nd.1 (e1 ▸ List.mem_map.mpr ⟨e, q, rfl⟩)
    · rcases List.mem_cons.mp he with q | q
      · exact .inr (q ▸ List.mem_cons_self)
      · exact (h3 e q).imp id fun z => List.mem_cons_of_mem _ z
/-- .. its content changes -/
theorem EnvR.updOwn {o o' : OD} {k : Nat} : ∀ {σ : L2.St} {Γ : EnvF} {L : List (Addr × OD)}, EnvR K G P σ Γ L → (L.map (·.1)).Nodup → ∀ {i : Nat}, Γ[i]? = some (.own k o) → ∃ p L', σ[i]? = some (some (.ref p)) ∧ (p, o) ∈ L ∧ EnvR K G P σ (Γ.set i (.own k o')) L' ∧ L'.map (·.1) = L.map (·.1) ∧ ∀ e ∈ L', e = (p, o') ∨ e ∈ L ∧ e.1 ≠ p
  | _, _, _, .nil, nd, i, e => by simp at e
  | _, _, _, .no l, nd, 0, e => by simp at e
  | _, _, _, .exc l, nd, 0, e => by simp at e
  | _, _, _, .val b l, nd, 0, e => by simp at e
  | _, _, _, .own b l, nd, 0, e => by
    simp at e; obtain ⟨e1, e2⟩ := e; subst e1 e2
    rw [List.map_cons, List.nodup_cons] at nd
    refine ⟨_, _, by simp, by simp, .own b l, rfl, fun e he => (List.mem_cons.mp he).imp id fun z => ⟨List.mem_cons_of_mem _ z, fun q => nd.1 ?_⟩⟩
    rw [← q]; exact List.mem_map.mpr ⟨e, z, rfl⟩
  | _, _, _, .no l, nd, i + 1, e => by
    obtain ⟨p, L', h1, h2, h3, h4, h5⟩ := EnvR.updOwn l nd (i := i) (by simpa using e)
    exact ⟨p, L', by simpa using h1, h2, .no h3, h4, h5⟩
  | _, _, _, .exc l, nd, i + 1, e => by
    obtain ⟨p, L', h1, h2, h3, h4, h5⟩ := EnvR.updOwn l nd (i := i) (by simpa using e)
    exact ⟨p, L', by simpa using h1, h2, .exc h3, h4, h5⟩
  | _, _, _, .val b l, nd, i + 1, e => by
    obtain ⟨p, L', h1, h2, h3, h4, h5⟩ := EnvR.updOwn l nd (i := i) (by simpa using e)
    exact ⟨p, L', by simpa using h1, h2, .val b h3, h4, h5⟩
  | _, _, _, @EnvR.own _ _ _ _ p0 k0 o0 _ _ L0 b l, nd, i + 1, e => by
    rw [List.map_cons, List.nodup_cons] at nd
    obtain ⟨p, L', h1, h2, h3, h4, h5⟩ := EnvR.updOwn l nd.2 (i := i) (by simpa using e)
    refine ⟨p, _, by simpa using h1, List.mem_cons_of_mem _ h2, .own b h3, by rw [List.map_cons, List.map_cons, h4], fun e he => ?_⟩
    rcases List.mem_cons.mp he with q | q
    · refine .inr ⟨q ▸ List.mem_cons_self, fun z => nd.1 ?_⟩
      rw [q] at z
      have z : p0 = p := z
      exact z ▸ List.mem_map.mpr ⟨_, h2, rfl⟩
    · exact (h5 e q).imp id fun z => ⟨List.mem_cons_of_mem _ z.1, z.2⟩
/-- .. or is seen as a value -/
theorem EnvR.see {o : OD} {k : Nat} {d : D} : ∀ {σ : L2.St} {Γ : EnvF} {L : List (Addr × OD)}, EnvR K G P σ Γ L → (L.map (·.1)).Nodup → ∀ {i : Nat} {p : Addr}, Γ[i]? = some (.own k o) → σ[i]? = some (some (.ref p)) → At K G (.ref p) d → ∃ L', EnvR K G P σ (Γ.set i (.val d)) L' ∧ L'.Sublist L ∧ p ∉ L'.map (·.1)
  | _, _, _, .nil, nd, i, p, e, _, _ => by simp at e
  | _, _, _, .no l, nd, 0, p, e, _, _ => by simp at e
  | _, _, _, .exc l, nd, 0, p, e, _, _ => by simp at e
  | _, _, _, .val b l, nd, 0, p, e, _, _ => by simp at e
  | _, _, _, .own b l, nd, 0, p, e, e', t => by
    simp at e e'; subst e'
    rw [List.map_cons, List.nodup_cons] at nd
    exact ⟨_, .val t l, List.sublist_cons_self _ _, nd.1⟩
  | _, _, _, .no l, nd, i + 1, p, e, e', t => by
    obtain ⟨L', h1, h2, h3⟩ := EnvR.see l nd (i := i) (p := p) (by simpa using e) (by simpa using e') t
    exact ⟨L', .no h1, h2, h3⟩
  | _, _, _, .exc l, nd, i + 1, p, e, e', t => by
    obtain ⟨L', h1, h2, h3⟩ := EnvR.see l nd (i := i) (p := p) (by simpa using e) (by simpa using e') t
    exact ⟨L', .exc h1, h2, h3⟩
  | _, _, _, .val b l, nd, i + 1, p, e, e', t => by
    obtain ⟨L', h1, h2, h3⟩ := EnvR.see l nd (i := i) (p := p) (by simpa using e) (by simpa using e') t
    exact ⟨L', .val b h1, h2, h3⟩
  | _, _, _, @EnvR.own _ _ _ _ p0 k0 o0 _ _ L0 b l, nd, i + 1, p, e, e', t => by
    rw [List.map_cons, List.nodup_cons] at nd
    obtain ⟨L', h1, h2, h3⟩ := EnvR.see l nd.2 (i := i) (p := p) (by simpa using e) (by simpa using e') t
    refine ⟨_, .own b h1, h2.cons₂ _, ?_⟩
    rw [List.map_cons]
    intro z
    rcases List.mem_cons.mp z with z | z
    · obtain ⟨p', h4, h5, _⟩ := EnvR.getO l (i := i) (by simpa using e)
      have : p' = p := by
        rw [List.getElem?_cons_succ, h4] at e'
        injection e' with e'; injection e' with e'; injection e'
      subst this
      exact nd.1 (z ▸ List.mem_map.mpr ⟨_, h5, rfl⟩)
    · exact h3 z

/-! ### what is told of results -/
structure Rel (α β : Type) where
  r : PySem.W.Frag → L2.St → List (Addr × OD) → Ow → Hp → Hp → β → α → Prop
  mono : ∀ {K : PySem.W.Frag} {σ : L2.St} {L L' : List (Addr × OD)} {c c' : Ow} {G G' H0 H1 H2 : Hp} {b : β} {v : α}, Grow (TL L) c G H1 c' G' H2 → L'.map (·.1) = L.map (·.1) → r K σ L c G H0 b v → r K σ L' c' G' H0 b v
  back : ∀ {K : PySem.W.Frag} {σ : L2.St} {L : List (Addr × OD)} {c : Ow} {G H0 H1 : Hp} {b : β} {v : α}, (∀ a, H0 a ≠ none → H1 a ≠ none) → r K σ L c G H1 b v → r K σ L c G H0 b v
def VrAt (K : PySem.W.Frag) (σ : L2.St) (L : List (Addr × OD)) (c : Ow) (G H0 : Hp) (u : V) : Vr → Prop
  | .val d => At K G u d
  | .slot i => σ[i]? = some (some u)
  | .own o => ∃ p, u = .ref p ∧ c p = some o ∧ p ∉ L.map (·.1) ∧ H0 p = none
theorem VrAt.mono {H2 : Hp} {u : V} {v : Vr} (g : Grow (TL L) c G H1 c' G' H2) (e : L'.map (·.1) = L.map (·.1)) (h : VrAt K σ L c G H0 u v) : VrAt K σ L' c' G' H0 u v := by
  cases v with
  | val d => exact At.mono g.g h
  | slot i => exact h
  | own o =>
    obtain ⟨p, h1, h2, h3, h4⟩ := h
    exact ⟨p, h1, by rw [(g.f p h3 (by rw [h2]; simp)).1, h2], by rw [e]; exact h3, h4⟩
theorem VrAt.back {u : V} {v : Vr} (n : ∀ a, H0 a ≠ none → H1 a ≠ none) (h : VrAt K σ L c G H1 u v) : VrAt K σ L c G H0 u v := by
  cases v with
  | val d => exact h
  | slot i => exact h
  | own o =>
    obtain ⟨p, h1, h2, h3, h4⟩ := h
    exact ⟨p, h1, h2, h3, Classical.byContradiction fun z => n p z h4⟩
def vrR : Rel Vr V := ⟨VrAt, fun g e h => h.mono g e, fun n h => h.back n⟩
inductive VrAll (K : PySem.W.Frag) (σ : L2.St) (L : List (Addr × OD)) (c : Ow) (G H0 : Hp) : List V → List Vr → Prop
  | nil : VrAll K σ L c G H0 [] []
  | cons {u : V} {v : Vr} {us : List V} {vs : List Vr} : VrAt K σ L c G H0 u v → VrAll K σ L c G H0 us vs → VrAll K σ L c G H0 (u :: us) (v :: vs)
theorem VrAll.mono {H2 : Hp} (g : Grow (TL L) c G H1 c' G' H2) (e : L'.map (·.1) = L.map (·.1)) : ∀ {us : List V} {vs : List Vr}, VrAll K σ L c G H0 us vs → VrAll K σ L' c' G' H0 us vs
  | _, _, .nil => .nil
  | _, _, .cons a l => .cons (a.mono g e) (VrAll.mono g e l)
theorem VrAll.back (n : ∀ a, H0 a ≠ none → H1 a ≠ none) : ∀ {us : List V} {vs : List Vr}, VrAll K σ L c G H1 us vs → VrAll K σ L c G H0 us vs
  | _, _, .nil => .nil
  | _, _, .cons a l => .cons (a.back n) (VrAll.back n l)
def arR : Rel (List Vr) (List V) := ⟨VrAll, fun g e h => h.mono g e, fun n h => h.back n⟩
def eqR (α : Type) : Rel α α := ⟨fun _ _ _ _ _ _ b v => b = v, fun _ _ h => h, fun _ h => h⟩

/-! ### a reading and its function -/
/-- what is to be shown for an exception -/
def PostX (K : PySem.W.Frag) (P : List Addr) (W : WX) (c : Ow) (G H : Hp) (L : List (Addr × OD)) (cn f : Str) (d : D) (Γ' : EnvF) : Prop := ∀ C dd fv σ' c' G' H' L', Grow (TL L) c G H c' G' H' → Sta K P c' G' H' σ' Γ' L' → (∀ e ∈ L', TL L e.1 ∨ H e.1 = none) → CT K cn C → H' dd = some (.xd [(f, fv)]) → At K G' fv d → W (.ref C) (some dd) σ' H'
def PostE {α β : Type} (R : Rel α β) (K : PySem.W.Frag) (P : List Addr) (W : WX) (σ : L2.St) (c : Ow) (G H : Hp) (L : List (Addr × OD)) (Q : β → Hp → Prop) : Rt α → Prop
   | .ok v Γ' => ∀ b c' G' H' L', Grow (TL L) c G H c' G' H' → Sta K P c' G' H' σ Γ' L' → L'.map (·.1) = L.map (·.1) → R.r K σ L' c' G' H b v → Q b H'
   | .ex cn f d Γ' => PostX K P W c G H L cn f d Γ'
def Run {α β : Type} (R : Rel α β) (K : PySem.W.Frag) (P : List Addr) (W : WX) (σ : L2.St) (c : Ow) (G H : Hp) (L : List (Addr × OD)) (t : (β → Hp → Prop) → Prop) (o : Option (Rt α)) : Prop := ∀ r, o = some r → ∀ Q : β → Hp → Prop, PostE R K P W σ c G H L Q r → t Q
theorem FM.bind_some {α β : Type} {x : FM α} {k : α → FM β} {Γ : EnvF} {r : Rt β} (e : FM.bind x k Γ = some r) : (∃ v Γ1, x Γ = some (.ok v Γ1) ∧ k v Γ1 = some r) ∨ ∃ c f d Γ1, x Γ = some (.ex c f d Γ1) ∧ r = .ex c f d Γ1 := by
  unfold FM.bind at e
  cases ex : x Γ with
  | none => rw [ex] at e; cases e
  | some r0 =>
    rw [ex] at e
    cases r0 with
    | ok v Γ1 => exact .inl ⟨v, Γ1, rfl, e⟩
    | ex c f d Γ1 => cases e; exact .inr ⟨c, f, d, Γ1, rfl, rfl⟩
theorem Sta.tl {e : L'.map (·.1) = L.map (·.1)} : ∀ b, TL L' b → TL L b := fun b h => by unfold TL at h ⊢; rwa [e] at h
theorem PostX.trans {c1 : Ow} {G1 : Hp} {L1 : List (Addr × OD)} {cn f : Str} {d : D} (v : Iv K c G H) (g : Grow (TL L) c G H c1 G1 H1) (e : ∀ x ∈ L1, TL L x.1 ∨ H x.1 = none) (h : PostX K P W c G H L cn f d Γ') : PostX K P W c1 G1 H1 L1 cn f d Γ' := by
  have e' : ∀ b, TL L1 b → TL L b ∨ H b = none := fun b hb => by
    obtain ⟨x, hx, ex⟩ := List.mem_map.mp hb
    exact ex ▸ e x hx
  intro C dd fv σ' c' G' H' L' g' s' n' ct hd t
  refine h C dd fv σ' c' G' H' L' (g.trans' v g' (fun _ z => z) e') s' (fun x hx => ?_) ct hd t
  rcases n' x hx with z | z
  · exact e' _ z
  · refine .inr ?_
    cases q : H x.1 with
    | none => rfl
    | some o => exact absurd z (g.n _ (by rw [q]; simp))
theorem tl_of (e : L'.map (·.1) = L.map (·.1)) : ∀ x ∈ L', TL L x.1 ∨ H x.1 = none := fun x hx => .inl (by unfold TL; rw [← e]; exact List.mem_map.mpr ⟨x, hx, rfl⟩)
end
end DF
namespace DF
open PySem L2
variable [TbC]
section
variable {K : PySem.W.Frag} {G G' H H' H0 H1 : Hp} {P : List Addr} {σ σ' : L2.St} {Γ Γ' : EnvF} {L L' : List (Addr × OD)} {c c' : Ow} {W : WX}
theorem Run.bind {α β α' β' : Type} {R : Rel α β} {R' : Rel α' β'} {t : (β → Hp → Prop) → Prop} {t2 : β → Hp → (β' → Hp → Prop) → Prop} {x : FM α} {k : α → FM α'} (iv : Iv K c G H)
    (h : Run R K P W σ c G H L t (x Γ))
    (hk : ∀ v Γ1 b c1 G1 H1 L1, Grow (TL L) c G H c1 G1 H1 → Sta K P c1 G1 H1 σ Γ1 L1 → L1.map (·.1) = L.map (·.1) → R.r K σ L1 c1 G1 H b v → Run R' K P W σ c1 G1 H1 L1 (t2 b H1) (k v Γ1)) :
    Run R' K P W σ c G H L (fun Q => t fun b H1 => t2 b H1 Q) (FM.bind x k Γ) := by
  intro r e Q post
  unfold FM.bind at e
  cases ex : x Γ with
  | none => rw [ex] at e; cases e
  | some r0 =>
    rw [ex] at e
    refine h r0 ex _ ?_
    cases r0 with
    | ok v Γ1 =>
      intro b c1 G1 H1 L1 g1 s1 e1 r1
      refine hk v Γ1 b c1 G1 H1 L1 g1 s1 e1 r1 r e Q ?_
      cases r with
      | ok v' Γ' =>
        intro b' c' G' H' L' g' s' e' r'
        exact post b' c' G' H' L' (g1.trans' iv g' (fun _ z => z) fun b z => .inl (by unfold TL at z ⊢; rwa [e1] at z)) s' (e'.trans e1) (R'.back (fun a z => g1.n a z) r')
      | ex cn f d Γ' => exact PostX.trans iv g1 (tl_of e1) post
    | ex cn f d Γ1 =>
      cases e
      exact post
def SimX {α β : Type} (R : Rel α β) (K : PySem.W.Frag) (W : WX) (t : L2.St → Hp → (β → Hp → Prop) → Prop) (f : FM α) : Prop := ∀ P σ c G H Γ L, Sta K P c G H σ Γ L → Run R K P W σ c G H L (t σ H) (f Γ)
abbrev SimE := SimX (α := Vr) (β := V) vrR
abbrev SimA := SimX (α := List Vr) (β := List V) arR
abbrev SimT := SimX (α := Bool) (β := Bool) (eqR Bool)
abbrev SimO := SimX (α := Option Int) (β := Option Int) (eqR (Option Int))
/-- a result at once -/
theorem Run.now {α β : Type} {R : Rel α β} {v : α} {b : β} (s : Sta K P c G H σ Γ L) (h : R.r K σ L c G H b v) : Run R K P W σ c G H L (fun Q => Q b H) (some (.ok v Γ)) := by
  intro r e Q post
  cases e
  exact post b c G H L .refl s rfl h
theorem Sta.pg (s : Sta K P c G H σ Γ L) (g : PG G H G' H') : Sta K P c G' H' σ Γ L := ⟨s.r.mono g.g, s.nd, s.ow, g.iv s.iv, fun p hp => g.m p (s.pa p hp)⟩
/-- .. by pure growth -/
theorem Run.pure {d : D} {t : (V → Hp → Prop) → Prop} (s : Sta K P c G H σ Γ L) (h : ∀ Q : V → Hp → Prop, (∀ w G' H', PG G H G' H' → At K G' w d → Q w H') → t Q) : Run vrR K P W σ c G H L t (some (.ok (.val d) Γ)) := by
  intro r e Q post
  cases e
  exact h Q fun w G' H' g t => post w c G' H' L (g.grow s.iv) (s.pg g) rfl t

/-! statements -/
structure PostS (K : PySem.W.Frag) (P : List Addr) (W : WX) (c : Ow) (G H : Hp) (L : List (Addr × OD)) (r : Rt Fl) (Dn : Ends) : Prop where
  nx : ∀ Γ', r = .ok .nx Γ' → ∀ σ' c' G' H' L', Grow (TL L) c G H c' G' H' → Sta K P c' G' H' σ' Γ' L' → (∀ e ∈ L', TL L e.1 ∨ H e.1 = none) → Dn.nx σ' H'
  bk : ∀ Γ', r = .ok .bk Γ' → ∀ σ' c' G' H' L', Grow (TL L) c G H c' G' H' → Sta K P c' G' H' σ' Γ' L' → (∀ e ∈ L', TL L e.1 ∨ H e.1 = none) → Dn.bk σ' H'
  ct : ∀ Γ', r = .ok .ct Γ' → ∀ σ' c' G' H' L', Grow (TL L) c G H c' G' H' → Sta K P c' G' H' σ' Γ' L' → (∀ e ∈ L', TL L e.1 ∨ H e.1 = none) → Dn.ct σ' H'
  rt : ∀ v Γ', r = .ok (.rt v) Γ' → ∀ u σ' c' G' H' L', Grow (TL L) c G H c' G' H' → Sta K P c' G' H' σ' Γ' L' → (∀ e ∈ L', TL L e.1 ∨ H e.1 = none) → VrAt K σ' L' c' G' H u v → Dn.rt u H'
  ex : ∀ cn f d Γ', r = .ex cn f d Γ' → PostX K P W c G H L cn f d Γ'
def RunS (K : PySem.W.Frag) (P : List Addr) (W : WX) (c : Ow) (G H : Hp) (L : List (Addr × OD)) (t : Ends → Prop) (o : Option (Rt Fl)) : Prop := ∀ r, o = some r → ∀ Dn, PostS K P W c G H L r Dn → t Dn
def SimS (K : PySem.W.Frag) (W : WX) (t : TS) (f : FS) : Prop := ∀ P σ c G H Γ L, Sta K P c G H σ Γ L → RunS K P W c G H L (fun Dn => t Dn σ H) (f Γ)
theorem PostS.trans {c1 : Ow} {G1 : Hp} {L1 : List (Addr × OD)} {r : Rt Fl} {Dn : Ends} (v : Iv K c G H) (g : Grow (TL L) c G H c1 G1 H1) (e : ∀ x ∈ L1, TL L x.1 ∨ H x.1 = none) (h : PostS K P W c G H L r Dn) : PostS K P W c1 G1 H1 L1 r Dn := by
  have e' : ∀ b, TL L1 b → TL L b ∨ H b = none := fun b hb => by
    obtain ⟨x, hx, ex⟩ := List.mem_map.mp hb
    exact ex ▸ e x hx
  have n' : ∀ {L' : List (Addr × OD)}, (∀ x ∈ L', TL L1 x.1 ∨ H1 x.1 = none) → ∀ x ∈ L', TL L x.1 ∨ H x.1 = none := fun n x hx => by
    rcases n x hx with z | z
    · exact e' _ z
    · refine .inr ?_
      cases q : H x.1 with
      | none => rfl
      | some o => exact absurd z (g.n _ (by rw [q]; simp))
  exact ⟨fun Γ' er σ' c' G' H' L' g' s' n => h.nx Γ' er σ' c' G' H' L' (g.trans' v g' (fun _ z => z) e') s' (n' n),
   fun Γ' er σ' c' G' H' L' g' s' n => h.bk Γ' er σ' c' G' H' L' (g.trans' v g' (fun _ z => z) e') s' (n' n),
   fun Γ' er σ' c' G' H' L' g' s' n => h.ct Γ' er σ' c' G' H' L' (g.trans' v g' (fun _ z => z) e') s' (n' n),
   fun w Γ' er u σ' c' G' H' L' g' s' n t => h.rt w Γ' er u σ' c' G' H' L' (g.trans' v g' (fun _ z => z) e') s' (n' n) (t.back g.n),
   fun cn f d Γ' er => PostX.trans v g e (h.ex cn f d Γ' er)⟩
/-- a statement that evaluates first -/
theorem RunS.bind {α β : Type} {R : Rel α β} {t : (β → Hp → Prop) → Prop} {t2 : β → Hp → Ends → Prop} {x : FM α} {k : α → FS} (iv : Iv K c G H)
    (h : Run R K P W σ c G H L t (x Γ))
    (hk : ∀ v Γ1 b c1 G1 H1 L1, Grow (TL L) c G H c1 G1 H1 → Sta K P c1 G1 H1 σ Γ1 L1 → L1.map (·.1) = L.map (·.1) → R.r K σ L1 c1 G1 H b v → RunS K P W c1 G1 H1 L1 (t2 b H1) (k v Γ1)) :
    RunS K P W c G H L (fun Dn => t fun b H1 => t2 b H1 Dn) (FM.bind x k Γ) := by
  intro r e Dn post
  unfold FM.bind at e
  cases ex : x Γ with
  | none => rw [ex] at e; cases e
  | some r0 =>
    rw [ex] at e
    refine h r0 ex _ ?_
    cases r0 with
    | ok v Γ1 =>
      intro b c1 G1 H1 L1 g1 s1 e1 r1
      exact hk v Γ1 b c1 G1 H1 L1 g1 s1 e1 r1 r e Dn (post.trans iv g1 (tl_of e1))
    | ex cn f d Γ1 =>
      cases e
      exact post.ex cn f d Γ1 rfl
def fNx : FS := FM.pure .nx
def fSeq (a b : FS) : FS := FM.bind a fun | .nx => b | r => FM.pure r
theorem sim_next : SimS K W tNext fNx := by
  intro P σ c G H Γ L s r e Dn post
  cases e
  exact post.nx Γ rfl σ c G H L .refl s fun x hx => .inl (List.mem_map.mpr ⟨x, hx, rfl⟩)
theorem sim_seq {ta tb : TS} {fa fb : FS} (ha : SimS K W ta fa) (hb : SimS K W tb fb) : SimS K W (tSeq ta tb) (fSeq fa fb) := by
  intro P σ c G H Γ L s r e Dn post
  unfold fSeq FM.bind at e
  cases ex : fa Γ with
  | none => rw [ex] at e; cases e
  | some r0 =>
    rw [ex] at e
    refine ha P σ c G H Γ L s r0 ex _ ?_
    cases r0 with
    | ok v Γ1 =>
      cases v with
      | nx =>
        refine ⟨fun Γ' er σ' c' G' H' L' g' s' n' => ?_, fun _ er => (by cases er), fun _ er => (by cases er), fun _ _ er => (by cases er), fun _ _ _ _ er => (by cases er)⟩
        cases er
        exact hb P σ' c' G' H' _ L' s' r e Dn (post.trans s.iv g' n')
      | rt v => cases e; exact ⟨fun _ er => (by cases er), fun _ er => (by cases er), fun _ er => (by cases er), post.rt, fun _ _ _ _ er => (by cases er)⟩
      | bk => cases e; exact ⟨fun _ er => (by cases er), post.bk, fun _ er => (by cases er), fun _ _ er => (by cases er), fun _ _ _ _ er => (by cases er)⟩
      | ct => cases e; exact ⟨fun _ er => (by cases er), fun _ er => (by cases er), post.ct, fun _ _ er => (by cases er), fun _ _ _ _ er => (by cases er)⟩
    | ex cn f d Γ1 => cases e; exact ⟨fun _ er => (by cases er), fun _ er => (by cases er), fun _ er => (by cases er), fun _ _ er => (by cases er), post.ex⟩
end
end DF

set_option linter.all false
set_option maxRecDepth 100000
set_option maxHeartbeats 4000000
namespace DF
open PySem L2
variable [TbC]
section
variable {K : PySem.W.Frag} {G G' H H' H0 H1 : Hp} {P : List Addr} {σ σ' : L2.St} {Γ Γ' : EnvF} {L L' : List (Addr × OD)} {c c' : Ow} {W : WX}
variable {ta tb te tc' : TE} {t tr : TA} {fa fb fc : FE} {fs fr : FA} {tt tu : TT} {ft fu : FT}
/-! values -/
def dR : Rel D V := ⟨fun K _ _ _ G _ u d => At K G u d, fun g _ h => h.mono g.g, fun _ h => h⟩
def dsR : Rel (List D) (List V) := ⟨fun K _ _ _ G _ u d => AtL K G u d, fun g _ h => h.mono g.g, fun _ h => h⟩
abbrev SimD := SimX (α := D) (β := V) dR
abbrev SimDs := SimX (α := List D) (β := List V) dsR
theorem PG.ofGrow (g' : Grow (TL []) (fun _ => none) G H c' G' H') (iv' : Iv K c' G' H') : PG G H G' H' :=
  ⟨g'.g, fun b o ho e => g'.h b o rfl ho e, iv'.i, fun b hb => (g'.w b hb).elim .inl fun z => z.elim .inr fun z => by simp [TL] at z, g'.n, fun _ => iv'.nt, fun _ => iv'.tb⟩
def fFail {α : Type} : FM α := fun _ => none
def fOf {α : Type} : Option α → FM α
  | some v => FM.pure v
  | none => fFail
def fV (f : FE) : FM D := FM.bind f fun | .val d => FM.pure d | _ => fFail
def fR (f : FM D) : FE := FM.bind f fun d => FM.pure (.val d)
theorem run_fail {α β : Type} {R : Rel α β} {tx : (β → Hp → Prop) → Prop} : Run R K P W σ c G H L tx none := fun r e => by cases e
theorem sim_val (h : SimE K W te fa) : SimD K W te (fV fa) := fun P σ c G H Γ L s =>
  Run.bind (t2 := fun u H1 Q => Q u H1) s.iv (h P σ c G H Γ L s) fun v Γ1 b c1 G1 H1 L1 g1 s1 e1 r1 => by
    cases v with
    | val d => exact Run.now s1 r1
    | slot i => exact run_fail
    | own o => exact run_fail
/-- what a list of values is -/
def valsOf : List Vr → Option (List D)
  | [] => some []
  | .val d :: vs => (valsOf vs).map (d :: ·)
  | _ :: _ => none
theorem vals_at {us : List V} : ∀ {vs : List Vr} {ds : List D}, VrAll K σ L c G H0 us vs → valsOf vs = some ds → AtL K G us ds := by
  induction us with
  | nil => intro vs ds h e; cases h; cases e; exact .nil
  | cons u us ih =>
    intro vs ds h e
    cases h with
    | @cons _ v _ vs a l =>
      cases v with
      | val d =>
        unfold valsOf at e
        cases ev : valsOf vs with
        | none => rw [ev] at e; cases e
        | some es => rw [ev] at e; cases e; exact .cons a (ih l ev)
      | slot i => cases e
      | own o => cases e
def fVs (f : FA) : FM (List D) := FM.bind f fun vs => fOf (valsOf vs)
theorem sim_vals (h : SimA K W t fs) : SimDs K W t (fVs fs) := fun P σ c G H Γ L s =>
  Run.bind (t2 := fun u H1 Q => Q u H1) s.iv (h P σ c G H Γ L s) fun v Γ1 b c1 G1 H1 L1 g1 s1 e1 r1 => by
    cases e : valsOf v with
    | none => exact run_fail
    | some ds => exact Run.now s1 (vals_at r1 e)
/-! constants, names -/
def fC (d : D) : FE := FM.pure (.val d)
theorem sim_c {u : V} {d : D} (h : ∀ G, At K G u d) : SimE K W (tC u) (fC d) := fun P σ c G H Γ L s => Run.now s (h G)
theorem sim_int {i : Int} : SimE K W (tC (.int i)) (fC (.int i)) := sim_c fun _ => .int i
theorem sim_str {i : Str} : SimE K W (tC (.str i)) (fC (.str i)) := sim_c fun _ => .str i
theorem sim_bl {i : Bool} : SimE K W (tC (.bl i)) (fC (.bl i)) := sim_c fun _ => .bl i
theorem sim_ty {i : String} : SimE K W (tC (.ty i)) (fC (.ty i)) := sim_c fun _ => .ty i
theorem sim_cls {a : Addr} {x : Str} (h : CT K x a) : SimE K W (tC (.ref a)) (fC (.cls x)) := sim_c fun _ => .cls h
def fVar (i : Nat) : FE := fun Γ => match Γ[i]? with
  | some (.val d) => some (.ok (.val d) Γ)
  | some (.own _ _) => some (.ok (.slot i) Γ)
  | _ => none
theorem sim_var {i : Nat} : SimE K W (tVar i) (fVar i) := fun P σ c G H Γ L s r e Q post => by
  unfold fVar at e
  cases ei : Γ[i]? with
  | none => rw [ei] at e; cases e
  | some x =>
    rw [ei] at e
    cases x with
    | no => cases e
    | exc => cases e
    | val d =>
      cases e
      obtain ⟨v, h1, h2⟩ := s.r.get ei
      exact ⟨v, h1, post v c G H L .refl s rfl h2⟩
    | own k o =>
      cases e
      obtain ⟨p, h1, h2, h3⟩ := s.r.getO ei
      exact ⟨.ref p, h1, post _ c G H L .refl s rfl h1⟩
/-! operations on values -/
def SimR2 (K : PySem.W.Frag) (r : R2) (f : D → D → Option D) : Prop := ∀ x y z, f x y = some z → ∀ G H u v, Bs G H → At K G u x → At K G v y → ∀ Q : VK, (∀ w G' H', PG G H G' H' → At K G' w z → Q w H') → r u v H Q
def SimR1 (K : PySem.W.Frag) (r : V → Hp → VK → Prop) (f : D → Option D) : Prop := ∀ x z, f x = some z → ∀ G H u, Bs G H → At K G u x → ∀ Q : VK, (∀ w G' H', PG G H G' H' → At K G' w z → Q w H') → r u H Q
def SimC (K : PySem.W.Frag) (r : List V → Hp → VK → Prop) (f : List D → Option D) : Prop := ∀ xs z, f xs = some z → ∀ G H us, Bs G H → AtL K G us xs → ∀ Q : VK, (∀ w G' H', PG G H G' H' → At K G' w z → Q w H') → r us H Q
def fOp (f : D → D → Option D) (a b : FE) : FE := fR (FM.bind (fV a) fun x => FM.bind (fV b) fun y => fOf (f x y))
def fUn (f : D → Option D) (a : FE) : FE := fR (FM.bind (fV a) fun x => fOf (f x))
def fCB (f : List D → Option D) (a : FA) : FE := fR (FM.bind (fVs a) fun x => fOf (f x))
theorem fR_bind {α : Type} (x : FM α) (k : α → FM D) : fR (FM.bind x k) = FM.bind x fun v => fR (k v) := by
  funext Γ
  unfold fR FM.bind
  cases x Γ with
  | none => rfl
  | some r => cases r <;> rfl
theorem fR_of (o : Option D) (Γ : EnvF) : fR (fOf o) Γ = o.map fun d => .ok (.val d) Γ := by
  cases o <;> rfl
theorem run_of {o : Option D} {tx : VK → Prop} (s : Sta K P c G H σ Γ L) (h : ∀ z, o = some z → ∀ Q : VK, (∀ w G' H', PG G H G' H' → At K G' w z → Q w H') → tx Q) : Run vrR K P W σ c G H L tx (fR (fOf o) Γ) := by
  rw [fR_of]
  cases o with
  | none => exact run_fail
  | some z => exact Run.pure s (h z rfl)
theorem sim_op {r : R2} {f : D → D → Option D} (hr : SimR2 K r f) (ha : SimE K W ta fa) (hb : SimE K W tb fb) : SimE K W (tOp r ta tb) (fOp f fa fb) := fun P σ c G H Γ L s => by
  unfold fOp
  rw [fR_bind]
  refine Run.bind (t2 := fun x H1 Q => tb σ H1 fun y H2 => r x y H2 Q) s.iv (sim_val ha P σ c G H Γ L s) fun x Γ1 u c1 G1 H1 L1 g1 s1 e1 r1 => ?_
  rw [fR_bind]
  refine Run.bind (t2 := fun y H2 Q => r u y H2 Q) s1.iv (sim_val hb P σ c1 G1 H1 Γ1 L1 s1) fun y Γ2 v c2 G2 H2 L2' g2 s2 e2 r2 => ?_
  exact run_of s2 fun z ez Q q => hr x y z ez G2 H2 u v s2.iv.bs (r1.mono g2.g) r2 Q q
theorem sim_un {r : V → Hp → VK → Prop} {f : D → Option D} (hr : SimR1 K r f) (ha : SimE K W ta fa) : SimE K W (tUn r ta) (fUn f fa) := fun P σ c G H Γ L s => by
  unfold fUn
  rw [fR_bind]
  refine Run.bind (t2 := fun x H1 Q => r x H1 Q) s.iv (sim_val ha P σ c G H Γ L s) fun x Γ1 u c1 G1 H1 L1 g1 s1 e1 r1 => ?_
  exact run_of s1 fun z ez Q q => hr x z ez G1 H1 u s1.iv.bs r1 Q q
theorem sim_cb {r : List V → Hp → VK → Prop} {f : List D → Option D} (hr : SimC K r f) (ha : SimA K W t fs) : SimE K W (tCB r t) (fCB f fs) := fun P σ c G H Γ L s => by
  unfold fCB
  rw [fR_bind]
  refine Run.bind (t2 := fun x H1 Q => r x H1 Q) s.iv (sim_vals ha P σ c G H Γ L s) fun x Γ1 u c1 G1 H1 L1 g1 s1 e1 r1 => ?_
  exact run_of s1 fun z ez Q q => hr x z ez G1 H1 u s1.iv.bs r1 Q q
/-! lists of arguments -/
def fNil : FA := FM.pure []
def fCons (a : FE) (r : FA) : FA := FM.bind a fun x => FM.bind r fun xs => FM.pure (x :: xs)
theorem sim_nil : SimA K W tNil fNil := fun P σ c G H Γ L s => Run.now s .nil
theorem Run.bind2 {α β α2 β2 α' β' : Type} {R1 : Rel α β} {R2 : Rel α2 β2} {R' : Rel α' β'} {g : α → α2 → α'} {gb : β → β2 → β'} {tx : (β → Hp → Prop) → Prop} {t2 : Hp → (β2 → Hp → Prop) → Prop} {x : FM α} {k : FM α2} (iv : Iv K c G H)
    (h : Run R1 K P W σ c G H L tx (x Γ))
    (hk : ∀ Γ1 c1 G1 H1 L1, Sta K P c1 G1 H1 σ Γ1 L1 → Run R2 K P W σ c1 G1 H1 L1 (t2 H1) (k Γ1))
    (comb : ∀ L c G v w b b2, R1.r K σ L c G H b v → R2.r K σ L c G H b2 w → R'.r K σ L c G H (gb b b2) (g v w)) :
    Run R' K P W σ c G H L (fun Q => tx fun b H1 => t2 H1 fun b2 H2 => Q (gb b b2) H2) (FM.bind x (fun v => FM.bind k fun w => FM.pure (g v w)) Γ) := by
  intro r e Q post
  unfold FM.bind at e
  cases ex : x Γ with
  | none => rw [ex] at e; cases e
  | some r0 =>
    rw [ex] at e
    refine h r0 ex _ ?_
    cases r0 with
    | ok v Γ1 =>
      intro b c1 G1 H1 L1 g1 s1 e1 r1
      have e : (match k Γ1 with
        | some (.ok w Γ') => some (.ok (g v w) Γ')
        | some (.ex c f d Γ') => some (.ex c f d Γ')
        | none => none) = some r := e
      cases ek : k Γ1 with
      | none => rw [ek] at e; cases e
      | some r2 =>
        rw [ek] at e
        refine hk Γ1 c1 G1 H1 L1 s1 r2 ek _ ?_
        cases r2 with
        | ok w Γ2 =>
          cases e
          intro b2 c2 G2 H2 L2' g2 s2 e2 q2
          exact post (gb b b2) c2 G2 H2 L2' (g1.trans' iv g2 (fun _ z => z) fun b z => .inl (by unfold TL at z ⊢; rwa [e1] at z)) s2 (e2.trans e1) (comb L2' c2 G2 v w b b2 (R1.mono g2 e2 r1) (R2.back g1.n q2))
        | ex cn f d Γ2 =>
          cases e
          exact PostX.trans iv g1 (tl_of e1) post
    | ex cn f d Γ1 =>
      cases e
      exact post
theorem sim_cons (ha : SimE K W te fa) (hr : SimA K W tr fr) : SimA K W (tCons te tr) (fCons fa fr) := fun P σ c G H Γ L s =>
  Run.bind2 (t2 := fun H1 Q => tr σ H1 Q) (gb := fun x xs => x :: xs) (g := fun x xs => x :: xs) s.iv (ha P σ c G H Γ L s) (fun Γ1 c1 G1 H1 L1 s1 => hr P σ c1 G1 H1 Γ1 L1 s1) fun L c G v w b b2 h1 h2 => .cons h1 h2
/-! tuples, lists -/
def fTup (a : FA) : FE := fR (FM.bind (fVs a) fun ds => if ds.length ≤ 16777216 then FM.pure (.tup ds) else fFail)
theorem sim_tup (h : SimA K W t fs) : SimE K W (tTup t) (fTup fs) := fun P σ c G H Γ L s => by
  unfold fTup
  rw [fR_bind]
  refine Run.bind (R' := vrR) (t2 := fun xs H1 Q => xs.length ≤ sizeLine ∧ ∀ p, H1 p = none → Q (V.ref p) (upd H1 p (.tup xs))) s.iv (sim_vals h P σ c G H Γ L s) fun x Γ1 u c1 G1 H1 L1 g1 s1 e1 r1 => ?_
  by_cases hl : x.length ≤ 16777216
  · rw [if_pos hl]
    refine Run.pure s1 fun Q q => ⟨by rw [AtL.length r1, sizeLine_eq]; exact hl, fun p hp => ?_⟩
    have gn := PG.new (G := G1) (o := .tup u) s1.iv.i hp
    exact q (.ref p) _ _ gn (.tup (.inl (.inl upd_same)) (AtL.mono gn.g r1))
  · rw [if_neg hl]; exact run_fail
def fLst (a : FA) : FE := fR (FM.bind (fVs a) fun ds => if ds.length ≤ 16777216 then FM.pure (.lst ds) else fFail)
theorem sim_lst (h : SimA K W t fs) : SimE K W (tLst t) (fLst fs) := fun P σ c G H Γ L s => by
  unfold fLst
  rw [fR_bind]
  refine Run.bind (R' := vrR) (t2 := fun xs H1 Q => xs.length ≤ sizeLine ∧ ∀ p, H1 p = none → Q (V.ref p) (upd H1 p (.lst xs))) s.iv (sim_vals h P σ c G H Γ L s) fun x Γ1 u c1 G1 H1 L1 g1 s1 e1 r1 => ?_
  by_cases hl : x.length ≤ 16777216
  · rw [if_pos hl]
    refine Run.pure s1 fun Q q => ⟨by rw [AtL.length r1, sizeLine_eq]; exact hl, fun p hp => ?_⟩
    have gn := PG.new (G := G1) (o := .lst u) s1.iv.i hp
    exact q (.ref p) _ _ gn (.lst upd_same (AtL.mono gn.g r1))
  · rw [if_neg hl]; exact run_fail
/-- a list of one's own -/
def fLstO (a : FA) : FE := FM.bind (fVs a) fun ds => if ds.length ≤ 16777216 then FM.pure (.own (.lst ds)) else fFail
theorem Run.fresh {o : OD} {ho : HO} {tx : VK → Prop} {p : Addr} (s : Sta K P c G H σ Γ L) (hp : H p = none) (hh : HasO K G (upd H p ho) p o) {Q : VK}
    (post : ∀ b c' G' H' L', Grow (TL L) c G H c' G' H' → Sta K P c' G' H' σ Γ L' → L'.map (·.1) = L.map (·.1) → VrAt K σ L' c' G' H b (.own o) → Q b H') : Q (.ref p) (upd H p ho) := by
  obtain ⟨g, v⟩ := own_new (T := TL L) s.iv hp hh
  have np : ∀ e ∈ L, e.1 ≠ p := fun e he z => by
    have := (s.iv.ow e.1 e.2 (s.ow e he)).2.some
    rw [z] at this; exact this hp
  refine post _ _ _ _ L g ⟨s.r, s.nd, fun e he => by rw [Ow.put_ne (np e he)]; exact s.ow e he, v, fun q hq => g.n q (s.pa q hq)⟩ rfl ⟨p, rfl, Ow.put_same, fun z => ?_, hp⟩
  obtain ⟨e, he, ee⟩ := List.mem_map.mp z
  exact np e he ee
theorem sim_lstO (h : SimA K W t fs) : SimE K W (tLst t) (fLstO fs) := fun P σ c G H Γ L s => by
  unfold fLstO
  refine Run.bind (R' := vrR) (t2 := fun xs H1 Q => xs.length ≤ sizeLine ∧ ∀ p, H1 p = none → Q (V.ref p) (upd H1 p (.lst xs))) s.iv (sim_vals h P σ c G H Γ L s) fun x Γ1 u c1 G1 H1 L1 g1 s1 e1 r1 => ?_
  by_cases hl : x.length ≤ 16777216
  · rw [if_pos hl]
    intro r e Q post
    cases e
    exact ⟨by rw [AtL.length r1, sizeLine_eq]; exact hl, fun p hp => Run.fresh (o := .lst x) (ho := .lst u) (tx := fun _ => True) s1 hp ⟨u, upd_same, r1⟩ post⟩
  · rw [if_neg hl]; exact run_fail
/-! choices -/
def fIf (a : FT) (b c : FE) : FE := FM.bind a fun k => if k = true then b else c
theorem sim_if (ha : SimT K W tt ft) (hb : SimE K W ta fa) (hc : SimE K W tb fb) : SimE K W (tIf tt ta tb) (fIf ft fa fb) := fun P σ c G H Γ L s =>
  Run.bind (t2 := fun k H1 Q => if k = true then ta σ H1 Q else tb σ H1 Q) s.iv (ha P σ c G H Γ L s) fun k Γ1 b c1 G1 H1 L1 g1 s1 e1 r1 => by
    have e : b = k := r1
    subst e
    cases b with
    | true => exact hb P σ c1 G1 H1 Γ1 L1 s1
    | false => exact hc P σ c1 G1 H1 Γ1 L1 s1
def boolOf : D → Option Bool
  | .bl b => some b
  | _ => none
theorem at_bool {u : V} {d : D} {b : Bool} (h : At K G u d) (e : boolOf d = some b) : u = .bl b := by
  cases d with
  | bl k => cases e; cases h; rfl
  | _ => cases e
def fAndV (a b : FE) : FE := FM.bind (fV a) fun x => match boolOf x with | some true => b | some false => FM.pure (.val (.bl false)) | none => fFail
def fOrV (a b : FE) : FE := FM.bind (fV a) fun x => match boolOf x with | some true => FM.pure (.val (.bl true)) | some false => b | none => fFail
def fNotV (a : FE) : FE := FM.bind (fV a) fun x => match boolOf x with | some k => FM.pure (.val (.bl !k)) | none => fFail
theorem sim_andV (ha : SimE K W ta fa) (hb : SimE K W tb fb) : SimE K W (tAndV ta tb) (fAndV fa fb) := fun P σ c G H Γ L s =>
  Run.bind (t2 := fun x H1 Q => ∃ c, x = .bl c ∧ if c = true then tb σ H1 Q else Q (.bl false) H1) s.iv (sim_val ha P σ c G H Γ L s) fun x Γ1 u c1 G1 H1 L1 g1 s1 e1 r1 => by
    cases eb : boolOf x with
    | none => exact run_fail
    | some k =>
      have eu := at_bool r1 eb
      subst eu
      intro r e Q post
      cases k with
      | true => exact ⟨true, rfl, hb P σ c1 G1 H1 Γ1 L1 s1 r e Q post⟩
      | false => cases e; exact ⟨false, rfl, post _ c1 G1 H1 L1 .refl s1 rfl (.bl false)⟩
theorem sim_notV (ha : SimE K W ta fa) : SimE K W (tNotV ta) (fNotV fa) := fun P σ c G H Γ L s =>
  Run.bind (R' := vrR) (t2 := fun x H1 Q => ∃ c, x = V.bl c ∧ Q (V.bl (!c)) H1) s.iv (sim_val ha P σ c G H Γ L s) fun x Γ1 u c1 G1 H1 L1 g1 s1 e1 r1 => by
    cases eb : boolOf x with
    | none => exact run_fail
    | some k =>
      have eu := at_bool r1 eb
      subst eu
      intro r e Q post
      cases e
      exact ⟨k, rfl, post _ c1 G1 H1 L1 .refl s1 rfl (.bl _)⟩
def isNon : D → Bool
  | .non => true
  | _ => false
def fIsN (a : FE) : FE := FM.bind (fV a) fun x => FM.pure (.val (.bl (isNon x)))
def fNotN (a : FE) : FE := FM.bind (fV a) fun x => FM.pure (.val (.bl !(isNon x)))
/-! tests -/
def fTest (a : FE) : FT := FM.bind (fV a) fun x => fOf (boolOf x)
theorem sim_test (ha : SimE K W ta fa) : SimT K W (tTest ta) (fTest fa) := fun P σ c G H Γ L s =>
  Run.bind (t2 := fun x H1 Q => ∃ k, x = .bl k ∧ Q k H1) s.iv (sim_val ha P σ c G H Γ L s) fun x Γ1 u c1 G1 H1 L1 g1 s1 e1 r1 => by
    cases eb : boolOf x with
    | none => exact run_fail
    | some k =>
      have eu := at_bool r1 eb
      subst eu
      intro r e Q post
      cases e
      exact ⟨k, rfl, post k c1 G1 H1 L1 .refl s1 rfl rfl⟩
def fNot (a : FT) : FT := FM.bind a fun k => FM.pure !k
def fAnd (a b : FT) : FT := FM.bind a fun k => if k = true then b else FM.pure false
def fOr (a b : FT) : FT := FM.bind a fun k => if k = true then FM.pure true else b
def fYes : FT := FM.pure true
theorem sim_not (ha : SimT K W tt ft) : SimT K W (tNot tt) (fNot ft) := fun P σ c G H Γ L s =>
  Run.bind (t2 := fun k H1 Q => Q (!k) H1) s.iv (ha P σ c G H Γ L s) fun k Γ1 b c1 G1 H1 L1 g1 s1 e1 r1 => by
    have e : b = k := r1
    subst e
    exact Run.now (R := eqR Bool) s1 rfl
theorem sim_and (ha : SimT K W tt ft) (hb : SimT K W tu fu) : SimT K W (tAnd tt tu) (fAnd ft fu) := fun P σ c G H Γ L s =>
  Run.bind (t2 := fun k H1 Q => if k = true then tu σ H1 Q else Q false H1) s.iv (ha P σ c G H Γ L s) fun k Γ1 b c1 G1 H1 L1 g1 s1 e1 r1 => by
    have e : b = k := r1
    subst e
    cases b with
    | true => exact hb P σ c1 G1 H1 Γ1 L1 s1
    | false => exact Run.now (R := eqR Bool) s1 rfl
theorem sim_or (ha : SimT K W tt ft) (hb : SimT K W tu fu) : SimT K W (tOr tt tu) (fOr ft fu) := fun P σ c G H Γ L s =>
  Run.bind (t2 := fun k H1 Q => if k = true then Q true H1 else tu σ H1 Q) s.iv (ha P σ c G H Γ L s) fun k Γ1 b c1 G1 H1 L1 g1 s1 e1 r1 => by
    have e : b = k := r1
    subst e
    cases b with
    | false => exact hb P σ c1 G1 H1 Γ1 L1 s1
    | true => exact Run.now (R := eqR Bool) s1 rfl
theorem sim_yes : SimT K W tYes fYes := fun P σ c G H Γ L s => Run.now (R := eqR Bool) s rfl
/-- a chain of two comparisons -/
def fChain (f g : D → D → Option D) (a b c : FE) : FE := FM.bind (fV a) fun x => FM.bind (fV b) fun y => match f x y with
  | some (.bl true) => fOp g (fC y) c
  | some (.bl false) => FM.pure (.val (.bl false))
  | _ => fFail
end
end DF

set_option linter.all false
set_option maxRecDepth 100000
set_option maxHeartbeats 4000000
namespace DF
open PySem L2
variable [TbC]
/-! ### defs -/
inductive RF where
  | ok (v : Vr) (o : Option OD) | ex (c f : Str) (d : D) (o : Option OD)
abbrev FF := List Sl → Option RF
inductive ArgR (K : PySem.W.Frag) (G : Hp) : List V → List Sl → List (Addr × OD) → Prop
  | nil : ArgR K G [] [] []
  | val {u : V} {d : D} {us : List V} {as : List Sl} {L : List (Addr × OD)} : At K G u d → ArgR K G us as L → ArgR K G (u :: us) (.val d :: as) L
  | own {p : Addr} {o : OD} {us : List V} {as : List Sl} : ArgR K G us as [] → ArgR K G (.ref p :: us) (.own 1 o :: as) [(p, o)]
  | exc {us : List V} {as : List Sl} {L : List (Addr × OD)} : ArgR K G us as L → ArgR K G (.ref TbC.xa :: us) (.exc :: as) L
def RetAt (K : PySem.W.Frag) (L : List (Addr × OD)) (c' : Ow) (G' H0 : Hp) (u : V) : Vr → Prop
  | .val d => At K G' u d
  | .own o => ∃ p, u = .ref p ∧ c' p = some o ∧ ¬ TL L p ∧ H0 p = none
  | .slot _ => False
def PostF (K : PySem.W.Frag) (c : Ow) (G H : Hp) (L : List (Addr × OD)) (r : RF) (Q : VK) (E : XK) : Prop := match r with
  | .ok v o => ∀ u c' G' H', Grow (TL L) c G H c' G' H' → Iv K c' G' H' → (∀ p o0 o', L = [(p, o0)] → o = some o' → c' p = some o') → RetAt K L c' G' H u v → Q u H'
  | .ex cn f d o => ∀ C dd fv c' G' H', Grow (TL L) c G H c' G' H' → Iv K c' G' H' → (∀ p o0 o', L = [(p, o0)] → o = some o' → c' p = some o') → CT K cn C → H' dd = some (.xd [(f, fv)]) → At K G' fv d → E (.ref C) (some dd) H'
def spF (K : PySem.W.Frag) (F : FF) : Sp := fun vs H Q E => ∃ G c as L r, Iv K c G H ∧ ArgR K G vs as L ∧ (∀ e ∈ L, c e.1 = some e.2) ∧ F as = some r ∧ PostF K c G H L r Q E
/-- the content that what was lent has in the end -/
def lastO : EnvF → Option OD
  | [] => none
  | .own 1 o :: _ => some o
  | _ :: Γ => lastO Γ
def lent (as : List Sl) : Bool := as.any fun | .own _ _ => true | _ => false
def endO (as : List Sl) (Γ : EnvF) : Option (Option OD) := if lent as then (lastO Γ).map some else some none
def defF (k n : Nat) (fs : FS) : FF := fun as => if as.length = k then (match fs (as ++ List.replicate (n - as.length) .no) with
  | some (.ok (.rt (.val d)) Γ) => (endO as Γ).map fun o => .ok (.val d) o
  | some (.ok (.rt (.own x)) Γ) => (endO as Γ).map fun o => .ok (.own x) o
  | some (.ok .nx Γ) => (endO as Γ).map fun o => .ok (.val .non) o
  | some (.ex c f d Γ) => (endO as Γ).map fun o => .ex c f d o
  | _ => none) else none
section
variable {K : PySem.W.Frag} {G G' H H' H0 H1 : Hp} {P : List Addr} {σ σ' : L2.St} {Γ Γ' : EnvF} {L L' : List (Addr × OD)} {c c' : Ow} {W : WX}
variable {ta tb te : TE} {t tr : TA} {fa fb fc : FE} {fs fr : FA} {tt tu : TT} {ft fu : FT}
theorem ArgR.mono (e : Ext G G') : ∀ {us : List V} {as : List Sl} {L : List (Addr × OD)}, ArgR K G us as L → ArgR K G' us as L
  | _, _, _, .nil => .nil
  | _, _, _, .val a l => .val (a.mono e) (ArgR.mono e l)
  | _, _, _, .own l => .own (ArgR.mono e l)
  | _, _, _, .exc l => .exc (ArgR.mono e l)
theorem ArgR.length : ∀ {us : List V} {as : List Sl} {L : List (Addr × OD)}, ArgR K G us as L → us.length = as.length
  | _, _, _, .nil => rfl
  | _, _, _, .val a l => congrArg (· + 1) (ArgR.length l)
  | _, _, _, .own l => congrArg (· + 1) (ArgR.length l)
  | _, _, _, .exc l => congrArg (· + 1) (ArgR.length l)
theorem ArgR.one : ∀ {us : List V} {as : List Sl} {L : List (Addr × OD)}, ArgR K G us as L → L = [] ∧ lent as = false ∨ ∃ p o, L = [(p, o)] ∧ lent as = true
  | _, _, _, .nil => .inl ⟨rfl, rfl⟩
  | _, _, _, .val a l => (ArgR.one l).imp (fun ⟨h1, h2⟩ => ⟨h1, by unfold lent at h2 ⊢; simpa using h2⟩) fun ⟨p, o, h1, h2⟩ => ⟨p, o, h1, by unfold lent at h2 ⊢; simpa using h2⟩
  | _, _, _, .own l => .inr ⟨_, _, rfl, rfl⟩
  | _, _, _, .exc l => (ArgR.one l).imp (fun ⟨h1, h2⟩ => ⟨h1, by unfold lent at h2 ⊢; simpa using h2⟩) fun ⟨p, o, h1, h2⟩ => ⟨p, o, h1, by unfold lent at h2 ⊢; simpa using h2⟩
theorem envR_rep (n : Nat) : EnvR K G P (List.replicate n none) (List.replicate n .no) [] := by
  induction n with
  | zero => exact .nil
  | succ n ih => exact .no ih
theorem ArgR.env (n : Nat) : ∀ {us : List V} {as : List Sl} {L : List (Addr × OD)}, ArgR K G us as L → (∀ e ∈ L, P[0]? = some e.1) → EnvR K G P (us.map some ++ List.replicate n none) (as ++ List.replicate n .no) L
  | _, _, _, .nil, h => envR_rep n
  | _, _, _, .val a l, h => .val a (ArgR.env n l h)
  | _, _, _, .own l, h => .own (.inr ⟨0, rfl, h _ List.mem_cons_self⟩) (ArgR.env n l fun e he => (List.not_mem_nil he).elim)
  | _, _, _, .exc l, h => .exc (ArgR.env n l h)
theorem lastO_at : ∀ {Γ : EnvF} {o : OD}, lastO Γ = some o → ∃ i : Nat, Γ[i]? = some (Sl.own 1 o)
  | [], o, e => by cases e
  | .own 1 x :: Γ, o, e => by cases e; exact ⟨0, rfl⟩
  | .own 0 x :: Γ, o, e => by obtain ⟨i, h⟩ := lastO_at (Γ := Γ) e; exact ⟨i + 1, h⟩
  | .own (k + 2) x :: Γ, o, e => by obtain ⟨i, h⟩ := lastO_at (Γ := Γ) e; exact ⟨i + 1, h⟩
  | .no :: Γ, o, e => by obtain ⟨i, h⟩ := lastO_at (Γ := Γ) e; exact ⟨i + 1, h⟩
  | .exc :: Γ, o, e => by obtain ⟨i, h⟩ := lastO_at (Γ := Γ) e; exact ⟨i + 1, h⟩
  | .val d :: Γ, o, e => by obtain ⟨i, h⟩ := lastO_at (Γ := Γ) e; exact ⟨i + 1, h⟩
/-- what was lent has in the end what the function says -/
theorem endO_at {as : List Sl} {us : List V} {oo : Option OD} (ar : ArgR K G us as L) (s : Sta K (L.map (·.1)) c' G' H' σ' Γ' L') (e : endO as Γ' = some oo) : ∀ p o0 o', L = [(p, o0)] → oo = some o' → c' p = some o' := by
  intro p o0 o' eL eo
  subst eL eo
  rcases ar.one with ⟨h, _⟩ | ⟨p', o1, h, hl⟩
  · cases h
  · unfold endO at e
    rw [if_pos hl] at e
    cases el : lastO Γ' with
    | none => rw [el] at e; cases e
    | some o2 =>
      rw [el] at e
      cases e
      obtain ⟨i, hi⟩ := lastO_at el
      obtain ⟨q, h1, h2, h3⟩ := s.r.getO hi
      rcases h3 with ⟨z, _⟩ | ⟨j, z, h3⟩
      · cases z
      · cases z
        simp at h3
        subst h3
        exact s.ow _ h2
/-! ### calls -/
inductive Ob where
  | none | slot (i : Nat) | tmp
def argsOf : List Vr → EnvF → Option (List Sl × Ob)
  | [], _ => some ([], .none)
  | v :: vs, Γ => match argsOf vs Γ with
    | none => none
    | some (as, b) => match v, b with
      | .val d, b => some (.val d :: as, b)
      | .slot i, .none => match Γ[i]? with
        | some (.own _ o) => some (.own 1 o :: as, .slot i)
        | _ => none
      | .own o, .none => some (.own 1 o :: as, .tmp)
      | _, _ => none
def putBack (b : Ob) (o : Option OD) (Γ : EnvF) : Option EnvF := match b, o with
  | .none, _ => some Γ
  | .tmp, _ => some Γ
  | .slot i, some o => match Γ[i]? with
    | some (.own k _) => some (Γ.set i (.own k o))
    | _ => none
  | .slot _, none => none
def callF (F : FF) (vs : List Vr) : FE := fun Γ => match argsOf vs Γ with
  | none => none
  | some (as, b) => match F as with
    | some (.ok v o) => (putBack b o Γ).map fun Γ' => .ok v Γ'
    | some (.ex c f d o) => (putBack b o Γ).map fun Γ' => .ex c f d Γ'
    | none => none
def fCall (F : FF) (a : FA) : FE := FM.bind a fun vs => callF F vs
/-- what of the arguments is lent -/
theorem argsOf_at (s : Sta K P c G H σ Γ L) {H0 : Hp} : ∀ {us : List V} {vs : List Vr} {as : List Sl} {b : Ob}, VrAll K σ L c G H0 us vs → argsOf vs Γ = some (as, b) →
    ∃ M, ArgR K G us as M ∧ (∀ e ∈ M, c e.1 = some e.2) ∧ (b = .none → M = []) ∧ (b = .tmp → ∃ p o, M = [(p, o)] ∧ p ∉ L.map (·.1) ∧ H0 p = none) ∧ (∀ i, b = .slot i → ∃ p k o, M = [(p, o)] ∧ σ[i]? = some (some (.ref p)) ∧ Γ[i]? = some (.own k o))
  | _, _, _, _, .nil, e => by
    cases e
    exact ⟨[], .nil, fun e he => (List.not_mem_nil he).elim, fun _ => rfl, fun z => (by cases z), fun _ z => (by cases z)⟩
  | _, _, as, b, @VrAll.cons _ _ _ _ _ _ u v us vs a l, e => by
    unfold argsOf at e
    cases ea : argsOf vs Γ with
    | none => rw [ea] at e; cases e
    | some ab =>
      obtain ⟨as1, b1⟩ := ab
      rw [ea] at e
      obtain ⟨M, h1, h2, h3, h4, h5⟩ := argsOf_at s l ea
      cases v with
      | val d =>
        cases e
        exact ⟨M, .val a h1, h2, h3, h4, h5⟩
      | slot i =>
        cases b1 with
        | none =>
          have e : (match Γ[i]? with
            | some (.own _ o) => some (Sl.own 1 o :: as1, Ob.slot i)
            | _ => none) = some (as, b) := e
          cases ei : Γ[i]? with
          | none => rw [ei] at e; cases e
          | some x =>
            rw [ei] at e
            cases x with
            | own k o =>
              cases e
              obtain ⟨p, q1, q2, _⟩ := s.r.getO ei
              have eu : u = .ref p := by
                have z : σ[i]? = some (some u) := a
                rw [q1] at z; injection z with z; injection z with z; exact z.symm
              subst eu
              rw [h3 rfl] at h1
              exact ⟨[(p, o)], .own h1, fun e he => by rw [List.mem_singleton.mp he]; exact s.ow _ q2, fun z => (by cases z), fun z => (by cases z), fun j z => by cases z; exact ⟨p, k, o, rfl, q1, ei⟩⟩
            | no => cases e
            | exc => cases e
            | val d => cases e
        | slot j => cases e
        | tmp => cases e
      | own o =>
        cases b1 with
        | none =>
          cases e
          obtain ⟨p, eu, q1, q2, q3⟩ := a
          subst eu
          rw [h3 rfl] at h1
          exact ⟨[(p, o)], .own h1, fun e he => by rw [List.mem_singleton.mp he]; exact q1, fun z => (by cases z), fun _ => ⟨p, o, rfl, q2, q3⟩, fun j z => by cases z⟩
        | slot j => cases e
        | tmp => cases e
end
end DF

set_option linter.all false
set_option maxRecDepth 100000
set_option maxHeartbeats 4000000
namespace DF
open PySem L2
variable [TbC]
section
variable {K : PySem.W.Frag} {G G' H H' H0 H1 G1 : Hp} {P : List Addr} {σ σ' : L2.St} {Γ Γ' Γ1 : EnvF} {L L' L1 : List (Addr × OD)} {c c' c1 : Ow} {W : WX}
variable {ta tb te : TE} {t tr tk : TA} {fa fb fc : FE} {fs fr fk : FA} {tt tu : TT} {ft fu : FT} {E : XK}
theorem back_of (g : Grow (TL L) c G H c1 G1 H1) {b : Addr} (z : H1 b = none) : H b = none := by
  cases q : H b with
  | none => rfl
  | some o => exact absurd z (g.n _ (by rw [q]; simp))
theorem sta_back {M : List (Addr × OD)} {as : List Sl} {us : List V} {b : Ob} {oo : Option OD} {Γ2 : EnvF} (s1 : Sta K P c1 G1 H1 σ Γ1 L1) (g' : Grow (TL M) c1 G1 H1 c' G' H') (iv' : Iv K c' G' H') (ho : ∀ p o0 o', M = [(p, o0)] → oo = some o' → c' p = some o')
    (m3 : b = .none → M = []) (m4 : b = .tmp → ∃ p o, M = [(p, o)] ∧ p ∉ L1.map (·.1) ∧ H0 p = none) (m5 : ∀ i, b = .slot i → ∃ p k o, M = [(p, o)] ∧ σ[i]? = some (some (.ref p)) ∧ Γ1[i]? = some (.own k o)) (eb : putBack b oo Γ1 = some Γ2) :
    ∃ L2', Sta K P c' G' H' σ Γ2 L2' ∧ L2'.map (·.1) = L1.map (·.1) := by
  have pa' : ∀ p ∈ P, H' p ≠ none := fun p hp => g'.n p (s1.pa p hp)
  have keep : ∀ e ∈ L1, ¬ TL M e.1 → c' e.1 = some e.2 := fun e he z => by rw [(g'.f e.1 z (by rw [s1.ow e he]; simp)).1]; exact s1.ow e he
  cases b with
  | none =>
    cases eb
    refine ⟨L1, ⟨s1.r.mono g'.g, s1.nd, fun e he => keep e he ?_, iv', pa'⟩, rfl⟩
    rw [m3 rfl]; simp [TL]
  | tmp =>
    cases eb
    obtain ⟨p, o, eM, np, _⟩ := m4 rfl
    refine ⟨L1, ⟨s1.r.mono g'.g, s1.nd, fun e he => keep e he ?_, iv', pa'⟩, rfl⟩
    rw [eM]; intro z
    have z : e.1 = p := by simpa [TL] using z
    exact np (z ▸ List.mem_map.mpr ⟨e, he, rfl⟩)
  | slot i =>
    obtain ⟨p, k, o, eM, h1, h2⟩ := m5 i rfl
    cases oo with
    | none => cases eb
    | some o' =>
      unfold putBack at eb
      simp only [h2] at eb
      cases eb
      obtain ⟨p', L2', q1, q2, q3, q4, q5⟩ := (s1.r.mono g'.g).updOwn (o' := o') s1.nd h2
      have ep : p' = p := by rw [h1] at q1; injection q1 with q1; injection q1 with q1; injection q1 with q1; exact q1.symm
      subst ep
      refine ⟨L2', ⟨q3, by rw [q4]; exact s1.nd, fun e he => ?_, iv', pa'⟩, q4⟩
      rcases q5 e he with z | ⟨z, zn⟩
      · rw [z]; exact ho _ _ _ eM rfl
      · refine keep e z ?_
        rw [eM]; simpa [TL] using zn
theorem call_core {F : FF} {us : List V} {vs : List Vr} (iv : Iv K c G H) (g1 : Grow (TL L) c G H c1 G1 H1) (s1 : Sta K P c1 G1 H1 σ Γ1 L1) (e1 : L1.map (·.1) = L.map (·.1)) (ra : VrAll K σ L1 c1 G1 H us vs) (hE : ∀ cls d σ H, W cls d σ H → E cls d H)
    {r : Rt Vr} (er : callF F vs Γ1 = some r) {Q : VK}
    (post : PostE vrR K P W σ c G H L Q r) : spF K F us H1 Q E := by
  unfold callF at er
  cases ea : argsOf vs Γ1 with
  | none => rw [ea] at er; cases er
  | some ab =>
    obtain ⟨as, b⟩ := ab
    rw [ea] at er
    obtain ⟨M, m1, m2, m3, m4, m5⟩ := argsOf_at s1 ra ea
    have touch : ∀ x, TL M x → TL L x ∨ H x = none := fun x hx => by
      cases b with
      | none => rw [m3 rfl] at hx; cases hx
      | tmp =>
        obtain ⟨p, o, eM, _, q⟩ := m4 rfl
        rw [eM] at hx
        have z : x = p := by simpa [TL] using hx
        rw [z]; exact .inr q
      | slot i =>
        obtain ⟨p, k, o, eM, h1, h2⟩ := m5 i rfl
        rw [eM] at hx
        have z : x = p := by simpa [TL] using hx
        obtain ⟨p', q1, q2, _⟩ := s1.r.getO h2
        rw [h1] at q1; injection q1 with q1; injection q1 with q1; injection q1 with q1
        rw [z]
        refine .inl ?_
        show p ∈ L.map (·.1)
        rw [← e1, q1]; exact List.mem_map.mpr ⟨_, q2, rfl⟩
    have er : (match F as with
      | some (.ok v o) => (putBack b o Γ1).map fun Γ' => Rt.ok v Γ'
      | some (.ex c f d o) => (putBack b o Γ1).map fun Γ' => Rt.ex c f d Γ'
      | none => none) = some r := er
    cases eF : F as with
    | none => rw [eF] at er; cases er
    | some rf =>
      rw [eF] at er
      refine ⟨G1, c1, as, M, rf, s1.iv, m1, m2, eF, ?_⟩
      cases rf with
      | ok v oo =>
        simp only [Option.map_eq_some_iff] at er
        obtain ⟨Γ2, eb, e2⟩ := er
        subst e2
        intro u c' G' H' g' iv' ho hr
        obtain ⟨L2', s2, e2⟩ := sta_back (H0 := H) (as := as) (us := us) s1 g' iv' ho m3 m4 m5 eb
        refine post u c' G' H' L2' (g1.trans' iv g' (fun _ z => z) touch) s2 (e2.trans e1) ?_
        cases v with
        | val d => exact hr
        | slot i => exact hr.elim
        | own x =>
          obtain ⟨p, h1, h2, h3, h4⟩ := hr
          refine ⟨p, h1, h2, ?_, back_of g1 h4⟩
          rw [e2]
          intro z
          obtain ⟨e, he, ee⟩ := List.mem_map.mp z
          have := (s1.iv.ow _ _ (s1.ow e he)).2.some
          rw [ee] at this
          exact this h4
      | ex cn f d oo =>
        simp only [Option.map_eq_some_iff] at er
        obtain ⟨Γ2, eb, e2⟩ := er
        subst e2
        intro C dd fv c' G' H' g' iv' ho ct hd hv
        obtain ⟨L2', s2, e2⟩ := sta_back (H0 := H) (as := as) (us := us) s1 g' iv' ho m3 m4 m5 eb
        exact hE _ _ σ _ (post C dd fv σ c' G' H' L2' (g1.trans' iv g' (fun _ z => z) touch) s2 (fun x hx => tl_of (e2.trans e1) x hx) ct hd hv)
/-- f(e, ..) -/
theorem sim_call {F : FF} (hE : ∀ cls d σ H, W cls d σ H → E cls d H) (h : SimA K W t fs) : SimE K W (tCall (spF K F) [] E t) (fCall F fs) := fun P σ c G H Γ L s r e Q post => by
  unfold fCall FM.bind at e
  cases ex : fs Γ with
  | none => rw [ex] at e; cases e
  | some r0 =>
    rw [ex] at e
    refine h P σ c G H Γ L s r0 ex _ ?_
    cases r0 with
    | ok vs Γ1 =>
      intro us c1 G1 H1 L1 g1 s1 e1 r1
      show spF K F (us ++ []) H1 Q E
      rw [List.append_nil]
      exact call_core s.iv g1 s1 e1 r1 hE e post
    | ex cn f d Γ1 => cases e; exact post
/-- keywords put into their places -/
def permV (ix : List Nat) (xs : List V) : List V := ix.map fun i => xs.getD i .non
def permU (ix : List Nat) (xs : List Value) : List Value := ix.map fun i => xs.getD i .none
def permR (ix : List Nat) (xs : List Vr) : List Vr := ix.map fun i => xs.getD i (.val .non)
theorem vals_getD {vs : List V} {us : List Value} (r : Vals vs us) (i : Nat) : RelV (vs.getD i .non) (us.getD i .none) := by
  induction r generalizing i with
  | nil => simp; rfl
  | cons h _ ih => cases i with | zero => simpa using h | succ i => simpa using ih i
theorem perm_rel {ix : List Nat} {vs : List V} {us : List Value} (r : Vals vs us) : Vals (permV ix vs) (permU ix us) := by
  unfold permV permU
  induction ix with
  | nil => exact .nil
  | cons i ix ih => exact .cons (vals_getD r i) ih
theorem vr_getD {us : List V} : ∀ {vs : List Vr} (i : Nat), VrAll K σ L c G H0 us vs → VrAt K σ L c G H0 (us.getD i .non) (vs.getD i (.val .non)) := by
  induction us with
  | nil => intro vs i h; cases h; simp; exact At.non
  | cons v us ih => intro vs i h; cases h with | cons a l => cases i with | zero => simpa using a | succ i => simpa using ih i l
theorem perm_vr {us : List V} {vs : List Vr} {ix : List Nat} (h : VrAll K σ L c G H0 us vs) : VrAll K σ L c G H0 (permV ix us) (permR ix vs) := by
  unfold permV permR
  induction ix with
  | nil => exact .nil
  | cons i ix ih => exact .cons (vr_getD i h) ih
theorem VrAll.append {us ws : List V} : ∀ {vs xs : List Vr}, VrAll K σ L c G H0 us vs → VrAll K σ L c G H0 ws xs → VrAll K σ L c G H0 (us ++ ws) (vs ++ xs) := by
  induction us with
  | nil => intro vs xs h k; cases h; exact k
  | cons v us ih => intro vs xs h k; cases h with | cons a l => exact .cons a (ih l k)
theorem VrAll.length {us : List V} : ∀ {vs : List Vr}, VrAll K σ L c G H0 us vs → us.length = vs.length := by
  induction us with
  | nil => intro vs h; cases h; rfl
  | cons v us ih => intro vs h; cases h with | cons a l => rw [List.length_cons, List.length_cons, ih l]
theorem kbn {K : PySem.W.Frag} {x qual : Str} {st : Stmt} {f : Addr} {fd : FuncData} {ps ks : List Str} {n : Nat} (ix : List Nat) (F : Fun K x qual st f fd)
    (h : ∀ (kV doc pm : Value) (an : Option Addr) (cdv ct : Value) (us ws : List Value), us.length = n → ws.length = ks.length → bindArgs (PySem.W.fnOf x qual (defArgs st) (defBody st) (defScope st) .none kV doc pm an cdv ct) ⟨us, ks.zip ws⟩ = pure (ps.zip (permU ix (us ++ ws)))) :
    KBn K fd ps n ks (fun us ws => permU ix (us ++ ws)) (fun vs zs => permV ix (vs ++ zs)) := by
  obtain ⟨oc, od, kV, doc, pm, an, cdv, ct, osl, rfl, lk, hcd⟩ := F.ex
  exact ⟨fun s us ws _ h1 h2 => .of_eq (h kV doc pm an cdv ct us ws h1 h2), fun r rz => perm_rel (r.append rz)⟩
/-- f(e, .., k = v, ..) -/
def fCallN (F : FF) (j l : Nat) (ix : List Nat) (a b : FA) : FE := FM.bind (FM.bind a fun vs => FM.bind b fun xs => FM.pure (vs, xs)) fun p => if p.1.length = j ∧ p.2.length = l then callF F (permR ix (p.1 ++ p.2)) else fFail
def ar2R : Rel (List Vr × List Vr) (List V × List V) := ⟨fun K σ L c G H0 b v => VrAll K σ L c G H0 b.1 v.1 ∧ VrAll K σ L c G H0 b.2 v.2, fun g e h => ⟨h.1.mono g e, h.2.mono g e⟩, fun n h => ⟨h.1.back n, h.2.back n⟩⟩
theorem sim_callN {F : FF} {j l : Nat} {ix : List Nat} (hE : ∀ cls d σ H, W cls d σ H → E cls d H) (h : SimA K W t fs) (hk : SimA K W tk fk) : SimE K W (tCallN j l (spF K F) (fun us ws => permV ix (us ++ ws)) E t tk) (fCallN F j l ix fs fk) := fun P σ c G H Γ L s r e Q post => by
  unfold fCallN at e
  have h2 : Run ar2R K P W σ c G H L (fun Q => t σ H fun b H1 => tk σ H1 fun b2 H2 => Q (b, b2) H2) (FM.bind fs (fun vs => FM.bind fk fun xs => FM.pure (vs, xs)) Γ) :=
    Run.bind2 (R' := ar2R) (t2 := fun H1 Q => tk σ H1 Q) (gb := fun x xs => (x, xs)) (g := fun x xs => (x, xs)) s.iv (h P σ c G H Γ L s) (fun Γ1 c1 G1 H1 L1 s1 => hk P σ c1 G1 H1 Γ1 L1 s1) fun L c G v w b b2 h1 h2 => ⟨h1, h2⟩
  rcases FM.bind_some e with ⟨v, Γ1, e1, e2⟩ | ⟨cn, f, d, Γ1, e1, er⟩
  · refine h2 _ e1 (fun b H2 => b.1.length = j ∧ b.2.length = l ∧ spF K F (permV ix (b.1 ++ b.2)) H2 Q E) ?_
    intro b c1 G1 H1 L1 g1 s1 e1 r1
    have e2 : (if v.1.length = j ∧ v.2.length = l then callF F (permR ix (v.1 ++ v.2)) else fFail) Γ1 = some r := e2
    split at e2
    · rename_i hl
      exact ⟨by rw [r1.1.length]; exact hl.1, by rw [r1.2.length]; exact hl.2, call_core s.iv g1 s1 e1 (perm_vr (r1.1.append r1.2)) hE e2 post⟩
    · cases e2
  · subst er
    exact h2 _ e1 (fun b H2 => b.1.length = j ∧ b.2.length = l ∧ spF K F (permV ix (b.1 ++ b.2)) H2 Q E) post
end
end DF

set_option linter.all false
set_option maxRecDepth 100000
set_option maxHeartbeats 4000000
namespace DF
open PySem L2
variable [TbC]
section
variable {K : PySem.W.Frag} {G G' H H' H0 H1 G1 : Hp} {P : List Addr} {σ σ' : L2.St} {Γ Γ' Γ1 : EnvF} {L L' L1 : List (Addr × OD)} {c c' c1 : Ow} {W : WX}
variable {ta tb te : TE} {t tr tk : TA} {fa fb fc : FE} {fs fr fk : FA} {tt tu : TT} {ft fu : FT} {E : XK} {ts tw : TS} {fS fT : FS}
theorem tl_self : ∀ x ∈ L, TL L x.1 ∨ H x.1 = none := fun x hx => .inl (List.mem_map.mpr ⟨x, hx, rfl⟩)
theorem tl_sub (h : L'.Sublist L) : ∀ x ∈ L', TL L x.1 ∨ H x.1 = none := fun x hx => .inl (List.mem_map.mpr ⟨x, h.subset hx, rfl⟩)
theorem Sta.val (s : Sta K P c G H σ Γ L) (i : Nat) {v : V} {d : D} (a : At K G v d) : ∃ L', Sta K P c G H (σ.set i (some v)) (Γ.set i (.val d)) L' ∧ L'.Sublist L := by
  obtain ⟨L', h1, h2⟩ := s.r.setVal i a
  exact ⟨L', ⟨h1, s.nd.sublist (h2.map _), fun e he => s.ow e (h2.subset he), s.iv, s.pa⟩, h2⟩
/-! assignment -/
/-- a value comes into a slot -/
def putVr (i : Nat) (v : Vr) : FM Unit := fun Γ => match v with
  | .val d => some (.ok () (Γ.set i (.val d)))
  | .own o => some (.ok () (Γ.set i (.own 0 o)))
  | .slot _ => none
theorem Sta.put {u : V} {v : Vr} {i : Nat} (s : Sta K P c G H σ Γ L) (a : VrAt K σ L c G H0 u v) (hn : ∀ b, P.contains b = true → H0 b ≠ none) (e : putVr i v Γ = some (.ok () Γ')) : ∃ L', Sta K P c G H (σ.set i (some u)) Γ' L' ∧ ∀ x ∈ L', TL L x.1 ∨ H0 x.1 = none := by
  cases v with
  | val d =>
    cases e
    obtain ⟨L', h1, h2⟩ := s.val i a
    exact ⟨L', h1, tl_sub h2⟩
  | own o =>
    cases e
    obtain ⟨p, eu, h1, h2, h3⟩ := a
    subst eu
    have np : p ∉ P := fun z => hn p (by simpa using z) h3
    obtain ⟨L', q1, q2, q3⟩ := s.r.setOwn (o := o) np s.nd h2 i
    refine ⟨L', ⟨q1, q2, fun e he => ?_, s.iv, s.pa⟩, fun e he => ?_⟩
    · rcases q3 e he with z | z
      · rw [z]; exact h1
      · exact s.ow e z
    · rcases q3 e he with z | z
      · rw [z]; exact .inr h3
      · exact .inl (List.mem_map.mpr ⟨e, z, rfl⟩)
  | slot j => cases e
def fAsg (i : Nat) (f : FE) : FS := FM.bind f fun v => FM.bind (putVr i v) fun _ => fNx
theorem put_cases {i : Nat} {v : Vr} {r : Rt Fl} (e : FM.bind (putVr i v) (fun _ => fNx) Γ = some r) : ∃ Γ', putVr i v Γ = some (.ok () Γ') ∧ r = .ok .nx Γ' := by
  unfold FM.bind at e
  cases v with
  | val d => cases e; exact ⟨_, rfl, rfl⟩
  | own o => cases e; exact ⟨_, rfl, rfl⟩
  | slot j => cases e
theorem sim_asg {i : Nat} (h : SimE K W te fa) : SimS K W (tAsg te (gName i)) (fAsg i fa) := fun P σ c G H Γ L s r e Dn post => by
  rcases FM.bind_some e with ⟨v, Γ1, e1, e2⟩ | ⟨cn, f, d, Γ1, e1, er⟩
  · refine h P σ c G H Γ L s _ e1 _ ?_
    intro b c1 G1 H1 L1 g1 s1 e1' r1
    obtain ⟨Γ2, ep, er⟩ := put_cases e2
    subst er
    obtain ⟨L2, s2, n2⟩ := s1.put (H0 := H) r1 (fun b hb => s.pa b (by simpa using hb)) ep
    exact post.nx Γ2 rfl _ c1 G1 H1 L2 g1 s2 fun x hx => (n2 x hx).elim (fun z => .inl (by unfold TL at z ⊢; rwa [e1'] at z)) .inr
  · subst er
    exact h P σ c G H Γ L s _ e1 _ (post.ex cn f d Γ1 rfl)
def fDrop (f : FE) : FS := FM.bind f fun _ => fNx
theorem sim_drop (h : SimE K W te fa) : SimS K W (tDrop te) (fDrop fa) := fun P σ c G H Γ L s r e Dn post => by
  rcases FM.bind_some e with ⟨v, Γ1, e1, e2⟩ | ⟨cn, f, d, Γ1, e1, er⟩
  · refine h P σ c G H Γ L s _ e1 _ ?_
    intro b c1 G1 H1 L1 g1 s1 e1' r1
    cases e2
    exact post.nx Γ1 rfl σ c1 G1 H1 L1 g1 s1 (tl_of e1')
  · subst er
    exact h P σ c G H Γ L s _ e1 _ (post.ex cn f d Γ1 rfl)
/-! a thing of one's own is told from now on -/
def odD : OD → Option D
  | .lst ds => some (.lst ds)
  | .dct ds => some (.dct ds)
  | .ins c gs => some (.ins c gs)
theorem hasO_at {p : Addr} {o : OD} {d : D} (h : HasO K G H p o) (e : odD o = some d) : ∃ ho, H p = some ho ∧ ∀ G', Ext G G' → G' p = some ho → At K G' (.ref p) d := by
  cases o with
  | lst ds => cases e; obtain ⟨vs, h1, h2⟩ := h; exact ⟨_, h1, fun G' e k => .lst k (h2.mono e)⟩
  | dct ds => cases e; obtain ⟨vs, h1, h2⟩ := h; exact ⟨_, h1, fun G' e k => .dct k (h2.mono e)⟩
  | ins c gs => cases e; obtain ⟨C, dx, fs, ct, h1, h2⟩ := h; exact ⟨_, h1, fun G' e k => .ins ct k (h2.mono e)⟩
theorem told_core {i k : Nat} {o : OD} {d : D} (s : Sta K P c G H σ Γ L) (ei : Γ[i]? = some (.own k o)) (ed : odD o = some d) : ∃ p c' G' L', σ[i]? = some (some (.ref p)) ∧ Grow (TL L) c G H c' G' H ∧ Sta K P c' G' H σ (Γ.set i (.val d)) L' ∧ L'.Sublist L ∧ At K G' (.ref p) d := by
  obtain ⟨p, h1, h2, h3⟩ := s.r.getO ei
  have hc := s.ow _ h2
  obtain ⟨ho, hp, hat⟩ := hasO_at (s.iv.ow _ _ hc).2 ed
  obtain ⟨g, v⟩ := own_told (T := TL L) s.iv (List.mem_map.mpr ⟨_, h2, rfl⟩) hc hp
  have at' := hat _ g.g upd_same
  obtain ⟨L', q1, q2, q3⟩ := (s.r.mono g.g).see s.nd ei h1 at'
  refine ⟨p, _, _, L', h1, g, ⟨q1, s.nd.sublist (q2.map _), fun e he => ?_, v, s.pa⟩, q2, at'⟩
  have ne : e.1 ≠ p := fun z => q3 (by rw [← z]; exact List.mem_map.mpr ⟨e, he, rfl⟩)
  show c.del p e.1 = some e.2
  rw [Ow.del_ne ne]
  exact s.ow e (q2.subset he)
def frz (i : Nat) (Γ : EnvF) : Option EnvF := match Γ[i]? with
  | some (.own 0 o) => (odD o).map fun d => Γ.set i (.val d)
  | _ => none
def fFrz (i : Nat) (f : FS) : FS := fun Γ => match frz i Γ with
  | some Γ' => f Γ'
  | none => f Γ
theorem sim_frz {i : Nat} (h : SimS K W ts fS) : SimS K W ts (fFrz i fS) := fun P σ c G H Γ L s r e Dn post => by
  unfold fFrz at e
  cases ef : frz i Γ with
  | none => rw [ef] at e; exact h P σ c G H Γ L s r e Dn post
  | some Γ' =>
    rw [ef] at e
    unfold frz at ef
    cases ei : Γ[i]? with
    | none => rw [ei] at ef; cases ef
    | some x =>
      rw [ei] at ef
      cases x with
      | own k o =>
        cases k with
        | zero =>
          simp only [Option.map_eq_some_iff] at ef
          obtain ⟨d, ed, e2⟩ := ef
          subst e2
          obtain ⟨p, c', G', L', h1, g, s', n, _⟩ := told_core s ei ed
          exact h P σ c' G' H _ L' s' r e Dn (post.trans s.iv g (tl_sub n))
        | succ k => cases ef
      | no => cases ef
      | exc => cases ef
      | val d => cases ef
/-! the end of a def -/
def fRet (f : FE) : FS := FM.bind f fun v Γ => match v with
  | .slot i => match frz i Γ, Γ[i]? with
    | some Γ', some (.own 0 o) => (odD o).map fun d => .ok (.rt (.val d)) Γ'
    | _, _ => none
  | v => some (.ok (.rt v) Γ)
theorem sim_ret (h : SimE K W te fa) : SimS K W (tRet te) (fRet fa) := fun P σ c G H Γ L s r e Dn post => by
  rcases FM.bind_some e with ⟨v, Γ1, e1, e2⟩ | ⟨cn, f, d, Γ1, e1, er⟩
  · refine h P σ c G H Γ L s _ e1 _ ?_
    intro b c1 G1 H1 L1 g1 s1 e1' r1
    cases v with
    | val d => cases e2; exact post.rt _ Γ1 rfl b σ c1 G1 H1 L1 g1 s1 (tl_of e1') r1
    | own o => cases e2; exact post.rt _ Γ1 rfl b σ c1 G1 H1 L1 g1 s1 (tl_of e1') r1
    | slot i =>
      have e2 : (match frz i Γ1, Γ1[i]? with
        | some Γ', some (.own 0 o) => (odD o).map fun d => Rt.ok (Fl.rt (.val d)) Γ'
        | _, _ => none) = some r := e2
      unfold frz at e2
      cases ei : Γ1[i]? with
      | none => rw [ei] at e2; cases e2
      | some x =>
        rw [ei] at e2
        cases x with
        | own k o =>
          cases k with
          | zero =>
            cases ed : odD o with
            | none => simp [ed] at e2
            | some d =>
              simp [ed] at e2
              subst e2
              obtain ⟨p, c', G', L', h1, g, s', n, at'⟩ := told_core s1 ei ed
              have eb : b = .ref p := by
                have z : σ[i]? = some (some b) := r1
                rw [h1] at z; injection z with z; injection z with z; exact z.symm
              subst eb
              refine post.rt (.val d) _ rfl (.ref p) σ c' G' H1 L' (g1.trans' s.iv g (fun _ z => z) fun b z => .inl (by unfold TL at z ⊢; rwa [e1'] at z)) s' (fun x hx => ?_) at'
              exact tl_of e1' x (n.subset hx)
          | succ k => simp at e2
        | no => simp at e2
        | exc => simp at e2
        | val d => simp at e2
  · subst er
    exact h P σ c G H Γ L s _ e1 _ (post.ex cn f d Γ1 rfl)
/-- .. handing over what is one's own -/
def fRetO (f : FE) : FS := FM.bind f fun v Γ => match v with
  | .slot _ => none
  | v => some (.ok (.rt v) Γ)
def fRetN : FS := FM.pure (.rt (.val .non))
def fBrk : FS := FM.pure .bk
def fCont : FS := FM.pure .ct
theorem sim_brk : SimS K W tBreak fBrk := fun P σ c G H Γ L s r e Dn post => by
  cases e
  exact post.bk Γ rfl σ c G H L .refl s tl_self
def fIfS (a : FT) (b c : FS) : FS := FM.bind a fun k => if k = true then b else c
theorem sim_ifS (ha : SimT K W tt ft) (hb : SimS K W ts fS) (hc : SimS K W tw fT) : SimS K W (tIfS tt ts tw) (fIfS ft fS fT) := fun P σ c G H Γ L s => by
  refine RunS.bind (t2 := fun k H1 Dn => if k = true then ts Dn σ H1 else tw Dn σ H1) s.iv (ha P σ c G H Γ L s) fun k Γ1 b c1 G1 H1 L1 g1 s1 e1 r1 => ?_
  have e : b = k := r1
  subst e
  cases b with
  | true => exact hb P σ c1 G1 H1 Γ1 L1 s1
  | false => exact hc P σ c1 G1 H1 Γ1 L1 s1
def fNever : FS := fFail
theorem sim_never : SimS K W tNever fNever := fun P σ c G H Γ L s r e => by cases e
end
end DF

set_option linter.all false
set_option maxRecDepth 100000
set_option maxHeartbeats 4000000
namespace DF
open PySem PySem.Spec PyProof.Rows L2
variable [TbC]
/-! ### what is walked, by its value -/
def iAny (K : PySem.W.Frag) (tl : TE) : TI := fun σ H R => tl σ H fun x H1 => (∃ a, x = .ref a ∧ (∃ xs, SqL K H1 a xs) ∧ R (Itl K a) H1) ∨ (∃ a, x = .ref a ∧ (∃ xs, SqT K H1 a xs) ∧ R (Itt K a) H1) ∨ (∃ z, x = .str z ∧ R (Its z) H1)
theorem pi_any {X : Cx} {tg l : Expr} {tl : TE} (hl : PE X l tl) : PI X tg l (iAny X.K tl) := by
  refine ⟨fun pins s σ H R I h => ?_⟩
  refine thn (hl.run pins s σ H _ I h) fun v s1 ⟨x, H1, I1, r1, q1⟩ => ?_
  rcases q1 with ⟨a, e, ⟨xs, hq⟩, q⟩ | ⟨a, e, ⟨xs, hq⟩, q⟩ | ⟨z, ex, q⟩
  · subst e
    cases r1
    obtain ⟨its, rv, p, hz⟩ := I1.list hq
    refine wpAny_pyIter_list p.isList ?_
    refine ⟨s1.heap.objs.size, [s1.heap.objs.size], _, _, H1, rfl, I1.kept (t' := s1.toks) fun b o e => Heap.get?_push_of_some _ e, turn_list a _, ⟨_, Heap.get?_push_size _ rfl, rfl, rfl⟩, fun b hb => ?_, q⟩
    have e : b = s1.heap.objs.size := by simpa using hb
    subst e
    exact I1.fpOk (Nat.le_refl _) (I1.hok.fresh (Nat.le_refl _))
  · subst e
    cases r1
    obtain ⟨its, rv, p, hz⟩ := I1.tuple hq
    refine wpAny_pyIter_tuple (show s1.heap.IsTuple a its.toArray from p) ?_
    refine ⟨s1.heap.objs.size, [s1.heap.objs.size], _, _, H1, rfl, I1.kept (t' := s1.toks) fun b o e => Heap.get?_push_of_some _ e, turn_tuple a _, ⟨_, Heap.get?_push_size _ rfl, rfl, rfl⟩, fun b hb => ?_, q⟩
    have e : b = s1.heap.objs.size := by simpa using hb
    subst e
    exact I1.fpOk (Nat.le_refl _) (I1.hok.fresh (Nat.le_refl _))
  · subst ex
    obtain ⟨t, rfl⟩ := r1
    cases ha : z.cps.all (· < 128)
    · exact wpAny_pyIter_wide ha (pi_one (tk := s1.toks) I1 _ (turn_str _ z t "str_iterator" (.inr rfl)) ⟨_, Heap.get?_push_size _ rfl, rfl, rfl⟩ q)
    · exact wpAny_pyIter_ascii ha (pi_one (tk := s1.toks) I1 _ (turn_str _ z t "str_ascii_iterator" (.inl rfl)) ⟨_, Heap.get?_push_size _ rfl, rfl, rfl⟩ q)

section
variable {K : PySem.W.Frag} {G G' H H' H0 H1 G1 : Hp} {P : List Addr} {σ σ' : L2.St} {Γ Γ' Γ1 : EnvF} {L L' L1 : List (Addr × OD)} {c c' c1 : Ow} {W : WX}
variable {ta tb te : TE} {t tr tk : TA} {fa fb fc : FE} {fs fr fk : FA} {tt tu : TT} {ft fu : FT} {E : XK} {ts tw : TS} {fS fT : FS}
def IsW (K : PySem.W.Frag) (J : It) (ds : List D) (G1 : Hp) : Prop := ∃ (Gd : Hp → Prop) (Y : Nat → Hp → V → Hp → Prop), Walk J ds.length Gd Y ∧ (∀ H, Ext G1 H → Gd H) ∧
  ∀ i H x H' G, i < ds.length → Ext G1 G → Ext G H → Y i H x H' → ∃ G' d, PG G H G' H' ∧ ds[i]? = some d ∧ At K G' x d
theorem IsW.mono {J : It} {ds : List D} (h : IsW K J ds G) (e : Ext G G') : IsW K J ds G' := by
  obtain ⟨Gd, Y, w, h1, h2⟩ := h
  exact ⟨Gd, Y, w, fun H k => h1 H (e.trans k), fun i H x H' G2 hi k => h2 i H x H' G2 hi (e.trans k)⟩
def wkR : Rel (List D) It := ⟨fun K _ _ _ G _ J ds => IsW K J ds G, fun g _ h => h.mono g.g, fun _ h => h⟩
abbrev SimW := SimX (α := List D) (β := It) wkR
abbrev FW := FM (List D)
def chrD (c : Nat) : D := .str ⟨#[c]⟩
def itemsOf : D → Option (List D)
  | .lst ds => some ds
  | .tup ds => some ds
  | .str z => some (z.cps.toList.map chrD)
  | .scr ns => some (ns.map .int)
  | _ => none
theorem ext_lst {G H : Hp} (z : Ext G H) {p : Addr} {vs : List V} (h : G p = some (.lst vs)) : SqL K H p vs := .inl (.inl (z _ _ h))
theorem atl_ints : ∀ ns : List Int, AtL K G (ns.map V.int) (ns.map D.int)
  | [] => .nil
  | n :: ns => .cons (.int n) (atl_ints ns)
theorem sq_w {p : Addr} {vs : List V} {ds : List D} (hs : ∀ H, Ext G H → SqL K H p vs) (l : AtL K G vs ds) : IsW K (Itl K p) ds G := by
  refine ⟨_, _, (by rw [← l.length]; exact walk_list (xs := vs)), hs, fun i H' x H2 G' hi e1 e2 y => ?_⟩
  obtain ⟨ey, hx⟩ := y
  subst ey
  obtain ⟨dx, k1, k2⟩ := l.get' hx
  exact ⟨G', dx, PG.refl e2, k1, k2.mono e1⟩
/-- a value is walked -/
def wAny (f : FE) : FW := FM.bind (fV f) fun d => fOf (itemsOf d)
theorem sim_wAny (h : SimE K W ta fa) : SimW K W (iAny K ta) (wAny fa) := fun P σ c G H Γ L s => by
  unfold wAny
  refine Run.bind (t2 := fun x H1 R => (∃ a, x = V.ref a ∧ (∃ xs, SqL K H1 a xs) ∧ R (Itl K a) H1) ∨ (∃ a, x = .ref a ∧ (∃ xs, SqT K H1 a xs) ∧ R (Itt K a) H1) ∨ (∃ z, x = .str z ∧ R (Its z) H1)) s.iv (sim_val h P σ c G H Γ L s) fun d Γ1 u c1 G1 H1 L1 g1 s1 e1 r1 => ?_
  intro r e Q post
  have r1 : At K G1 u d := r1
  cases r1 with
  | @lst p vs ds hs l =>
    cases e
    exact .inl ⟨p, rfl, ⟨vs, ext_lst s1.iv.i hs⟩, post _ c1 G1 H1 L1 .refl s1 rfl (sq_w (fun H e => ext_lst e hs) l)⟩
  | @scr p ns hs =>
    cases e
    exact .inl ⟨p, rfl, ⟨_, (hs.ext s1.iv.i).seq⟩, post _ c1 G1 H1 L1 .refl s1 rfl (sq_w (fun H e => (hs.ext e).seq) (atl_ints ns))⟩
  | @tup p vs ds hs l =>
    cases e
    refine .inr (.inl ⟨p, rfl, ⟨vs, sqT_ext hs s1.iv.i⟩, post _ c1 G1 H1 L1 .refl s1 rfl ?_⟩)
    refine ⟨_, _, (by rw [← l.length]; exact walk_tup (xs := vs)), fun H e => sqT_ext hs e, fun i H' x H2 G' hi e1 e2 y => ?_⟩
    obtain ⟨ey, hx⟩ := y
    subst ey
    obtain ⟨dx, k1, k2⟩ := l.get' hx
    exact ⟨G', dx, PG.refl e2, k1, k2.mono e1⟩
  | str z =>
    cases e
    refine .inr (.inr ⟨z, rfl, post _ c1 G1 H1 L1 .refl s1 rfl ?_⟩)
    refine ⟨_, _, (by rw [List.length_map, Array.length_toList]; exact walk_str (z := z)), fun H' e => trivial, fun i H' x H2 G' hi e1 e2 y => ?_⟩
    obtain ⟨ey, c, hc, ex⟩ := y
    subst ey ex
    exact ⟨G', chrD c, PG.refl e2, by rw [List.getElem?_map, Array.getElem?_toList, hc]; rfl, .str _⟩
  | non => cases e
  | bl b => cases e
  | int b => cases e
  | ty b => cases e
  | cls b => cases e
  | ins b c d => cases e
  | dct b c => cases e
def rangeD (lo hi : Int) : List D := (List.range (hi - lo).toNat).map fun i => .int (lo + (i : Nat))
theorem range_w {lo hi : Int} : IsW K (Itr lo (hi - lo).toNat) (rangeD lo hi) G := by
  unfold rangeD
  refine ⟨_, _, (by rw [List.length_map, List.length_range]; exact walk_range), fun H e => trivial, fun i H' x H2 G' hi e1 e2 y => ?_⟩
  obtain ⟨ey, hx⟩ := y
  subst ey hx
  rw [List.length_map, List.length_range] at hi
  exact ⟨G', _, PG.refl e2, by rw [List.getElem?_map, List.getElem?_range hi]; rfl, .int _⟩
def wRng1 (f : FA) : FW := FM.bind (fVs f) fun | [.int j] => if -(2 ^ 62) ≤ j ∧ j < 2 ^ 62 then FM.pure (rangeD 0 j) else fFail | _ => fFail
def wRng2 (f : FA) : FW := FM.bind (fVs f) fun | [.int i, .int j] => if -(2 ^ 62) ≤ i ∧ i < 2 ^ 62 ∧ -(2 ^ 62) ≤ j ∧ j < 2 ^ 62 then FM.pure (rangeD i j) else fFail | _ => fFail
theorem atl1 {us : List V} {x : D} (h : AtL K G us [x]) : ∃ u, us = [u] ∧ At K G u x := by
  cases h with | cons a l => cases l; exact ⟨_, rfl, a⟩
theorem atl2 {us : List V} {x y : D} (h : AtL K G us [x, y]) : ∃ u v, us = [u, v] ∧ At K G u x ∧ At K G v y := by
  cases h with | cons a l => obtain ⟨v, e, b⟩ := atl1 l; subst e; exact ⟨_, v, rfl, a, b⟩
theorem sim_rng1 (h : SimA K W t fs) : SimW K W (iRng1 t) (wRng1 fs) := fun P σ c G H Γ L s => by
  unfold wRng1
  refine Run.bind (t2 := fun vs H1 R => ∃ j : Int, vs = [V.int j] ∧ -(2 ^ 62) ≤ j ∧ j < 2 ^ 62 ∧ R (Itr 0 j.toNat) H1) s.iv (sim_vals h P σ c G H Γ L s) fun ds Γ1 us c1 G1 H1 L1 g1 s1 e1 r1 => ?_
  intro r e Q post
  split at e
  · rename_i j
    split at e
    · rename_i hj
      cases e
      obtain ⟨u, e2, h1⟩ := atl1 r1
      subst e2; cases h1
      refine ⟨j, rfl, hj.1, hj.2, post _ c1 G1 H1 L1 .refl s1 rfl ?_⟩
      have := range_w (K := K) (G := G1) (lo := 0) (hi := j)
      rwa [Int.sub_zero] at this
    · cases e
  · cases e
/-! targets -/
def SmS (vs : List Nat) (σ σ' : L2.St) : Prop := σ'.length = σ.length ∧ ∀ k, k ∉ vs → σ'[k]? = σ[k]?
theorem SmS.refl {vs : List Nat} {σ : L2.St} : SmS vs σ σ := ⟨rfl, fun _ _ => rfl⟩
theorem SmS.trans {vs ws : List Nat} {σ σ' σ'' : L2.St} (a : SmS vs σ σ') (b : SmS ws σ' σ'') : SmS (vs ++ ws) σ σ'' := ⟨b.1.trans a.1, fun k hk => (b.2 k fun z => hk (List.mem_append_right _ z)).trans (a.2 k fun z => hk (List.mem_append_left _ z))⟩
def SimG (K : PySem.W.Frag) (W : WX) (vs : List Nat) (g : TG) (f : D → FM Unit) : Prop := ∀ P σ c G H Γ L, Sta K P c G H σ Γ L → ∀ u d, At K G u d → ∀ r, f d Γ = some r → ∀ Q : L2.St → Hp → Prop,
  (∀ Γ', r = .ok () Γ' → ∀ σ' c' G' H' L', SmS vs σ σ' → Grow (TL L) c G H c' G' H' → Sta K P c' G' H' σ' Γ' L' → (∀ x ∈ L', TL L x.1 ∨ H x.1 = none) → Q σ' H') →
  (∀ cn f d Γ', r = .ex cn f d Γ' → PostX K P W c G H L cn f d Γ') → g u σ H Q
def SimGs (K : PySem.W.Frag) (W : WX) (vs : List Nat) (g : TGs) (f : List D → FM Unit) : Prop := ∀ P σ c G H Γ L, Sta K P c G H σ Γ L → ∀ us ds, AtL K G us ds → ∀ r, f ds Γ = some r → ∀ Q : L2.St → Hp → Prop,
  (∀ Γ', r = .ok () Γ' → ∀ σ' c' G' H' L', SmS vs σ σ' → Grow (TL L) c G H c' G' H' → Sta K P c' G' H' σ' Γ' L' → (∀ x ∈ L', TL L x.1 ∨ H x.1 = none) → Q σ' H') →
  (∀ cn f d Γ', r = .ex cn f d Γ' → PostX K P W c G H L cn f d Γ') → g us σ H Q
def pName (i : Nat) : D → FM Unit := fun d Γ => some (.ok () (Γ.set i (.val d)))
theorem sim_gname {i : Nat} : SimG K W [i] (gName i) (pName i) := fun P σ c G H Γ L s u d a r e Q q _ => by
  cases e
  obtain ⟨L', h1, h2⟩ := s.val i a
  exact q _ rfl _ c G H L' ⟨List.length_set, fun k hk => List.getElem?_set_ne fun z => hk (by rw [z]; exact List.mem_singleton_self _)⟩ .refl h1 (tl_sub h2)
def pNil : List D → FM Unit
  | [] => FM.pure ()
  | _ => fFail
def pCons (f : D → FM Unit) (g : List D → FM Unit) : List D → FM Unit
  | d :: ds => FM.bind (f d) fun _ => g ds
  | [] => fFail
theorem fresh_trans (g : Grow (TL L) c G H c1 G1 H1) (n1 : ∀ x ∈ L1, TL L x.1 ∨ H x.1 = none) (n2 : ∀ x ∈ L', TL L1 x.1 ∨ H1 x.1 = none) : ∀ x ∈ L', TL L x.1 ∨ H x.1 = none := fun x hx => by
  rcases n2 x hx with z | z
  · obtain ⟨y, hy, ey⟩ := List.mem_map.mp z
    have := n1 y hy
    rwa [ey] at this
  · exact .inr (back_of g z)
theorem tl_fresh (n1 : ∀ x ∈ L1, TL L x.1 ∨ H x.1 = none) : ∀ b, TL L1 b → TL L b ∨ H b = none := fun b hb => by
  obtain ⟨y, hy, ey⟩ := List.mem_map.mp hb
  exact ey ▸ n1 y hy
theorem sim_gnil : SimGs K W [] gNil pNil := fun P σ c G H Γ L s us ds a r e Q q _ => by
  cases a with
  | nil => cases e; exact ⟨rfl, q _ rfl σ c G H L .refl .refl s tl_self⟩
  | cons _ _ => cases e
theorem sim_gcons {vs ws : List Nat} {g : TG} {gr : TGs} {f : D → FM Unit} {h : List D → FM Unit} (hg : SimG K W vs g f) (hr : SimGs K W ws gr h) : SimGs K W (vs ++ ws) (gCons g gr) (pCons f h) := fun P σ c G H Γ L s us ds a r e Q q qx => by
  cases a with
  | nil => cases e
  | cons a l =>
    rcases FM.bind_some e with ⟨v, Γ1, e1, e2⟩ | ⟨cn, f, d, Γ1, e1, er⟩
    · refine ⟨_, _, rfl, hg P σ c G H Γ L s _ _ a _ e1 _ (fun Γ' er σ' c1 G1 H1 L1 m1 g1 s1 n1 => ?_) fun _ _ _ _ er => (by cases er)⟩
      cases er
      exact hr P σ' c1 G1 H1 _ L1 s1 _ _ (AtL.mono g1.g l) r e2 Q (fun Γ' er σ'' c2 G2 H2 L2' m2 g2 s2 n2 => q Γ' er σ'' c2 G2 H2 L2' (m1.trans m2) (g1.trans' s.iv g2 (fun _ z => z) (tl_fresh n1)) s2 (fresh_trans g1 n1 n2))
        fun cn f d Γ' er => PostX.trans s.iv g1 n1 (qx cn f d Γ' er)
    · subst er
      exact ⟨_, _, rfl, hg P σ c G H Γ L s _ _ a _ e1 _ (fun _ er => (by cases er)) qx⟩
def pTup (k : Nat) (f : List D → FM Unit) : D → FM Unit
  | .tup ds => if ds.length = k then f ds else fFail
  | _ => fFail
theorem sim_gtup {vs : List Nat} {k : Nat} {g : TGs} {f : List D → FM Unit} (hg : SimGs K W vs g f) : SimG K W vs (gTup K k g) (pTup k f) := fun P σ c G H Γ L s u d a r e Q q qx => by
  cases a with
  | @tup p vs ds hs l =>
    have e : (if ds.length = k then f ds else fFail) Γ = some r := e
    split at e
    · rename_i hk
      exact ⟨p, vs, rfl, sqT_ext hs s.iv.i, by rw [l.length]; exact hk, hg P σ c G H Γ L s vs ds l r e Q q qx⟩
    · cases e
  | _ => cases e
def pUnl (k : Nat) (f : List D → FM Unit) : D → FM Unit
  | .lst ds => if ds.length = k then f ds else fFail
  | _ => fFail
def fAsgG (f : FE) (g : D → FM Unit) : FS := FM.bind (fV f) fun d => FM.bind (g d) fun _ => fNx
theorem unit_cases {x : FM Unit} {r : Rt Fl} (e : FM.bind x (fun _ => fNx) Γ = some r) : (∃ Γ', x Γ = some (.ok () Γ') ∧ r = .ok .nx Γ') ∨ ∃ c f d Γ', x Γ = some (.ex c f d Γ') ∧ r = .ex c f d Γ' := by
  rcases FM.bind_some e with ⟨v, Γ1, e1, e2⟩ | h
  · cases e2; exact .inl ⟨Γ1, e1, rfl⟩
  · exact .inr h
theorem sim_asgG {vs : List Nat} {g : TG} {f : D → FM Unit} (h : SimE K W te fa) (hg : SimG K W vs g f) : SimS K W (tAsg te g) (fAsgG fa f) := fun P σ c G H Γ L s r e Dn post => by
  rcases FM.bind_some e with ⟨d, Γ1, e1, e2⟩ | ⟨cn, f, d, Γ1, e1, er⟩
  · refine sim_val h P σ c G H Γ L s _ e1 _ ?_
    intro b c1 G1 H1 L1 g1 s1 e1' r1
    have post1 := post.trans s.iv g1 (tl_of e1')
    rcases unit_cases e2 with ⟨Γ2, eu, er⟩ | ⟨cn, f, d2, Γ2, eu, er⟩
    · subst er
      exact hg P σ c1 G1 H1 Γ1 L1 s1 b d r1 _ eu _ (fun Γ' er σ' c2 G2 H2 L2' m2 g2 s2 n2 => by cases er; exact post1.nx _ rfl σ' c2 G2 H2 L2' g2 s2 n2) fun _ _ _ _ er => (by cases er)
    · subst er
      exact hg P σ c1 G1 H1 Γ1 L1 s1 b d r1 _ eu _ (fun _ er => (by cases er)) fun cn' f' d' Γ' er => by cases er; exact post1.ex _ _ _ _ rfl
  · subst er
    exact sim_val h P σ c G H Γ L s _ e1 _ (post.ex cn f d Γ1 rfl)
/-- x, y = a, b -/
def fPar (i j : Nat) (f : FA) : FS := FM.bind (fVs f) fun ds Γ => match ds with
  | [x, y] => some (.ok .nx ((Γ.set i (.val x)).set j (.val y)))
  | _ => none
theorem sim_par {i j : Nat} (h : SimA K W t fs) : SimS K W (tPar i j t) (fPar i j fs) := fun P σ c G H Γ L s r e Dn post => by
  rcases FM.bind_some e with ⟨ds, Γ1, e1, e2⟩ | ⟨cn, f, d, Γ1, e1, er⟩
  · refine sim_vals h P σ c G H Γ L s _ e1 _ ?_
    intro b c1 G1 H1 L1 g1 s1 e1' r1
    split at e2
    · cases e2
      obtain ⟨u, v, eb, h1, h2⟩ := atl2 r1
      subst eb
      obtain ⟨La, sa, na⟩ := s1.val i h1
      obtain ⟨Lb, sb, nb⟩ := sa.val j h2
      exact ⟨u, v, rfl, post.nx _ rfl _ c1 G1 H1 Lb g1 sb fun x hx => tl_of e1' x (na.subset (nb.subset hx))⟩
    · cases e2
  · subst er
    exact sim_vals h P σ c G H Γ L s _ e1 _ (post.ex cn f d Γ1 rfl)
def fPar3 (i j l : Nat) (f : FA) : FS := FM.bind (fVs f) fun ds Γ => match ds with
  | [x, y, z] => some (.ok .nx (((Γ.set i (.val x)).set j (.val y)).set l (.val z)))
  | _ => none
/-! for -/
def forL (g : D → FM Unit) (b : FS) : List D → FS
  | [] => fNx
  | d :: ds => FM.bind (g d) fun _ => FM.bind b fun
    | .nx => forL g b ds
    | .ct => forL g b ds
    | .bk => fNx
    | .rt v => FM.pure (.rt v)
def fFor (w : FW) (g : D → FM Unit) (b : FS) : FS := FM.bind w fun ds => forL g b ds
theorem sim_for {vs : List Nat} {wi : TI} {g : TG} {fw : FW} {f : D → FM Unit} (hw : SimW K W wi fw) (hg : SimG K W vs g f) (hb : SimS K W ts fS) : SimS K W (tFor wi g ts) (fFor fw f fS) := fun P σ c G H Γ L s r e Dn post => by
  rcases FM.bind_some e with ⟨ds, Γ1, e1, e2⟩ | ⟨cn, fld, d, Γ1, e1, er⟩
  · refine hw P σ c G H Γ L s _ e1 _ ?_
    intro J c1 G1 H1 L1 g1 s1 e1' r1
    obtain ⟨Gd, Y, w, hG, hY⟩ := r1
    have post1 := post.trans s.iv g1 (tl_of e1')
    refine for_it w (fun i σ' H' => ∃ Γ' c' G' L', Grow (TL L1) c1 G1 H1 c' G' H' ∧ Sta K P c' G' H' σ' Γ' L' ∧ (∀ x ∈ L', TL L1 x.1 ∨ H1 x.1 = none) ∧ forL f fS (ds.drop i) Γ' = some r) ⟨Γ1, c1, G1, L1, .refl, s1, tl_self, by simpa using e2⟩ (fun i σ' H' _ ⟨_, _, G', _, g', s', _, _⟩ => hG _ (g'.g.trans s'.iv.i)) ?_ ?_
    · rintro i x σ' H' H2 hi ⟨Γ', c', G', L', g', s', n', ef⟩ y
      obtain ⟨G2, d, pg, ed, td⟩ := hY i H' x H2 G' hi g'.g s'.iv.i y
      have s2 := s'.pg pg
      have g2 : Grow (TL L1) c1 G1 H1 c' G2 H2 := g'.trans s1.iv (pg.grow s'.iv)
      have edr : ds.drop i = d :: ds.drop (i + 1) := by
        obtain ⟨h1, h2⟩ := List.getElem?_eq_some_iff.mp ed
        rw [← h2]; exact List.drop_eq_getElem_cons h1
      rw [edr] at ef
      rcases FM.bind_some ef with ⟨_, Γ3, e3, e4⟩ | ⟨cn, fld, d3, Γ3, e3, er⟩
      · refine hg P σ' c' G2 H2 Γ' L' s2 x d td _ e3 _ (fun Γ4 er σ3 c3 G3 H3 L3 m3 g3 s3 n3 => ?_) fun _ _ _ _ er => (by cases er)
        cases er
        have g3' := g2.trans' s1.iv g3 (fun _ z => z) (tl_fresh n')
        have n3' := fresh_trans g2 n' n3
        rcases FM.bind_some e4 with ⟨fl, Γ4, e5, e6⟩ | ⟨cn, fld, d4, Γ4, e5, er⟩
        · refine hb P σ3 c3 G3 H3 Γ3 L3 s3 _ e5 _ ?_
          have next : ∀ Γ5, Rt.ok fl Γ4 = .ok .nx Γ5 ∨ Rt.ok fl Γ4 = .ok .ct Γ5 → ∀ σ4 c4 G4 H4 L4, Grow (TL L3) c3 G3 H3 c4 G4 H4 → Sta K P c4 G4 H4 σ4 Γ5 L4 → (∀ x ∈ L4, TL L3 x.1 ∨ H3 x.1 = none) →
              ∃ Γ' c' G' L', Grow (TL L1) c1 G1 H1 c' G' H4 ∧ Sta K P c' G' H4 σ4 Γ' L' ∧ (∀ x ∈ L', TL L1 x.1 ∨ H1 x.1 = none) ∧ forL f fS (ds.drop (i + 1)) Γ' = some r := by
            intro Γ5 er σ4 c4 G4 H4 L4 g4 s4 n4
            refine ⟨Γ5, c4, G4, L4, g3'.trans' s1.iv g4 (fun _ z => z) (tl_fresh n3'), s4, fresh_trans g3' n3' n4, ?_⟩
            rcases er with er | er <;> cases er <;> exact e6
          refine ⟨fun Γ5 er => next Γ5 (.inl er), fun Γ5 er σ4 c4 G4 H4 L4 g4 s4 n4 => ?_, fun Γ5 er => next Γ5 (.inr er), fun v Γ5 er u σ4 c4 G4 H4 L4 g4 s4 n4 t4 => ?_, fun _ _ _ _ er => (by cases er)⟩
          · cases er; cases e6
            exact post1.nx _ rfl σ4 c4 G4 H4 L4 (g3'.trans' s1.iv g4 (fun _ z => z) (tl_fresh n3')) s4 (fresh_trans g3' n3' n4)
          · cases er; cases e6
            exact post1.rt _ _ rfl u σ4 c4 G4 H4 L4 (g3'.trans' s1.iv g4 (fun _ z => z) (tl_fresh n3')) s4 (fresh_trans g3' n3' n4) (t4.back g3'.n)
        · subst er
          refine hb P σ3 c3 G3 H3 Γ3 L3 s3 _ e5 _ ⟨fun _ er => (by cases er), fun _ er => (by cases er), fun _ er => (by cases er), fun _ _ er => (by cases er), fun cn' f' d' Γ' er => ?_⟩
          cases er
          exact PostX.trans s1.iv g3' n3' (post1.ex _ _ _ _ rfl)
      · subst er
        exact hg P σ' c' G2 H2 Γ' L' s2 x d td _ e3 _ (fun _ er => (by cases er)) fun cn' f' d' Γ4 er => by
          cases er
          exact PostX.trans s1.iv g2 n' (post1.ex _ _ _ _ rfl)
    · rintro σ' H' ⟨Γ', c', G', L', g', s', n', ef⟩
      rw [List.drop_length] at ef
      cases ef
      exact post1.nx Γ' rfl σ' c' G' H' L' g' s' n'
  · subst er
    exact hw P σ c G H Γ L s _ e1 _ (post.ex cn fld d Γ1 rfl)
/-! while -/
def whileN (a : FT) (b : FS) : Nat → FS
  | 0 => fFail
  | n + 1 => FM.bind a fun k => if k = true then FM.bind b fun
    | .nx => whileN a b n
    | .ct => whileN a b n
    | .bk => fNx
    | .rt v => FM.pure (.rt v) else fNx
def fWhile (n : Nat) (a : FT) (b : FS) : FS := whileN a b n
theorem sim_while {n : Nat} (ha : SimT K W tt ft) (hb : SimS K W ts fS) : SimS K W (tWhile tt ts) (fWhile n ft fS) := fun P σ c G H Γ L s r e Dn post => by
  refine ⟨fun m σ' H' => ∃ Γ' c' G' L', Grow (TL L) c G H c' G' H' ∧ Sta K P c' G' H' σ' Γ' L' ∧ (∀ x ∈ L', TL L x.1 ∨ H x.1 = none) ∧ whileN ft fS m Γ' = some r, ⟨n, Γ, c, G, L, .refl, s, tl_self, e⟩, ?_⟩
  rintro m σ' H' ⟨Γ', c', G', L', g', s', n', em⟩
  cases m with
  | zero => cases em
  | succ m =>
    rcases FM.bind_some em with ⟨k, Γ1, e1, e2⟩ | ⟨cn, fld, d, Γ1, e1, er⟩
    · refine ha P σ' c' G' H' Γ' L' s' _ e1 _ ?_
      intro b c1 G1 H1 L1 g1 s1 e1' r1
      have eb : b = k := r1
      subst eb
      have g1' := g'.trans' s.iv g1 (fun _ z => z) (tl_fresh n')
      have n1' : ∀ x ∈ L1, TL L x.1 ∨ H x.1 = none := fresh_trans g' n' (tl_of e1')
      cases b with
      | false =>
        cases e2
        exact post.nx _ rfl σ' c1 G1 H1 L1 g1' s1 n1'
      | true =>
        refine ⟨fun σ2 H2 => ∃ Γ' c' G' L', Grow (TL L) c G H c' G' H2 ∧ Sta K P c' G' H2 σ2 Γ' L' ∧ (∀ x ∈ L', TL L x.1 ∨ H x.1 = none) ∧ whileN ft fS m Γ' = some r, fun σ2 H2 h => ⟨m, Nat.lt_succ_self m, h⟩, ?_⟩
        rcases FM.bind_some e2 with ⟨fl, Γ4, e5, e6⟩ | ⟨cn, fld, d4, Γ4, e5, er⟩
        · refine hb P σ' c1 G1 H1 Γ1 L1 s1 _ e5 _ ?_
          have next : ∀ Γ5, Rt.ok fl Γ4 = .ok .nx Γ5 ∨ Rt.ok fl Γ4 = .ok .ct Γ5 → ∀ σ4 c4 G4 H4 L4, Grow (TL L1) c1 G1 H1 c4 G4 H4 → Sta K P c4 G4 H4 σ4 Γ5 L4 → (∀ x ∈ L4, TL L1 x.1 ∨ H1 x.1 = none) →
              ∃ Γ' c' G' L', Grow (TL L) c G H c' G' H4 ∧ Sta K P c' G' H4 σ4 Γ' L' ∧ (∀ x ∈ L', TL L x.1 ∨ H x.1 = none) ∧ whileN ft fS m Γ' = some r := by
            intro Γ5 er σ4 c4 G4 H4 L4 g4 s4 n4
            refine ⟨Γ5, c4, G4, L4, g1'.trans' s.iv g4 (fun _ z => z) (tl_fresh n1'), s4, fresh_trans g1' n1' n4, ?_⟩
            rcases er with er | er <;> cases er <;> exact e6
          refine ⟨fun Γ5 er => next Γ5 (.inl er), fun Γ5 er σ4 c4 G4 H4 L4 g4 s4 n4 => ?_, fun Γ5 er => next Γ5 (.inr er), fun v Γ5 er u σ4 c4 G4 H4 L4 g4 s4 n4 t4 => ?_, fun _ _ _ _ er => (by cases er)⟩
          · cases er; cases e6
            exact post.nx _ rfl σ4 c4 G4 H4 L4 (g1'.trans' s.iv g4 (fun _ z => z) (tl_fresh n1')) s4 (fresh_trans g1' n1' n4)
          · cases er; cases e6
            exact post.rt _ _ rfl u σ4 c4 G4 H4 L4 (g1'.trans' s.iv g4 (fun _ z => z) (tl_fresh n1')) s4 (fresh_trans g1' n1' n4) (t4.back g1'.n)
        · subst er
          refine hb P σ' c1 G1 H1 Γ1 L1 s1 _ e5 _ ⟨fun _ er => (by cases er), fun _ er => (by cases er), fun _ er => (by cases er), fun _ _ er => (by cases er), fun cn' f' d' Γ' er => ?_⟩
          cases er
          exact PostX.trans s.iv g1' n1' (post.ex _ _ _ _ rfl)
    · subst er
      exact ha P σ' c' G' H' Γ' L' s' _ e1 _ (PostX.trans s.iv g' n' (post.ex cn fld d Γ1 rfl))
end
end DF

set_option linter.all false
set_option maxRecDepth 100000
set_option maxHeartbeats 4000000
namespace DF
open PySem PySem.Spec PyProof.Rows L2
variable [TbC]
section
variable {K : PySem.W.Frag} {G G' H H' H0 H1 G1 : Hp} {P : List Addr} {σ σ' : L2.St} {Γ Γ' Γ1 : EnvF} {L L' L1 : List (Addr × OD)} {c c' c1 : Ow} {W : WX}
variable {ta tb te : TE} {t tr tk : TA} {fa fb fc : FE} {fs fr fk : FA} {tt tu : TT} {ft fu : FT} {E : XK} {ts tw : TS} {fS fT : FS}
/-! ### comprehensions -/
def wipeF (Γ : EnvF) : List Nat → EnvF
  | [] => Γ
  | v :: vs => (wipeF Γ vs).set v .no
def backF (Γ0 Γ3 : EnvF) : List Nat → EnvF
  | [] => Γ3
  | v :: vs => (backF Γ0 Γ3 vs).set v (Γ0.getD v .no)
def backS (σ σ2 : L2.St) : List Nat → L2.St
  | [] => σ2
  | v :: vs => (backS σ σ2 vs).set v (σ.getD v none)
def isOwn : Sl → Bool
  | .own _ _ => true
  | _ => false
theorem backS_length (σ σ2 : L2.St) : ∀ vs, (backS σ σ2 vs).length = σ2.length
  | [] => rfl
  | v :: vs => by rw [backS, List.length_set, backS_length σ σ2 vs]
theorem backS_get (σ σ2 : L2.St) : ∀ (vs : List Nat) (k : Nat), (backS σ σ2 vs)[k]? = if k ∈ vs ∧ k < σ2.length then some (σ.getD k none) else σ2[k]?
  | [], k => by simp [backS]
  | v :: vs, k => by
    rw [backS, List.getElem?_set, backS_get σ σ2 vs k, backS_length]
    by_cases h : v = k
    · subst h
      by_cases hl : v < σ2.length
      · simp [hl]
      · have : σ2[v]? = none := by simp; omega
        simp [hl, this]
    · have h' : ¬ k = v := fun z => h z.symm
      simp [h, h']
theorem wipe_get (σ : L2.St) : ∀ (vs : List Nat) (k : Nat), (wipe σ vs)[k]? = if k ∈ vs ∧ k < σ.length then some none else σ[k]?
  | [], k => by simp [wipe]
  | v :: vs, k => by
    rw [wipe, List.getElem?_set, wipe_get σ vs k, wipe_length]
    by_cases h : v = k
    · subst h
      by_cases hl : v < σ.length
      · simp [hl]
      · have : σ[v]? = none := by simp; omega
        simp [hl, this]
    · have h' : ¬ k = v := fun z => h z.symm
      simp [h, h']
theorem same_wipe {vs : List Nat} (h : SmS vs (wipe σ vs) σ') : wipe σ' vs = wipe σ vs := by
  apply List.ext_getElem?
  intro k
  have hl : σ'.length = σ.length := by rw [h.1, wipe_length]
  by_cases hk : k ∈ vs
  · rw [wipe_get, wipe_get, hl]
    by_cases hk2 : k < σ.length
    · rw [if_pos ⟨hk, hk2⟩, if_pos ⟨hk, hk2⟩]
    · have e1 : σ'[k]? = none := by simp; omega
      have e2 : σ[k]? = none := by simp; omega
      rw [if_neg (fun z => hk2 z.2), if_neg (fun z => hk2 z.2), e1, e2]
  · rw [wipe_get, if_neg (fun z => hk z.1), h.2 k hk]
theorem same_back {vs : List Nat} (h : SmS vs (wipe σ vs) σ') : backS σ σ' vs = σ := by
  apply List.ext_getElem?
  intro k
  have hl : σ'.length = σ.length := by rw [h.1, wipe_length]
  rw [backS_get, hl]
  by_cases hk : k ∈ vs
  · by_cases hk2 : k < σ.length
    · rw [if_pos ⟨hk, hk2⟩]
      simp [List.getD, hk2]
    · rw [if_neg (fun z => hk2 z.2)]
      have e1 : σ'[k]? = none := by simp; omega
      have e2 : σ[k]? = none := by simp; omega
      rw [e1, e2]
  · rw [if_neg (fun z => hk z.1), h.2 k hk, wipe_get, if_neg (fun z => hk z.1)]
theorem EnvR.wiped (h : EnvR K G P σ Γ L) : ∀ vs, ∃ L', EnvR K G P (wipe σ vs) (wipeF Γ vs) L' ∧ L'.Sublist L
  | [] => ⟨L, h, List.Sublist.refl _⟩
  | v :: vs => by
    obtain ⟨L1, h1, h2⟩ := EnvR.wiped h vs
    obtain ⟨L2', h3, h4⟩ := h1.setNo v none
    exact ⟨L2', h3, h4.trans h2⟩
theorem EnvR.back {σ2 : L2.St} {Γ3 : EnvF} {L3 : List (Addr × OD)} (h : EnvR K G P σ2 Γ3 L3) (h0 : EnvR K G P σ Γ L) : ∀ vs : List Nat, (vs.all fun v => !isOwn (Γ.getD v .no)) = true → ∃ L', EnvR K G P (backS σ σ2 vs) (backF Γ Γ3 vs) L' ∧ L'.Sublist L3
  | [], _ => ⟨L3, h, List.Sublist.refl _⟩
  | v :: vs, e => by
    rw [List.all_cons, Bool.and_eq_true] at e
    obtain ⟨L1, h1, h2⟩ := EnvR.back h h0 vs e.2
    unfold backS backF
    cases ev : Γ[v]? with
    | none =>
      have : Γ.getD v .no = .no := by simp [List.getD, ev]
      rw [this]
      obtain ⟨L2', h3, h4⟩ := h1.setNo v (σ.getD v none)
      exact ⟨L2', h3, h4.trans h2⟩
    | some x =>
      have ex : Γ.getD v .no = x := by simp [List.getD, ev]
      rw [ex] at e ⊢
      cases x with
      | no =>
        obtain ⟨L2', h3, h4⟩ := h1.setNo v (σ.getD v none)
        exact ⟨L2', h3, h4.trans h2⟩
      | val d =>
        obtain ⟨u, q1, q2⟩ := h0.get ev
        have : σ.getD v none = some u := by simp [List.getD, q1]
        rw [this]
        obtain ⟨L2', h3, h4⟩ := h1.setVal v q2
        exact ⟨L2', h3, h4.trans h2⟩
      | own k o => simp [isOwn] at e
      | exc =>
        have : σ.getD v none = some (.ref TbC.xa) := by simp [List.getD, h0.getX ev]
        rw [this]
        obtain ⟨L2', h3, h4⟩ := h1.setX v
        exact ⟨L2', h3, h4.trans h2⟩
theorem EnvR.pat : ∀ {σ : L2.St} {Γ Γ' : EnvF} {L L' : List (Addr × OD)}, EnvR K G P σ Γ L → EnvR K G' P σ Γ' L' → Γ'.map isOwn = Γ.map isOwn → L'.map (·.1) = L.map (·.1)
  | _, _, _, _, _, .nil, .nil, _ => rfl
  | _, _, _, _, _, .no a, .no b, e => EnvR.pat a b (by simpa using e)
  | _, _, _, _, _, .no a, .val _ b, e => EnvR.pat a b (by simpa [isOwn] using e)
  | _, _, _, _, _, .no a, .own _ b, e => by simp [isOwn] at e
  | _, _, _, _, _, .val _ a, .no b, e => EnvR.pat a b (by simpa [isOwn] using e)
  | _, _, _, _, _, .val _ a, .val _ b, e => EnvR.pat a b (by simpa [isOwn] using e)
  | _, _, _, _, _, .val _ a, .own _ b, e => by simp [isOwn] at e
  | _, _, _, _, _, .no a, .exc b, e => EnvR.pat a b (by simpa [isOwn] using e)
  | _, _, _, _, _, .val _ a, .exc b, e => EnvR.pat a b (by simpa [isOwn] using e)
  | _, _, _, _, _, .exc a, .no b, e => EnvR.pat a b (by simpa [isOwn] using e)
  | _, _, _, _, _, .exc a, .val _ b, e => EnvR.pat a b (by simpa [isOwn] using e)
  | _, _, _, _, _, .exc a, .exc b, e => EnvR.pat a b (by simpa [isOwn] using e)
  | _, _, _, _, _, .exc a, .own _ b, e => by simp [isOwn] at e
  | _, _, _, _, _, .own _ a, .exc b, e => by simp [isOwn] at e
  | _, _, _, _, _, .own _ a, .no b, e => by simp [isOwn] at e
  | _, _, _, _, _, .own _ a, .val _ b, e => by simp [isOwn] at e
  | _, _, _, _, _, .own _ a, .own _ b, e => by
    have := EnvR.pat a b (by simpa [isOwn] using e)
    simp [this]
def lcTurn (g : D → FM Unit) (ft : FT) (fe : FE) (d : D) (acc : List D) : FM (List D) := FM.bind (g d) fun _ => FM.bind ft fun k => if k = true then FM.bind (fV fe) fun y => FM.pure (acc ++ [y]) else FM.pure acc
def lcL (g : D → FM Unit) (ft : FT) (fe : FE) (vs : List Nat) : List D → List D → FM (List D)
  | [], acc => FM.pure acc
  | d :: ds, acc => fun Γ => match lcTurn g ft fe d acc (wipeF Γ vs) with
    | some (.ok acc' Γ3) => if (vs.all fun v => !isOwn (Γ.getD v .no)) = true ∧ (backF Γ Γ3 vs).map isOwn = Γ.map isOwn then lcL g ft fe vs ds acc' (backF Γ Γ3 vs) else none
    | _ => none
theorem lcL_ok {g : D → FM Unit} {ft : FT} {fe : FE} {vs : List Nat} : ∀ {ds acc : List D} {Γ : EnvF} {r : Rt (List D)}, lcL g ft fe vs ds acc Γ = some r → ∃ v Γ', r = .ok v Γ'
  | [], acc, Γ, r, e => by cases e; exact ⟨_, _, rfl⟩
  | d :: ds, acc, Γ, r, e => by
    unfold lcL at e
    split at e
    · split at e
      · exact lcL_ok e
      · cases e
    · cases e
def fLc (w : FW) (g : D → FM Unit) (ft : FT) (fe : FE) (vs : List Nat) : FE := FM.bind w fun ds => if ds.length < 16777216 then FM.bind (lcL g ft fe vs ds []) fun acc => FM.pure (.val (.lst acc)) else fFail
def fLcO (w : FW) (g : D → FM Unit) (ft : FT) (fe : FE) (vs : List Nat) : FE := FM.bind w fun ds => if ds.length < 16777216 then FM.bind (lcL g ft fe vs ds []) fun acc => FM.pure (.own (.lst acc)) else fFail
theorem lc_core {wi : TI} {g : TG} {fw : FW} {f : D → FM Unit} {vs : List Nat} (hw : SimW K W wi fw) (hg : SimG K W vs g f) (ht : SimT K W tt ft) (he : SimE K W te fa) (s : Sta K P c G H σ Γ L) {r : Rt Vr} {rv : List D → Vr} (ov : (∀ acc, rv acc = .val (.lst acc)) ∨ ∀ acc, rv acc = .own (.lst acc))
    (e : FM.bind fw (fun ds => if ds.length < 16777216 then FM.bind (lcL f ft fa vs ds []) fun acc => FM.pure (rv acc) else fFail) Γ = some r) {Q : VK} (post : PostE vrR K P W σ c G H L Q r) : tLc wi g tt te vs σ H Q := by
  rcases FM.bind_some e with ⟨ds, Γ1, e1, e2⟩ | ⟨cn, fld, d, Γ1, e1, er⟩
  · refine hw P σ c G H Γ L s _ e1 _ ?_
    intro J c1 G1 H1 L1 g1 s1 e1' r1
    obtain ⟨Gd, Y, w, hG, hY⟩ := r1
    have e2 : (if ds.length < 16777216 then FM.bind (lcL f ft fa vs ds []) fun acc => FM.pure (rv acc) else fFail) Γ1 = some r := e2
    split at e2
    · rename_i hlen
      obtain ⟨accF, Γe, e3, er⟩ : ∃ accF Γe, lcL f ft fa vs ds [] Γ1 = some (.ok accF Γe) ∧ r = .ok (rv accF) Γe := by
        rcases FM.bind_some e2 with ⟨v, Γe, q1, q2⟩ | ⟨_, _, _, _, q1, _⟩
        · cases q2; exact ⟨v, Γe, q1, rfl⟩
        · obtain ⟨_, _, z⟩ := lcL_ok q1; cases z
      subst er
      intro Dd hD
      have hDs : H Dd = none := back_of g1 hD
      obtain ⟨gn, vn⟩ := own_new (T := TL L1) s1.iv (o := .lst []) (ho := .lst []) hD ⟨[], upd_same, .nil⟩
      have npD : Dd ∉ L1.map (·.1) := fun z => by
        obtain ⟨x, hx, ex⟩ := List.mem_map.mp z
        have := (s1.iv.ow _ _ (s1.ow x hx)).2.some
        rw [ex] at this; exact this hD
      have sn : Sta K P (c1.put Dd (.lst [])) G1 (upd H1 Dd (.lst [])) σ Γ1 L1 := ⟨s1.r, s1.nd, fun x hx => by
        have ne : x.1 ≠ Dd := fun z => npD (by rw [← z]; exact List.mem_map.mpr ⟨x, hx, rfl⟩)
        rw [Ow.put_ne ne]; exact s1.ow x hx, vn, fun p hp => gn.n p (s1.pa p hp)⟩
      refine lc_it w (fun i H' => ∃ acc Γ' c' G' L', Grow (TL L1) c1 G1 H1 c' G' H' ∧ Sta K P c' G' H' σ Γ' L' ∧ L'.map (·.1) = L1.map (·.1) ∧ c' Dd = some (.lst acc) ∧ acc.length ≤ i ∧ lcL f ft fa vs (ds.drop i) acc Γ' = some (.ok accF Γe))
        ⟨[], Γ1, _, G1, L1, gn, sn, rfl, Ow.put_same, Nat.le_refl _, by simpa using e3⟩ (fun i H' _ ⟨_, _, _, G', _, g', s', _⟩ => hG _ (g'.g.trans s'.iv.i)) ?_ ?_
      · rintro i x H' H2 hi ⟨acc, Γ', c', G', L', g', s', n', cD, hacc, ef⟩ y
        obtain ⟨G2, d, pg, ed, td⟩ := hY i H' x H2 G' hi g'.g s'.iv.i y
        have s2 := s'.pg pg
        have g2 : Grow (TL L1) c1 G1 H1 c' G2 H2 := g'.trans s1.iv (pg.grow s'.iv)
        have edr : ds.drop i = d :: ds.drop (i + 1) := by
          obtain ⟨h1, h2⟩ := List.getElem?_eq_some_iff.mp ed
          rw [← h2]; exact List.drop_eq_getElem_cons h1
        rw [edr] at ef
        unfold lcL at ef
        cases el : lcTurn f ft fa d acc (wipeF Γ' vs) with
        | none => rw [el] at ef; cases ef
        | some rr =>
          rw [el] at ef
          cases rr with
          | ex _ _ _ _ => cases ef
          | ok acc' Γ3 =>
            have ef : (if (vs.all fun v => !isOwn (Γ'.getD v .no)) = true ∧ (backF Γ' Γ3 vs).map isOwn = Γ'.map isOwn then lcL f ft fa vs (ds.drop (i + 1)) acc' (backF Γ' Γ3 vs) else none) = some (.ok accF Γe) := ef
            by_cases hc : (vs.all fun v => !isOwn (Γ'.getD v .no)) = true ∧ (backF Γ' Γ3 vs).map isOwn = Γ'.map isOwn
            · rw [if_pos hc] at ef
              -- the wiped state
              obtain ⟨Lw, w1, w2⟩ := s2.r.wiped vs
              have sw : Sta K P c' G2 H2 (wipe σ vs) (wipeF Γ' vs) Lw := ⟨w1, s2.nd.sublist (w2.map _), fun x hx => s2.ow x (w2.subset hx), s2.iv, s2.pa⟩
              have nDw : Dd ∉ Lw.map (·.1) := fun z => npD (by rw [← n']; exact (w2.map _).subset z)
              -- what holds at the end of the turn
              have fin : ∀ σ3 c3 G3 H3 L3, SmS vs (wipe σ vs) σ3 → Grow (TL Lw) c' G2 H2 c3 G3 H3 → Sta K P c3 G3 H3 σ3 Γ3 L3 → (∀ x ∈ L3, TL Lw x.1 ∨ H2 x.1 = none) → ∃ L4, Sta K P c3 G3 H3 σ (backF Γ' Γ3 vs) L4 ∧ L4.map (·.1) = L1.map (·.1) := by
                intro σ3 c3 G3 H3 L3 hsame g3 s3 n3
                obtain ⟨L4, b1, b2⟩ := EnvR.back (Γ := Γ') s3.r ((s2.r).mono g3.g) vs hc.1
                rw [same_back hsame] at b1
                have pat := EnvR.pat s2.r b1 hc.2
                exact ⟨L4, ⟨b1, s3.nd.sublist (b2.map _), fun x hx => s3.ow x (b2.subset hx), s3.iv, s3.pa⟩, pat.trans n'⟩
              have gw : ∀ {c3 G3 H3}, Grow (TL Lw) c' G2 H2 c3 G3 H3 → Grow (TL L1) c1 G1 H1 c3 G3 H3 := fun g3 => g2.trans' s1.iv g3 (fun _ z => z) fun b z => .inl (by
                show b ∈ L1.map (·.1)
                rw [← n']; exact (w2.map _).subset z)
              have keepD : ∀ {c3 G3 H3}, Grow (TL Lw) c' G2 H2 c3 G3 H3 → c3 Dd = some (.lst acc) := fun g3 => by rw [(g3.f Dd nDw (by rw [cD]; simp)).1]; exact cD
              unfold lcTurn at el
              rcases FM.bind_some el with ⟨_, Γa, ea, eb⟩ | ⟨_, _, _, _, _, er⟩
              · refine hg P (wipe σ vs) c' G2 H2 _ Lw sw x d td _ ea _ (fun Γ4 er σa ca Ga Ha La ma ga sa na => ?_) fun _ _ _ _ er => (by cases er)
                cases er
                refine ⟨same_wipe ma, ?_⟩
                rcases FM.bind_some eb with ⟨k, Γb, ec, ed'⟩ | ⟨_, _, _, _, _, er⟩
                · refine ht P σa ca Ga Ha Γa La sa _ ec _ ?_
                  intro b cb Gb Hb Lb gb sb eLb rb
                  have ebk : b = k := rb
                  subst ebk
                  have gb' := ga.trans' s2.iv gb (fun _ z => z) (tl_fresh na)
                  have nb' : ∀ x ∈ Lb, TL Lw x.1 ∨ H2 x.1 = none := fresh_trans ga na (tl_of eLb)
                  cases b with
                  | false =>
                    rw [if_neg (by decide)] at ed' ⊢
                    cases ed'
                    obtain ⟨L4, q1, q2⟩ := fin σa cb Gb Hb Lb ma gb' sb nb'
                    exact ⟨acc, _, cb, Gb, L4, gw gb', q1, q2, keepD gb', by omega, ef⟩
                  | true =>
                    rw [if_pos rfl] at ed' ⊢
                    rcases FM.bind_some ed' with ⟨yv, Γd, ee, eg⟩ | ⟨_, _, _, _, _, er⟩
                    · cases eg
                      refine sim_val he P σa cb Gb Hb Γb Lb sb _ ee _ ?_
                      intro u cd Gd' Hd Ld gd sd eLd rd
                      have gd' := gb'.trans' s2.iv gd (fun _ z => z) (tl_fresh nb')
                      have nd' : ∀ x ∈ Ld, TL Lw x.1 ∨ H2 x.1 = none := fresh_trans gb' nb' (tl_of eLd)
                      have cD' := keepD gd'
                      obtain ⟨us, hu, hus⟩ := (sd.iv.ow _ _ cD').2
                      refine ⟨us, hu, by rw [hus.length, sizeLine_eq]; omega, ?_⟩
                      obtain ⟨go, vo⟩ := own_set (T := fun b => b = Dd) sd.iv (o' := .lst (acc ++ [yv])) (ho := .lst (us ++ [u])) rfl cD' ⟨_, upd_same, hus.append (.cons rd .nil)⟩
                      obtain ⟨L4, q1, q2⟩ := fin σa cd Gd' Hd Ld ma gd' sd nd'
                      have np4 : Dd ∉ L4.map (·.1) := by rw [q2]; exact npD
                      refine ⟨acc ++ [yv], _, _, Gd', L4, (gw gd').trans' s1.iv go (fun _ z => z) (fun b z => .inr (by rw [z]; exact hD)), ⟨q1.r, q1.nd, fun x hx => ?_, vo, fun p hp => go.n p (q1.pa p hp)⟩, q2, Ow.put_same, by rw [List.length_append]; simp; omega, ef⟩
                      have ne : x.1 ≠ Dd := fun z => np4 (by rw [← z]; exact List.mem_map.mpr ⟨x, hx, rfl⟩)
                      rw [Ow.put_ne ne]; exact q1.ow x hx
                    · cases er
                · cases er
              · cases er
            · rw [if_neg hc] at ef; cases ef
      · rintro H' ⟨acc, Γ', c', G', L', g', s', n', cD, hacc, ef⟩
        rw [List.drop_length] at ef
        cases ef
        have npD' : Dd ∉ L'.map (·.1) := by rw [n']; exact npD
        have gall := g1.trans' s.iv g' (fun _ z => z) (fun b z => .inl (by unfold TL at z ⊢; rwa [e1'] at z))
        rcases ov with ov | ov
        · rw [ov] at post
          obtain ⟨us, hu, hus⟩ := (s'.iv.ow _ _ cD).2
          obtain ⟨gt, vt⟩ := own_told (T := fun b => b = Dd) s'.iv rfl cD hu
          refine post (.ref Dd) _ _ H' L' (gall.trans' s.iv gt (fun _ z => z) (fun b z => .inr (by rw [z]; exact hDs))) ⟨s'.r.mono gt.g, s'.nd, fun x hx => ?_, vt, s'.pa⟩ (n'.trans e1') (At.lst upd_same (hus.mono gt.g))
          have ne : x.1 ≠ Dd := fun z => npD' (by rw [← z]; exact List.mem_map.mpr ⟨x, hx, rfl⟩)
          rw [Ow.del_ne ne]; exact s'.ow x hx
        · rw [ov] at post
          exact post (.ref Dd) _ _ H' L' gall s' (n'.trans e1') ⟨Dd, rfl, cD, npD', hDs⟩
    · cases e2
  · subst er
    exact hw P σ c G H Γ L s _ e1 _ post
theorem sim_lc {wi : TI} {g : TG} {fw : FW} {f : D → FM Unit} {vs : List Nat} (hw : SimW K W wi fw) (hg : SimG K W vs g f) (ht : SimT K W tt ft) (he : SimE K W te fa) : SimE K W (tLc wi g tt te vs) (fLc fw f ft fa vs) := fun P σ c G H Γ L s r e Q post =>
  lc_core hw hg ht he s (.inl fun _ => rfl) e post
end
end DF

set_option linter.all false
set_option maxRecDepth 100000
set_option maxHeartbeats 4000000
namespace DF
open PySem PySem.Spec PyProof.Rows L2
variable [TbC]
section
variable {K : PySem.W.Frag} {G G' H H' H0 H1 G1 : Hp} {P : List Addr} {σ σ' : L2.St} {Γ Γ' Γ1 : EnvF} {L L' L1 : List (Addr × OD)} {c c' c1 : Ow} {W : WX}
variable {ta tb te to : TE} {t tr tk : TA} {fa fb fc fe fo : FE} {fs fr fk : FA} {tt tu : TT} {ft fu : FT} {E : XK} {ts tw : TS} {fS fT : FS}
/-! ### instances -/
def putD (f : Str) (d : D) : List (Str × D) → List (Str × D)
  | [] => [(f, d)]
  | (g, e) :: r => if g = f then (g, d) :: r else (g, e) :: putD f d r
theorem putD_at {f : Str} {v : V} {d : D} (t : At K G v d) : ∀ {fs : List (Str × V)} {gs : List (Str × D)}, AtF K G fs gs → AtF K G (putF f v fs) (putD f d gs)
  | _, _, .nil => .cons t .nil
  | _, _, @AtF.cons _ _ g0 v0 d0 vs ds a l => by
    unfold putF putD
    by_cases h : g0 = f
    · rw [if_pos h, if_pos h]; exact .cons t l
    · rw [if_neg h, if_neg h]; exact .cons a (putD_at t l)
/-- the fields of an instance of a class, a value or one's own -/
def fieldsOf (cn : Str) (v : Vr) (Γ : EnvF) : Option (List (Str × D)) := match v with
  | .val (.ins c gs) => if c = cn then some gs else none
  | .slot i => match Γ[i]? with
    | some (.own _ (.ins c gs)) => if c = cn then some gs else none
    | _ => none
  | _ => none
theorem fields_at {cn : Str} {C : Addr} {u : V} {v : Vr} {gs : List (Str × D)} (s : Sta K P c G H σ Γ L) (a : VrAt K σ L c G H0 u v) (ct : CT K cn C) (e : fieldsOf cn v Γ = some gs) : ∃ p dx fs, u = .ref p ∧ H p = some (.ins C dx fs) ∧ AtF K G fs gs := by
  cases v with
  | val d =>
    cases d with
    | ins c0 gs0 =>
      have e : (if c0 = cn then some gs0 else none) = some gs := e
      split at e
      · rename_i hc
        cases e
        have a : At K G u (.ins c0 gs) := a
        subst hc
        cases a with
        | @ins p C' dx _ fs _ ct' hp l =>
          have ec := ct'.one ct
          subst ec
          exact ⟨p, dx, fs, rfl, s.iv.i _ _ hp, l⟩
      · cases e
    | _ => cases e
  | slot i =>
    have e : (match Γ[i]? with
      | some (.own _ (.ins c gs)) => if c = cn then some gs else none
      | _ => none) = some gs := e
    cases ei : Γ[i]? with
    | none => rw [ei] at e; cases e
    | some x =>
      rw [ei] at e
      cases x with
      | own k o =>
        cases o with
        | ins c0 gs0 =>
          have e : (if c0 = cn then some gs0 else none) = some gs := e
          split at e
          · rename_i hc
            cases e
            obtain ⟨p, h1, h2, _⟩ := s.r.getO ei
            obtain ⟨C', dx, fs, ct', hp, l⟩ := (s.iv.ow _ _ (s.ow _ h2)).2
            subst hc
            have ec := ct'.one ct
            subst ec
            have eu : u = .ref p := by
              have z : σ[i]? = some (some u) := a
              rw [h1] at z; injection z with z; injection z with z; exact z.symm
            exact ⟨p, dx, fs, eu, hp, l⟩
          · cases e
        | _ => cases e
      | _ => cases e
  | own o => cases e
/-- o.f, an attribute -/
def fFld (cn f : Str) (a : FE) : FE := FM.bind a fun v Γ => match fieldsOf cn v Γ with
  | some gs => (gs.lookup f).map fun d => .ok (.val d) Γ
  | none => none
theorem sim_fld {cn f : Str} {C : Addr} (ct : CT K cn C) (cl : Cls K C) (na : NoAttr K C f) (h : SimE K W ta fa) : SimE K W (tFld K ta f) (fFld cn f fa) := fun P σ c G H Γ L s r e Q post => by
  rcases FM.bind_some e with ⟨v, Γ1, e1, e2⟩ | ⟨cn', fl, d, Γ1, e1, er⟩
  · refine h P σ c G H Γ L s _ e1 _ ?_
    intro u c1 G1 H1 L1 g1 s1 e1' r1
    cases ef : fieldsOf cn v Γ1 with
    | none => rw [ef] at e2; cases e2
    | some gs =>
      rw [ef] at e2
      simp only [Option.map_eq_some_iff] at e2
      obtain ⟨d, ed, er⟩ := e2
      subst er
      obtain ⟨p, dx, fs, eu, hp, l⟩ := fields_at s1 r1 ct ef
      obtain ⟨w, h1, h2⟩ := l.look ed
      exact ⟨p, C, dx, fs, w, eu, hp, cl, na, h1, post w c1 G1 H1 L1 g1 s1 e1' h2⟩
  · subst er
    exact h P σ c G H Γ L s _ e1 _ post
/-- a property -/
def fProp (cn : Str) (F : FF) (a : FE) : FE := FM.bind a fun v Γ => match fieldsOf cn v Γ with
  | some _ => callF F [v] Γ
  | none => none
theorem sim_prop {cn : Str} {C : Addr} {F : FF} (ct : CT K cn C) (hE : ∀ cls d σ H, W cls d σ H → E cls d H) (h : SimE K W ta fa) : SimE K W (tProp C (spF K F) [] E ta) (fProp cn F fa) := fun P σ c G H Γ L s r e Q post => by
  rcases FM.bind_some e with ⟨v, Γ1, e1, e2⟩ | ⟨cn', fl, d, Γ1, e1, er⟩
  · refine h P σ c G H Γ L s _ e1 _ ?_
    intro u c1 G1 H1 L1 g1 s1 e1' r1
    cases ef : fieldsOf cn v Γ1 with
    | none => rw [ef] at e2; cases e2
    | some gs =>
      rw [ef] at e2
      obtain ⟨p, dx, fs, eu, hp, l⟩ := fields_at s1 r1 ct ef
      refine ⟨p, dx, fs, eu, hp, ?_⟩
      rw [← eu]
      exact call_core s.iv g1 s1 e1' (.cons r1 .nil) hE e2 post
  · subst er
    exact h P σ c G H Γ L s _ e1 _ post
/-- a method -/
def fMeth (cn m : Str) (F : FF) (a : FE) (b : FA) : FE := FM.bind (FM.bind a fun v => FM.bind b fun vs => FM.pure (v, vs)) fun p Γ => match fieldsOf cn p.1 Γ with
  | some gs => if gs.lookup m = none then callF F (p.1 :: p.2) Γ else none
  | none => none
/-! self.f = e in an __init__ -/
def fSetF (cn f : Str) (i : Nat) (a : FE) : FS := FM.bind (fV a) fun d Γ => match Γ[i]? with
  | some (.own k (.ins c gs)) => if c = cn ∧ gs.length < 1000 then some (.ok .nx (Γ.set i (.own k (.ins c (putD f d gs))))) else none
  | _ => none
theorem set_own_core {i k : Nat} {o o' : OD} {p : Addr} {ho : HO} (s : Sta K P c G H σ Γ L) (ei : Γ[i]? = some (.own k o)) (hp : σ[i]? = some (some (.ref p))) (hh : HasO K G (upd H p ho) p o') :
    ∃ L', Grow (TL L) c G H (c.put p o') G (upd H p ho) ∧ Sta K P (c.put p o') G (upd H p ho) σ (Γ.set i (.own k o')) L' ∧ L'.map (·.1) = L.map (·.1) := by
  obtain ⟨p', L', q1, q2, q3, q4, q5⟩ := s.r.updOwn (o' := o') s.nd ei
  have ep : p' = p := by rw [hp] at q1; injection q1 with q1; injection q1 with q1; injection q1 with q1; exact q1.symm
  subst ep
  obtain ⟨g, v⟩ := own_set (T := TL L) s.iv (List.mem_map.mpr ⟨_, q2, rfl⟩) (s.ow _ q2) hh
  refine ⟨L', g, ⟨q3, by rw [q4]; exact s.nd, fun e he => ?_, v, fun p hp => g.n p (s.pa p hp)⟩, q4⟩
  rcases q5 e he with z | ⟨z, zn⟩
  · rw [z]; exact Ow.put_same
  · rw [Ow.put_ne zn]; exact s.ow e z
theorem sim_setF {cn f : Str} {C : Addr} {i : Nat} (ct : CT K cn C) (cl : Cls K C) (na : NoAttr K C f) (h : SimE K W te fa) : SimS K W (sFld K (tVar i) te f) (fSetF cn f i fa) := fun P σ c G H Γ L s r e Dn post => by
  rcases FM.bind_some e with ⟨d, Γ1, e1, e2⟩ | ⟨cn', fl, d, Γ1, e1, er⟩
  · refine sim_val h P σ c G H Γ L s _ e1 _ ?_
    intro u c1 G1 H1 L1 g1 s1 e1' r1
    have e2 : (match Γ1[i]? with
      | some (.own k (.ins c gs)) => if c = cn ∧ gs.length < 1000 then some (Rt.ok Fl.nx (Γ1.set i (.own k (.ins c (putD f d gs))))) else none
      | _ => none) = some r := e2
    cases ei : Γ1[i]? with
    | none => rw [ei] at e2; cases e2
    | some x =>
      rw [ei] at e2
      cases x with
      | own k o =>
        cases o with
        | ins c0 gs =>
          have e2 : (if c0 = cn ∧ gs.length < 1000 then some (Rt.ok Fl.nx (Γ1.set i (.own k (.ins c0 (putD f d gs))))) else none) = some r := e2
          split at e2
          · rename_i hc
            cases e2
            obtain ⟨hc1, hc2⟩ := hc
            subst hc1
            obtain ⟨p, h1, h2, _⟩ := s1.r.getO ei
            obtain ⟨C', dx, fs, ct', hp, l⟩ := (s1.iv.ow _ _ (s1.ow _ h2)).2
            have ec := ct'.one ct
            subst ec
            obtain ⟨L2', g2, s2, n2⟩ := set_own_core (ho := .ins C' dx (putF f u fs)) s1 ei h1 (o' := .ins c0 (putD f d gs)) ⟨C', dx, _, ct, upd_same, putD_at r1 l⟩
            refine ⟨_, h1, p, C', dx, fs, rfl, hp, cl, na, by rw [l.length]; exact hc2, ?_⟩
            exact post.nx _ rfl σ _ _ _ L2' (g1.trans' s.iv g2 (fun _ z => z) fun b z => .inl (by unfold TL at z ⊢; rwa [e1'] at z)) s2 (tl_of (n2.trans e1'))
          · cases e2
        | _ => cases e2
      | _ => cases e2
  · subst er
    exact sim_val h P σ c G H Γ L s _ e1 _ (post.ex cn' fl d Γ1 rfl)
/-- C(..) -/
def fMake (cn : Str) (F : FF) (a : FA) : FE := FM.bind (fVs a) fun ds => match F (.own 1 (.ins cn []) :: ds.map .val) with
  | some (.ok (.val .non) (some (.ins c gs))) => FM.pure (.val (.ins c gs))
  | some (.ex c f d _) => fun Γ => some (.ex c f d Γ)
  | _ => fFail
theorem arg_vals {us : List V} : ∀ {ds : List D}, AtL K G us ds → ArgR K G us (ds.map .val) [] := by
  induction us with
  | nil => intro ds h; cases h; exact .nil
  | cons u us ih => intro ds h; cases h with | cons a l => exact .val a (ih l)
theorem make_core {cn : Str} {C : Addr} {F : FF} (ct : CT K cn C) (hE : ∀ cls d σ H, W cls d σ H → E cls d H) {us : List V} {ds : List D} (s1 : Sta K P c1 G1 H1 σ Γ1 L1) (r1 : AtL K G1 us ds) {r : Rt Vr}
    (e : (match F (.own 1 (.ins cn []) :: ds.map .val) with
      | some (.ok (.val .non) (some (.ins c gs))) => FM.pure (.val (.ins c gs))
      | some (.ex c f d _) => fun Γ => some (.ex c f d Γ)
      | _ => fFail : FE) Γ1 = some r) {Q : VK} (post : PostE vrR K P W σ c1 G1 H1 L1 Q r) {x dx : Addr} (hx : H1 x = none) (hdx : H1 dx = none) (hne : dx ≠ x) :
    spF K F (.ref x :: us) (upd (upd H1 dx (.own x)) x (.ins C dx [])) (fun v H2 => v = .non ∧ Q (.ref x) H2) E := by
  have ga := PG.hid (o := .own x) s1.iv.i hdx
  have iva : Iv K c1 G1 (upd H1 dx (.own x)) := ga.iv s1.iv
  have hx' : upd H1 dx (.own x) x = none := by rw [upd_ne (Ne.symm hne)]; exact hx
  obtain ⟨gb, ivb⟩ := own_new (T := TL L1) iva (o := .ins cn []) (ho := .ins C dx []) hx' ⟨C, dx, [], ct, upd_same, .nil⟩
  have gab := (ga.grow (T := TL L1) s1.iv).trans s1.iv gb
  have npx : x ∉ L1.map (·.1) := fun z => by
    obtain ⟨y, hy, ey⟩ := List.mem_map.mp z
    have := (s1.iv.ow _ _ (s1.ow y hy)).2.some
    rw [ey] at this; exact this hx
  cases eF : F (.own 1 (.ins cn []) :: ds.map .val) with
  | none => rw [eF] at e; cases e
  | some rf =>
    rw [eF] at e
    refine ⟨G1, c1.put x (.ins cn []), _, [(x, .ins cn [])], rf, ivb, .own (arg_vals r1), fun e he => by rw [List.mem_singleton.mp he]; exact Ow.put_same, eF, ?_⟩
    have toL : ∀ {c' G' H'}, Grow (TL [(x, OD.ins cn [])]) (c1.put x (.ins cn [])) G1 (upd (upd H1 dx (.own x)) x (.ins C dx [])) c' G' H' → Grow (TL L1) c1 G1 H1 c' G' H' := fun g => gab.trans' s1.iv g (fun _ z => z) fun b z => .inr (by
      have z : b = x := by simpa [TL] using z
      rw [z]; exact hx)
    have keep : ∀ {c' G' H'}, Grow (TL [(x, OD.ins cn [])]) (c1.put x (.ins cn [])) G1 (upd (upd H1 dx (.own x)) x (.ins C dx [])) c' G' H' → ∀ y ∈ L1, c' y.1 = some y.2 := fun g y hy => by
      have ne : y.1 ≠ x := fun z => npx (by rw [← z]; exact List.mem_map.mpr ⟨y, hy, rfl⟩)
      have e1 : (c1.put x (OD.ins cn [])) y.1 = some y.2 := by rw [Ow.put_ne ne]; exact s1.ow y hy
      rw [(g.f y.1 (by simpa [TL] using ne) (by rw [e1]; simp)).1]; exact e1
    cases rf with
    | ok v oo =>
      cases v with
      | val d =>
        cases d with
        | non =>
          cases oo with
          | none => cases e
          | some o =>
            cases o with
            | ins c0 gs =>
              cases e
              intro u c' G' H' g' iv' ho hr
              cases hr
              refine ⟨rfl, ?_⟩
              have cx : c' x = some (.ins c0 gs) := ho x _ _ rfl rfl
              obtain ⟨C', dx', fs, ct', hp, l⟩ := (iv'.ow _ _ cx).2
              obtain ⟨gt, vt⟩ := own_told (T := fun b => b = x) iv' rfl cx hp
              have gall := toL g'
              refine post (.ref x) _ _ H' L1 (gall.trans' s1.iv gt (fun _ z => z) (fun b z => .inr (by rw [z]; exact hx))) ⟨s1.r.mono (g'.g.trans gt.g), s1.nd, fun y hy => ?_, vt, fun p hp => gall.n p (s1.pa p hp)⟩ rfl (At.ins ct' upd_same (l.mono gt.g))
              have ne : y.1 ≠ x := fun z => npx (by rw [← z]; exact List.mem_map.mpr ⟨y, hy, rfl⟩)
              rw [Ow.del_ne ne]; exact keep g' y hy
            | _ => cases e
        | _ => cases e
      | _ => cases e
    | ex cn' f d oo =>
      cases e
      intro C' dd fv c' G' H' g' iv' ho ct' hd hv
      have gall := toL g'
      exact hE _ _ σ _ (post C' dd fv σ c' G' H' L1 gall ⟨s1.r.mono g'.g, s1.nd, keep g', iv', fun p hp => gall.n p (s1.pa p hp)⟩ tl_self ct' hd hv)
theorem PostE.pull {α β : Type} {R : Rel α β} {Q : β → Hp → Prop} {r : Rt α} (iv : Iv K c G H) (g1 : Grow (TL L) c G H c1 G1 H1) (e1 : L1.map (·.1) = L.map (·.1)) (post : PostE R K P W σ c G H L Q r) : PostE R K P W σ c1 G1 H1 L1 Q r := by
  cases r with
  | ok v Γ' =>
    intro b' c' G' H' L' g' s' e' r'
    exact post b' c' G' H' L' (g1.trans' iv g' (fun _ z => z) fun b z => .inl (by unfold TL at z ⊢; rwa [e1] at z)) s' (e'.trans e1) (R.back (fun a z => g1.n a z) r')
  | ex cn f d Γ' => exact PostX.trans iv g1 (tl_of e1) post
theorem sim_make {cn : Str} {C : Addr} {F : FF} (ct : CT K cn C) (hE : ∀ cls d σ H, W cls d σ H → E cls d H) (h : SimA K W t fs) : SimE K W (tMake C (spF K F) [] E t) (fMake cn F fs) := fun P σ c G H Γ L s r e Q post => by
  rcases FM.bind_some e with ⟨ds, Γ1, e1, e2⟩ | ⟨cn', fl, d, Γ1, e1, er⟩
  · refine sim_vals h P σ c G H Γ L s _ e1 _ ?_
    intro us c1 G1 H1 L1 g1 s1 e1' r1 x dx hx hdx hne
    rw [List.append_nil]
    exact make_core ct hE s1 r1 e2 (post.pull s.iv g1 e1') hx hdx hne
  · subst er
    exact sim_vals h P σ c G H Γ L s _ e1 _ post
def fMakeN (cn : Str) (F : FF) (j l : Nat) (ix : List Nat) (a b : FA) : FE := FM.bind (FM.bind (fVs a) fun vs => FM.bind (fVs b) fun xs => FM.pure (vs, xs)) fun p => if p.1.length = j ∧ p.2.length = l then (match F (.own 1 (.ins cn []) :: (ix.map fun i => (p.1 ++ p.2).getD i .non).map .val) with
  | some (.ok (.val .non) (some (.ins c gs))) => FM.pure (.val (.ins c gs))
  | some (.ex c f d _) => fun Γ => some (.ex c f d Γ)
  | _ => fFail) else fFail
def d2R : Rel (List D × List D) (List V × List V) := ⟨fun K σ L c G H0 b v => AtL K G b.1 v.1 ∧ AtL K G b.2 v.2, fun g e h => ⟨h.1.mono g.g, h.2.mono g.g⟩, fun n h => h⟩
end
end DF

set_option linter.all false
set_option maxRecDepth 100000
set_option maxHeartbeats 4000000
namespace DF
open PySem PySem.Spec PyProof.Rows L2
variable [TbC]
theorem OpR.or {X : Cx} {f : Value → Value → Sem Value} {r r' : R2} (h : OpR X f r) (h' : OpR X f r') : OpR X f (fun x y H Q => r x y H Q ∨ r' x y H Q) := by
  intro pins s σ H x y v u Q I rx ry q
  rcases q with q | q
  · exact h pins s σ H x y v u Q I rx ry q
  · exact h' pins s σ H x y v u Q I rx ry q
theorem CallR.or {X : Cx} {f : Value} {r r' : List V → Hp → VK → Prop} (h : CallR X f r) (h' : CallR X f r') : CallR X f (fun xs H Q => r xs H Q ∨ r' xs H Q) := by
  intro pins s σ H xs us Q I rx q
  rcases q with q | q
  · exact h pins s σ H xs us Q I rx q
  · exact h' pins s σ H xs us Q I rx q
section
variable {K : PySem.W.Frag} {G G' H H' H0 H1 G1 : Hp} {P : List Addr} {σ σ' : L2.St} {Γ Γ' Γ1 : EnvF} {L L' L1 : List (Addr × OD)} {c c' c1 : Ow} {W : WX}
variable {ta tb te to : TE} {t tr tk : TA} {fa fb fc fe fo : FE} {fs fr fk : FA} {tt tu : TT} {ft fu : FT} {E : XK} {ts tw : TS} {fS fT : FS}
theorem SimR2.or {r r' : R2} {f g : D → D → Option D} (h : SimR2 K r f) (h' : SimR2 K r' g) : SimR2 K (fun x y H Q => r x y H Q ∨ r' x y H Q) (fun x y => match f x y with | some z => some z | none => g x y) := by
  intro x y z e G H u v i hu hv Q q
  have bs := i
  have i := bs.i
  dsimp only at e
  cases ef : f x y with
  | some z' => rw [ef] at e; cases e; exact .inl (h x y z ef G H u v bs hu hv Q q)
  | none => rw [ef] at e; exact .inr (h' x y z e G H u v bs hu hv Q q)
/-! ### + -/
def rAddU (K : PySem.W.Frag) : R2 := fun x y H Q => rI0 (fun i j => .int (i + j)) x y H Q ∨ (∃ i j, x = .str i ∧ y = .str j ∧ i.length + j.length ≤ sizeLine ∧ Q (.str (i ++ j)) H) ∨ rCat x y H Q ∨ rCatA K x y H Q
theorem op_addU {X : Cx} : OpR X (binaryOp .Add) (rAddU X.K) := OpR.or op_add (OpR.or op_add_str (OpR.or op_cat op_catA))
def addD : D → D → Option D
  | .int i, .int j => some (.int (i + j))
  | .str i, .str j => if i.length + j.length ≤ 16777216 then some (.str (i ++ j)) else none
  | .lst a, .lst b => if a.length + b.length ≤ 16777216 then some (.lst (a ++ b)) else none
  | .tup a, .tup b => if a.length + b.length ≤ 16777216 then some (.tup (a ++ b)) else none
  | _, _ => none
theorem sim_add : SimR2 K (rAddU K) addD := by
  intro x y z e G H u v i hu hv Q q
  have bs := i
  have i := bs.i
  cases hu with
  | int a =>
    cases hv with
    | int b => cases e; exact .inl ⟨a, b, rfl, rfl, q _ G H (PG.refl i) (.int _)⟩
    | _ => cases e
  | str a =>
    cases hv with
    | str b =>
      have e : (if a.length + b.length ≤ 16777216 then some (D.str (a ++ b)) else none) = some z := e
      split at e
      · rename_i h; cases e; exact .inr (.inl ⟨a, b, rfl, rfl, by rw [sizeLine_eq]; exact h, q _ G H (PG.refl i) (.str _)⟩)
      · cases e
    | _ => cases e
  | @lst p vs ds hp l =>
    cases hv with
    | @lst p' vs' ds' hp' l' =>
      have e : (if ds.length + ds'.length ≤ 16777216 then some (D.lst (ds ++ ds')) else none) = some z := e
      split at e
      · rename_i h
        cases e
        refine .inr (.inr (.inl ⟨p, p', vs, vs', rfl, rfl, i _ _ hp, i _ _ hp', by rw [l.length, l'.length, sizeLine_eq]; exact h, fun np hn => ?_⟩))
        have gn := PG.new (G := G) (o := .lst (vs ++ vs')) i hn
        exact q _ _ _ gn (.lst upd_same ((l.append l').mono gn.g))
      · cases e
    | _ => cases e
  | @tup p vs ds hp l =>
    cases hv with
    | @tup p' vs' ds' hp' l' =>
      have e : (if ds.length + ds'.length ≤ 16777216 then some (D.tup (ds ++ ds')) else none) = some z := e
      split at e
      · rename_i h
        cases e
        have la := l.append l'
        refine .inr (.inr (.inr ⟨p, p', vs, vs', rfl, rfl, sqT_ext hp i, sqT_ext hp' i, by rw [l.length, l'.length, sizeLine_eq]; exact h, fun en => ?_, fun _ en => ?_, fun _ _ np hn => ?_⟩))
        · subst en; exact q _ G H (PG.refl i) (.tup hp' la)
        · subst en; rw [List.append_nil] at la; exact q _ G H (PG.refl i) (.tup hp la)
        · have gn := PG.new (G := G) (o := .tup (vs ++ vs')) i hn
          exact q _ _ _ gn (.tup (.inl (.inl upd_same)) (la.mono gn.g))
      · cases e
    | _ => cases e
  | _ => cases e
/-! ### ints -/
def intD (f : Int → Int → D) : D → D → Option D
  | .int i, .int j => some (f i j)
  | _, _ => none
theorem sim_I0 {g : Int → Int → V} {f : Int → Int → D} (h : ∀ i j G, At K G (g i j) (f i j)) : SimR2 K (rI0 g) (intD f) := by
  intro x y z e G H u v i hu hv Q q
  have bs := i
  have i := bs.i
  cases hu with
  | int a => cases hv with
    | int b => cases e; exact ⟨a, b, rfl, rfl, q _ G H (PG.refl i) (h a b G)⟩
    | _ => cases e
  | _ => cases e
def subD : D → D → Option D := intD fun i j => .int (i - j)
theorem sim_sub : SimR2 K (rI0 fun i j => .int (i - j)) subD := sim_I0 fun _ _ _ => .int _
def intC (C : Int → Int → Bool) (f : Int → Int → D) : D → D → Option D
  | .int i, .int j => if C i j = true then some (f i j) else none
  | _, _ => none
theorem sim_IC {C : Int → Int → Prop} {B : Int → Int → Bool} {g : Int → Int → V} {f : Int → Int → D} (hc : ∀ i j, B i j = true → C i j) (h : ∀ i j G, At K G (g i j) (f i j)) : SimR2 K (rI C g) (intC B f) := by
  intro x y z e G H u v i hu hv Q q
  have bs := i
  have i := bs.i
  cases hu with
  | int a => cases hv with
    | int b =>
      have e : (if B a b = true then some (f a b) else none) = some z := e
      split at e
      · rename_i hb; cases e; exact ⟨a, b, rfl, rfl, hc a b hb, q _ G H (PG.refl i) (h a b G)⟩
      · cases e
    | _ => cases e
  | _ => cases e
def mulOk (i j : Int) : Bool := (decide (-(2 ^ 64) < i) && decide (i < 2 ^ 64)) || (decide (-(2 ^ 64) < j) && decide (j < 2 ^ 64)) || decide (i.natAbs.log2 + j.natAbs.log2 < 1000000)
def rMulU (K : PySem.W.Frag) : R2 := fun x y H Q => rI (fun i j => CMul i j ∨ CMulW i j) (fun i j => .int (i * j)) x y H Q ∨ rRep x y H Q ∨ rRepT K x y H Q
theorem op_mulI {X : Cx} : OpR X (binaryOp .Mult) (rI (fun i j => CMul i j ∨ CMulW i j) fun i j => .int (i * j)) := by
  intro pins s σ H x y v u Q I rx ry h
  obtain ⟨i, j, ex, ey, hc, q⟩ := h
  rcases hc with hc | hc
  · exact op_mul pins s σ H x y v u Q I rx ry ⟨i, j, ex, ey, hc, q⟩
  · exact op_mulW pins s σ H x y v u Q I rx ry ⟨i, j, ex, ey, hc, q⟩
theorem op_mulU {X : Cx} : OpR X (binaryOp .Mult) (rMulU X.K) := OpR.or op_mulI (OpR.or op_rep op_repT)
def mulD : D → D → Option D
  | .int i, .int j => if mulOk i j = true then some (.int (i * j)) else none
  | .lst a, .int k => if 0 ≤ k ∧ k ≤ 1000000 ∧ a.length * k.toNat ≤ 16777216 then some (.lst (List.replicate k.toNat a).flatten) else none
  | .tup a, .int k => if a ≠ [] ∧ 2 ≤ k ∧ k ≤ 1000 ∧ a.length ≤ 1000 then some (.tup (List.replicate k.toNat a).flatten) else none
  | _, _ => none
theorem atl_rep {vs : List V} {ds : List D} (l : AtL K G vs ds) (n : Nat) : AtL K G (List.replicate n vs).flatten (List.replicate n ds).flatten := by
  induction n with
  | zero => exact .nil
  | succ n ih => rw [List.replicate_succ, List.replicate_succ, List.flatten_cons, List.flatten_cons]; exact l.append ih
theorem sim_mul : SimR2 K (rMulU K) mulD := by
  intro x y z e G H u v i hu hv Q q
  have bs := i
  have i := bs.i
  cases hu with
  | int a =>
    cases hv with
    | int b =>
      have e : (if mulOk a b = true then some (D.int (a * b)) else none) = some z := e
      split at e
      · rename_i h
        cases e
        refine .inl ⟨a, b, rfl, rfl, ?_, q _ G H (PG.refl i) (.int _)⟩
        unfold mulOk at h
        simp only [Bool.or_eq_true, Bool.and_eq_true, decide_eq_true_eq] at h
        rcases h with (h | h) | h
        · exact .inl (.inl h)
        · exact .inl (.inr h)
        · exact .inr h
      · cases e
    | _ => cases e
  | @lst p vs ds hp l =>
    cases hv with
    | int k =>
      have e : (if 0 ≤ k ∧ k ≤ 1000000 ∧ ds.length * k.toNat ≤ 16777216 then some (D.lst (List.replicate k.toNat ds).flatten) else none) = some z := e
      split at e
      · rename_i h
        cases e
        refine .inr (.inl ⟨p, k, vs, rfl, rfl, i _ _ hp, by omega, by omega, by rw [l.length, sizeLine_eq]; exact h.2.2, fun np hn => ?_⟩)
        have gn := PG.new (G := G) (o := .lst (List.replicate k.toNat vs).flatten) i hn
        exact q _ _ _ gn (.lst upd_same ((atl_rep l _).mono gn.g))
      · cases e
    | _ => cases e
  | @tup p vs ds hp l =>
    cases hv with
    | int k =>
      have e : (if ds ≠ [] ∧ 2 ≤ k ∧ k ≤ 1000 ∧ ds.length ≤ 1000 then some (D.tup (List.replicate k.toNat ds).flatten) else none) = some z := e
      split at e
      · rename_i h
        cases e
        refine .inr (.inr ⟨p, k, vs, rfl, rfl, sqT_ext hp i, fun en => h.1 ?_, h.2.1, h.2.2.1, by rw [l.length]; exact h.2.2.2, fun np hn => ?_⟩)
        · subst en; cases l; rfl
        · have gn := PG.new (G := G) (o := .tup (List.replicate k.toNat vs).flatten) i hn
          exact q _ _ _ gn (.tup (.inl (.inl upd_same)) ((atl_rep l _).mono gn.g))
      · cases e
    | _ => cases e
  | _ => cases e
def modD : D → D → Option D := intC (fun _ j => decide (0 < j)) fun i j => .int (i % j)
theorem sim_mod : SimR2 K (rI (fun _ j => 0 < j) fun i j => .int (i % j)) modD := sim_IC (fun _ _ h => of_decide_eq_true h) fun _ _ _ => .int _
def fdivD : D → D → Option D := intC (fun _ j => decide (0 < j) && decide (j.natAbs.log2 < 9000)) fun i j => .int (i / j)
theorem sim_fdiv : SimR2 K (rI CDivW fun i j => .int (i / j)) fdivD := sim_IC (fun i j h => by simpa [CDivW] using h) fun _ _ _ => .int _
def powD : D → D → Option D := intC (fun i j => decide (0 ≤ j) && decide (j ≤ 1000000) && decide (i.natAbs < 2 ^ 64)) fun i j => .int (i ^ j.toNat)
theorem sim_pow : SimR2 K (rI CPow fun i j => .int (i ^ j.toNat)) powD := sim_IC (fun i j h => by
  simp only [Bool.and_eq_true, decide_eq_true_eq] at h
  exact ⟨h.1.1, h.1.2, h.2⟩) fun _ _ _ => .int _
def negD : D → Option D
  | .int i => some (.int (-i))
  | _ => none
theorem sim_neg : SimR1 K (rU fun i => .int (-i)) negD := by
  intro x z e G H u i hu Q q
  have bs := i
  have i := bs.i
  cases hu with
  | int a => cases e; exact ⟨a, rfl, q _ G H (PG.refl i) (.int _)⟩
  | _ => cases e
/-! ### order -/
def rLtU : R2 := fun x y H Q => rI0 (fun i j => .bl (decide (i < j))) x y H Q ∨ (∃ i j, x = .str i ∧ y = .str j ∧ Q (.bl (decide (i.cps.toList < j.cps.toList))) H)
theorem op_ltU {X : Cx} : OpR X (compareOp .Lt) rLtU := OpR.or op_lt op_lt_str
def ltD : D → D → Option D
  | .int i, .int j => some (.bl (decide (i < j)))
  | .str i, .str j => some (.bl (decide (i.cps.toList < j.cps.toList)))
  | _, _ => none
theorem sim_lt : SimR2 K rLtU ltD := by
  intro x y z e G H u v i hu hv Q q
  have bs := i
  have i := bs.i
  cases hu with
  | int a => cases hv with
    | int b => cases e; exact .inl ⟨a, b, rfl, rfl, q _ G H (PG.refl i) (.bl _)⟩
    | _ => cases e
  | str a => cases hv with
    | str b => cases e; exact .inr ⟨a, b, rfl, rfl, q _ G H (PG.refl i) (.bl _)⟩
    | _ => cases e
  | _ => cases e
def leD : D → D → Option D := intD fun i j => .bl (decide (i ≤ j))
def gtD : D → D → Option D := intD fun i j => .bl (decide (j < i))
def geD : D → D → Option D := intD fun i j => .bl (decide (j ≤ i))
theorem sim_le : SimR2 K (rI0 fun i j => .bl (decide (i ≤ j))) leD := sim_I0 fun _ _ _ => .bl _
theorem sim_gt : SimR2 K (rI0 fun i j => .bl (decide (j < i))) gtD := sim_I0 fun _ _ _ => .bl _
theorem sim_ge : SimR2 K (rI0 fun i j => .bl (decide (j ≤ i))) geD := sim_I0 fun _ _ _ => .bl _
/-! ### == on data of any depth -/
mutual
def py : D → PyData
  | .non => .none | .bl b => .bool b | .int i => .int i | .str s => .str s | .cls _ => .none | .ty _ => .none | .scr _ => .none
  | .tup ds => .tuple (pyL ds) | .lst ds => .list (pyL ds) | .ins _ _ => .none | .dct _ => .none
def pyL : List D → List PyData
  | [] => [] | d :: ds => py d :: pyL ds
end
mutual
def pur : D → Bool
  | .non | .bl _ | .int _ | .str _ => true
  | .cls _ | .ins _ _ | .ty _ | .scr _ | .dct _ => false
  | .tup ds | .lst ds => purL ds
def purL : List D → Bool
  | [] => true | d :: ds => pur d && purL ds
end
mutual
theorem At.dp {G H : Hp} (i : Ext G H) : ∀ (d : D) {v : V}, At K G v d → pur d = true → Dp K H v (py d)
  | .non, _, h, _ => by cases h; exact .non
  | .bl b, _, h, _ => by cases h; exact .bl b
  | .int b, _, h, _ => by cases h; exact .int b
  | .str b, _, h, _ => by cases h; exact .str b
  | .cls b, _, _, p => by simp [pur] at p
  | .ty b, _, _, p => by simp [pur] at p
  | .scr b, _, _, p => by simp [pur] at p
  | .ins _ _, _, _, p => by simp [pur] at p
  | .dct _, _, _, p => by simp [pur] at p
  | .tup ds, _, h, p => by
    cases h with
    | tup hs l => exact .tup (sqT_ext hs i) (AtL.dp i ds l (by simpa [pur] using p))
  | .lst ds, _, h, p => by
    cases h with
    | lst hs l => exact .lst (.inl (.inl (i _ _ hs))) (AtL.dp i ds l (by simpa [pur] using p))
theorem AtL.dp {G H : Hp} (i : Ext G H) : ∀ (ds : List D) {vs : List V}, AtL K G vs ds → purL ds = true → DpAll K H vs (pyL ds)
  | [], _, h, _ => by cases h; exact .nil
  | d :: ds, _, h, p => by
    cases h with
    | cons hd l =>
      have p' : pur d = true ∧ purL ds = true := by simpa [purL] using p
      exact .cons (At.dp i d hd p'.1) (AtL.dp i ds l p'.2)
end
def okEq (x : D) : Bool := pur x && SeqAt.shaped (py x)
def eqB (x y : D) : Option Bool := match x, y with
  | .str a, .str b => some (decide (a = b))
  | x, y => if okEq x = true ∧ okEq y = true then some (PyData.eqv (py x) (py y)) else none
def eqD (x y : D) : Option D := (eqB x y).map D.bl
def neD (x y : D) : Option D := (eqB x y).map fun b => D.bl !b
def rEqU (K : PySem.W.Frag) : R2 := fun x y H Q => rEq x y H Q ∨ rEqD K x y H Q
def rNeU (K : PySem.W.Frag) : R2 := fun x y H Q => rNe x y H Q ∨ rNeD K x y H Q
theorem op_eqU {X : Cx} (hu : X.A.units + 64 < cLine) : OpR X (compareOp .Eq) (rEqU X.K) := OpR.or op_eq (op_eqD hu)
theorem op_neU {X : Cx} (hu : X.A.units + 64 < cLine) : OpR X (compareOp .NotEq) (rNeU X.K) := OpR.or op_ne (op_neD hu)
theorem okEq_and {x : D} (h : okEq x = true) : pur x = true ∧ SeqAt.shaped (py x) = true := by unfold okEq at h; simpa using h
theorem eqB_cases {x y : D} {b : Bool} (e : eqB x y = some b) : (∃ s t, x = .str s ∧ y = .str t ∧ b = decide (s = t)) ∨ (okEq x = true ∧ okEq y = true ∧ b = PyData.eqv (py x) (py y)) := by
  unfold eqB at e
  split at e
  · cases e; exact .inl ⟨_, _, rfl, rfl, rfl⟩
  · split at e
    · rename_i h; cases e; exact .inr ⟨h.1, h.2, rfl⟩
    · cases e
theorem sim_eq : SimR2 K (rEqU K) eqD := by
  intro x y z e G H u v i hu hv Q q
  have bs := i
  have i := bs.i
  unfold eqD at e
  simp only [Option.map_eq_some_iff] at e
  obtain ⟨b, eb, ez⟩ := e
  subst ez
  rcases eqB_cases eb with ⟨s, t, e1, e2, e3⟩ | ⟨h1, h2, e3⟩
  · subst e1 e2 e3
    cases hu; cases hv
    refine .inl ⟨rfl, ?_⟩
    have : (decide (V.str s = V.str t)) = decide (s = t) := by
      by_cases h : s = t
      · subst h; simp
      · rw [decide_eq_false h, decide_eq_false (fun z => h (by injection z))]
    rw [this]
    exact q _ G H (PG.refl i) (.bl _)
  · obtain ⟨p1, s1⟩ := okEq_and h1
    obtain ⟨p2, s2⟩ := okEq_and h2
    subst e3
    exact .inr ⟨_, _, At.dp i x hu p1, At.dp i y hv p2, s1, s2, q _ G H (PG.refl i) (.bl _)⟩
theorem sim_ne : SimR2 K (rNeU K) neD := by
  intro x y z e G H u v i hu hv Q q
  have bs := i
  have i := bs.i
  unfold neD at e
  simp only [Option.map_eq_some_iff] at e
  obtain ⟨b, eb, ez⟩ := e
  subst ez
  rcases eqB_cases eb with ⟨s, t, e1, e2, e3⟩ | ⟨h1, h2, e3⟩
  · subst e1 e2 e3
    cases hu; cases hv
    refine .inl ⟨rfl, ?_⟩
    have : (decide (V.str s = V.str t)) = decide (s = t) := by
      by_cases h : s = t
      · subst h; simp
      · rw [decide_eq_false h, decide_eq_false (fun z => h (by injection z))]
    rw [this]
    exact q _ G H (PG.refl i) (.bl _)
  · obtain ⟨p1, s1⟩ := okEq_and h1
    obtain ⟨p2, s2⟩ := okEq_and h2
    subst e3
    exact .inr ⟨_, _, At.dp i x hu p1, At.dp i y hv p2, s1, s2, q _ G H (PG.refl i) (.bl _)⟩
/-! ### a[i] -/
theorem atI_of {vs : List V} {ds : List D} (h : AtL K G vs ds) {i : Int} {x : D} (e : atI ds i = some x) : ∃ v, atI vs i = some v ∧ At K G v x := by
  unfold atI at e ⊢
  rw [h.length]
  cases k : ixN ds.length i with
  | none => rw [k] at e; cases e
  | some j => rw [k] at e; exact h.get (j := j) e
def ixD : D → D → Option D
  | .lst ds, .int i => atI ds i
  | .tup ds, .int i => atI ds i
  | .scr ns, .int i => atI (ns.map D.int) i
  | .str z, .int i => if z.length ≤ 16777216 then (atI z.cps.toList i).map chrD else none
  | _, _ => none
theorem sim_ix : SimR2 K (rIx K) ixD := by
  intro x y z e G H u v i hu hv Q q
  have bs := i
  have i := bs.i
  cases hv with
  | int k =>
    cases hu with
    | @lst p vs ds hp l =>
      obtain ⟨w, h1, h2⟩ := atI_of l (show atI ds k = some z from e)
      exact .inl ⟨p, vs, k, w, rfl, rfl, ext_lst i hp, h1, q w G H (PG.refl i) h2⟩
    | @scr p ns hp =>
      obtain ⟨w, h1, h2⟩ := atI_of (atl_ints (K := K) (G := G) ns) (show atI (ns.map D.int) k = some z from e)
      exact .inl ⟨p, _, k, w, rfl, rfl, (hp.ext i).seq, h1, q w G H (PG.refl i) h2⟩
    | @tup p vs ds hp l =>
      obtain ⟨w, h1, h2⟩ := atI_of l (show atI ds k = some z from e)
      exact .inr (.inl ⟨p, vs, k, w, rfl, rfl, sqT_ext hp i, h1, q w G H (PG.refl i) h2⟩)
    | str s =>
      have e : (if s.length ≤ 16777216 then (atI s.cps.toList k).map chrD else none) = some z := e
      split at e
      · rename_i hl
        simp only [Option.map_eq_some_iff] at e
        obtain ⟨c, ec, ez⟩ := e
        subst ez
        exact .inr (.inr ⟨s, k, c, rfl, rfl, by rw [sizeLine_eq]; exact hl, ec, q _ G H (PG.refl i) (.str _)⟩)
      · cases e
    | _ => cases e
  | _ => cases hu <;> cases e
/-! ### slices -/
def cutD (ds : List D) (lo hi : Option Int) : List D := (ds.drop (HT.sIx ds.length 0 lo)).take (HT.sIx ds.length ds.length hi - HT.sIx ds.length 0 lo)
theorem cut_at {vs : List V} {ds : List D} (l : AtL K G vs ds) (lo hi : Option Int) : AtL K G (cutV vs lo hi) (cutD ds lo hi) := by
  unfold cutV cutD
  rw [l.length]
  exact (l.drop _).take _
def fNoPart : FO := FM.pure none
def fPart (a : FE) : FO := FM.bind (fV a) fun | .int i => FM.pure (some i) | _ => fFail
theorem sim_noPart : SimO K W tNoPart fNoPart := fun P σ c G H Γ L s => Run.now (R := eqR (Option Int)) s rfl
theorem sim_part (h : SimE K W te fa) : SimO K W (tPart te) (fPart fa) := fun P σ c G H Γ L s => by
  unfold fPart
  refine Run.bind (R' := eqR (Option Int)) (t2 := fun x H1 Q => ∃ i, x = V.int i ∧ Q (some i) H1) s.iv (sim_val h P σ c G H Γ L s) fun d Γ1 u c1 G1 H1 L1 g1 s1 e1 r1 => ?_
  have r1 : At K G1 u d := r1
  cases r1 with
  | int i =>
    intro r e Q post
    cases e
    exact ⟨i, rfl, post (some i) c1 G1 H1 L1 .refl s1 rfl rfl⟩
  | _ => exact run_fail
def rSlU (K : PySem.W.Frag) : V → Option Int → Option Int → Hp → VK → Prop := fun x lo hi H Q => rSlL K x lo hi H Q ∨ rSlA K x lo hi H Q ∨ rSlS x lo hi H Q
theorem SlR.or {X : Cx} {r r' : V → Option Int → Option Int → Hp → VK → Prop} (h : SlR X r) (h' : SlR X r') : SlR X (fun x lo hi H Q => r x lo hi H Q ∨ r' x lo hi H Q) := by
  intro pins s σ H x v vl vu lo hi sl Q I rx hs pl pu q
  rcases q with q | q
  · exact h pins s σ H x v vl vu lo hi sl Q I rx hs pl pu q
  · exact h' pins s σ H x v vl vu lo hi sl Q I rx hs pl pu q
theorem sl_U {X : Cx} : SlR X (rSlU X.K) := SlR.or sl_list (SlR.or sl_tupA sl_str)
def slD (x : D) (lo hi : Option Int) : Option D := match x with
  | .lst ds => some (.lst (cutD ds lo hi))
  | .scr ns => some (.lst (cutD (ns.map .int) lo hi))
  | .tup ds => some (.tup (cutD ds lo hi))
  | .str z => if z.length ≤ 16777216 then some (.str (cutS z lo hi)) else none
  | _ => none
def fSl (a : FE) (l h : FO) : FE := FM.bind (fV a) fun x => FM.bind l fun lo => FM.bind h fun hi => fR (fOf (slD x lo hi))
theorem cut_all {ds : List D} {lo hi : Option Int} (h : HT.sIx ds.length 0 lo = 0 ∧ HT.sIx ds.length ds.length hi = ds.length) : cutD ds lo hi = ds := by
  unfold cutD
  rw [h.1, h.2]; simp
theorem sim_sl {tl th : TO} {fl fh : FO} (h : SimE K W te fa) (hl : SimO K W tl fl) (hh : SimO K W th fh) : SimE K W (tSl (rSlU K) te tl th) (fSl fa fl fh) := fun P σ c G H Γ L s => by
  unfold fSl
  refine Run.bind (t2 := fun x H1 Q => tl σ H1 fun l H2 => th σ H2 fun u H3 => rSlU K x l u H3 Q) s.iv (sim_val h P σ c G H Γ L s) fun d Γ1 u c1 G1 H1 L1 g1 s1 e1 r1 => ?_
  refine Run.bind (t2 := fun l H2 Q => th σ H2 fun v H3 => rSlU K u l v H3 Q) s1.iv (hl P σ c1 G1 H1 Γ1 L1 s1) fun lo Γ2 lo' c2 G2 H2 L2' g2 s2 e2 r2 => ?_
  have r2 : lo' = lo := r2
  subst r2
  refine Run.bind (t2 := fun v H3 Q => rSlU K u lo' v H3 Q) s2.iv (hh P σ c2 G2 H2 Γ2 L2' s2) fun hi Γ3 hi' c3 G3 H3 L3 g3 s3 e3 r3 => ?_
  have r3 : hi' = hi := r3
  subst r3
  have r1 : At K G3 u d := At.mono g3.g (At.mono g2.g r1)
  refine run_of s3 fun z ez Q q => ?_
  cases r1 with
  | @lst p vs ds hp l =>
    cases ez
    refine .inl ⟨p, vs, rfl, ext_lst s3.iv.i hp, fun np hn => ?_⟩
    have gn := PG.new (G := G3) (o := .lst (cutV vs lo' hi')) s3.iv.i hn
    exact q _ _ _ gn (.lst upd_same ((cut_at l _ _).mono gn.g))
  | @scr p ns hp =>
    cases ez
    refine .inl ⟨p, _, rfl, (hp.ext s3.iv.i).seq, fun np hn => ?_⟩
    have gn := PG.new (G := G3) (o := .lst (cutV (ns.map V.int) lo' hi')) s3.iv.i hn
    exact q _ _ _ gn (.lst upd_same ((cut_at (atl_ints ns) _ _).mono gn.g))
  | @tup p vs ds hp l =>
    cases ez
    refine .inr (.inl ⟨p, vs, rfl, sqT_ext hp s3.iv.i, fun hall => ?_, fun _ np hn => ?_⟩)
    · rw [l.length] at hall
      refine q _ G3 H3 (PG.refl s3.iv.i) (.tup hp ?_)
      rw [cut_all hall]; exact l
    · have gn := PG.new (G := G3) (o := .tup (cutV vs lo' hi')) s3.iv.i hn
      exact q _ _ _ gn (.tup (.inl (.inl upd_same)) ((cut_at l _ _).mono gn.g))
  | str s =>
    have ez : (if s.length ≤ 16777216 then some (D.str (cutS s lo' hi')) else none) = some z := ez
    split at ez
    · rename_i hs
      cases ez
      exact .inr (.inr ⟨s, rfl, by rw [sizeLine_eq]; exact hs, q _ G3 H3 (PG.refl s3.iv.i) (.str _)⟩)
    · cases ez
  | _ => cases ez
end
end DF

set_option linter.all false
set_option maxRecDepth 100000
set_option maxHeartbeats 4000000
namespace DF
open PySem PySem.Spec PyProof.Rows L2
variable [TbC]
/-! ### an own == with any right side; != over it; str of an instance with an own __str__ -/
structure EqC (K : PySem.W.Frag) (C f : Addr) : Prop where
  eqF : PySem.W.findIn K (.ref C) "__eq__" = some (some (.ref f))
  isF : PySem.W.isFn K (.ref f) = true
  cls : ∃ (nm q : Str) (Ns : Addr) (bs : List Value) (hd : Bool) (sn : List Str) (sub : List Value) (ab : Bool) (col : Option Bool) (dd : Option Addr) (k0 k1 k2 k3 k5 : Option Value) (newId : String),
    K.lookup C = some (excClassObj nm q C Ns bs [.type "object"] hd sn sub ab col dd k0 k1 k2 k3 k5 newId) ∧ PySem.W.nsOkIn K Ns = true ∧ PySem.W.nsIn K Ns "__eq__" = some (some (.ref f)) ∧ PySem.W.nsIn K Ns "__ne__" = some none
section
variable {prog : Program} {w : World} {A : Around} {E : Value → Shared → Prop} {h : Heap} {g : Array GenState} {d : Drawn} {t : Nat} {os : OsState} {C x f : Addr} {B : String} {bm : List Value} {b : Value}
end
section
variable {X : Cx} {n : Nat} {C f : Addr} {fd : FuncData} {ps : List Str} {sp : Sp}
theorem own_run {pins : List (Addr × Obj)} {σ : L2.St} {H : Hp} {s : Shared} {A : Around} {vs : List V} {us : List Value} {Z : V → Hp → Prop} {R : Value → Shared → Prop} (F : FnOk X.prog X.w X.K X.mg X.base CX0 n f fd ps sp) (hb : Binds X.K fd ps []) (hrm : Room n A) (hfr : A.frames = X.A.frames)
    (I : Inv X pins σ H s) (r2 : Vals vs us) (h : sp vs H Z fun _ _ _ => False) (k : ∀ v u s' H', Inv X pins σ H' s' → RelV v u → Z v H' → R u s') : wpAny (model X.prog X.w) A (call (.ref f) us) R X.xe s := by
  have e0 : Env0 X.prog X.w X.K X.mg X.base A X.stack s H := by
    have e := I.env0
    exact ⟨by rw [hfr]; exact e.frames, e.mod, e.bs, e.bsz, e.funs, e.frf, e.hok, e.bare⟩
  have hl := F.len _ _ _ _ h
  have bb : BindsTo s fd ⟨us, []⟩ (ps.zip us) := by
    have := hb s us I.kIn (by rw [List.append_nil, ← r2.length]; exact hl)
    rwa [List.append_nil] at this
  refine wpAny_call (codeAny_mono (F.run A X.stack s H _ _ _ _ _ hrm e0 bb r2 h) fun r s' hq => ?_)
  match r, hq with
  | .error e, hq => exact hq.elim
  | .ok (.ret w), hq =>
    obtain ⟨z, H', I', rz, q⟩ := I.after hq
    exact k z w s' H' I' rz q
/-- what the type of a value is, of those that do not come ahead of the class at C -/
def TyR (K : PySem.W.Frag) (C : Addr) (H : Hp) (y : V) : Prop := ∃ tb, PySem.W.notFirst K C tb = true ∧ TyX K H y tb
def rOwn (K : PySem.W.Frag) (C : Addr) (sp : Sp) (neg : Bool) : R2 := fun x y H Q => ∃ a dx fs, x = .ref a ∧ H a = some (.ins C dx fs) ∧ TyR K C H y ∧ sp [x, y] H (fun v H' => ∃ c, v = .bl c ∧ Q (.bl (neg != c)) H') fun _ _ _ => False
theorem looks_tyR {pins : List (Addr × Obj)} {σ : L2.St} {H : Hp} {s : Shared} {y : V} {u : Value} (I : Inv X pins σ H s) (ry : RelV y u) (h : TyR X.K C H y) : ∃ tb, PySem.W.notFirst X.K C tb = true ∧ PySem.W.Looks (model X.prog X.w) s.heap (typeOf u) tb := by
  obtain ⟨tb, hn, ht⟩ := h
  refine ⟨tb, hn, ?_⟩
  obtain ⟨Pr, kx, hp, _⟩ := kit_of I ry ht
  exact kx.ty _ _ I.kIn hp
theorem op_eqI (T : EqC X.K C f) (F : FnOk X.prog X.w X.K X.mg X.base CX0 n f fd ps sp) (hb : Binds X.K fd ps []) (hr : Room n X.A) : OpR X (compareOp .Eq) (rOwn X.K C sp false) := by
  intro pins s σ H x y v u Q I rx ry h
  obtain ⟨a, dx, fs, rfl, ha, hy, hsp⟩ := h
  cases rx
  obtain ⟨mA, J, _⟩ := ins_get I.hok ha
  obtain ⟨od, J, _⟩ := J.look
  obtain ⟨m, hF⟩ := I.fr
  obtain ⟨tb, hn, hl⟩ := looks_tyR I ry hy
  show wpAny (model X.prog X.w) X.A (richCompare .Eq (.ref a) u) _ _ _
  refine PySem.W.cmp_K (op := .Eq) (tb := tb) hr.units0 hF I.ok.mod.kin J hl hn T.eqF T.isF ?_
  refine own_run F hb hr rfl I (.cons (show RelV (V.ref a) (Value.ref a) from rfl) (.cons ry .nil)) hsp fun w' u' s' H' I' rz ⟨c, ec, q⟩ => ?_
  subst ec
  cases rz
  show EP X pins σ Q (.bool c) s'
  refine ⟨.bl c, H', I', rfl, ?_⟩
  cases c <;> exact q
/-- str(x), x with an own __str__ -/
structure StrC (K : PySem.W.Frag) (C f : Addr) : Prop where
  stF : PySem.W.findIn K (.ref C) "__str__" = some (some (.ref f))
  isF : PySem.W.isFn K (.ref f) = true
def rStrI (C : Addr) (sp : Sp) : List V → Hp → VK → Prop := fun xs H Q => ∃ a dx fs, xs = [.ref a] ∧ H a = some (.ins C dx fs) ∧ sp [.ref a] H (fun v H' => ∃ z, v = .str z ∧ Q (.str z) H') fun _ _ _ => False
end
end DF

set_option linter.all false
set_option maxRecDepth 100000
set_option maxHeartbeats 4000000
namespace DF
open PySem PySem.Spec PyProof.Rows L2
variable [TbC]
section
variable {K : PySem.W.Frag} {G G' H H' H0 H1 G1 : Hp} {P : List Addr} {σ σ' : L2.St} {Γ Γ' Γ1 : EnvF} {L L' L1 : List (Addr × OD)} {c c' c1 : Ow} {W : WX}
variable {ta tb te to ti : TE} {t tr tk : TA} {fa fb fc fe fo fi : FE} {fs fr fk : FA} {tt tu : TT} {ft fu : FT} {E : XK} {ts tw : TS} {fS fT : FS}
/-! ### a look at what is one's own, seen as values -/
def seeO : Sl → Sl
  | .own _ o => match odD o with | some d => .val d | none => .no
  | x => x
def flat : D → Bool
  | .non | .bl _ | .int _ | .str _ | .ty _ | .cls _ => true
  | _ => false
theorem flat_at {v : V} {d : D} (h : At K G v d) (f : flat d = true) (G' : Hp) : At K G' v d := by
  cases h with
  | non => exact .non
  | bl b => exact .bl b
  | int b => exact .int b
  | str b => exact .str b
  | ty b => exact .ty b
  | cls b => exact .cls b
  | _ => simp [flat] at f
theorem see_env {G1 : Hp} (eG : Ext G G1) : ∀ {σ : L2.St} {Γ : EnvF} {L : List (Addr × OD)}, EnvR K G P σ Γ L → (∀ e ∈ L, HasO K G H e.1 e.2) → (∀ e ∈ L, G1 e.1 = H e.1) → EnvR K G1 P σ (Γ.map seeO) []
  | _, _, _, .nil, _, _ => .nil
  | _, _, _, .no l, h1, h2 => .no (see_env eG l h1 h2)
  | _, _, _, .exc l, h1, h2 => .exc (see_env eG l h1 h2)
  | _, _, _, .val a l, h1, h2 => .val (a.mono eG) (see_env eG l h1 h2)
  | _, _, _, @EnvR.own _ _ _ _ p k o _ _ _ a l, h1, h2 => by
    have ih := see_env eG l (fun e he => h1 e (List.mem_cons_of_mem _ he)) (fun e he => h2 e (List.mem_cons_of_mem _ he))
    have ho := h1 _ List.mem_cons_self
    have hg := h2 _ List.mem_cons_self
    cases ed : odD o with
    | none =>
      have : seeO (.own k o) = .no := by simp [seeO, ed]
      rw [List.map_cons, this]
      exact .no ih
    | some d =>
      have : seeO (.own k o) = .val d := by simp [seeO, ed]
      rw [List.map_cons, this]
      obtain ⟨x, q1, q2⟩ := hasO_at ho ed
      exact .val (q2 _ eG (by rw [hg]; exact q1)) ih
theorem see_core (s : Sta K P c G H σ Γ L) : ∃ c1 G1, Sta K P c1 G1 H σ (Γ.map seeO) [] ∧ ∀ c' G' H', Grow (TL []) c1 G1 H c' G' H' → LamX.Tabs TbC.T H' → Grow (TL L) c G H c G H' ∧ Sta K P c G H' σ Γ L := by
  classical
  let G1 : Hp := fun b => if b ∈ L.map (·.1) then H b else G b
  let c1 : Ow := fun b => if b ∈ L.map (·.1) then none else c b
  have inL : ∀ b, b ∈ L.map (·.1) → ∃ o, c b = some o := fun b hb => by
    obtain ⟨e, he, ee⟩ := List.mem_map.mp hb
    exact ⟨e.2, ee ▸ s.ow e he⟩
  have gL : ∀ b, b ∈ L.map (·.1) → G b = none := fun b hb => by
    obtain ⟨o, ho⟩ := inL b hb
    exact (s.iv.ow b o ho).1
  have eG : Ext G G1 := fun b o e => by
    have : b ∉ L.map (·.1) := fun z => by rw [gL b z] at e; cases e
    show (if b ∈ L.map (·.1) then H b else G b) = some o
    rw [if_neg this]; exact e
  have iv1 : Iv K c1 G1 H := by
    refine ⟨fun b o e => ?_, fun p o e => ?_, fun b ps e => ?_, s.iv.tb, TbC.zm s.iv.z eG fun _ _ _ e => e⟩
    · have e : (if b ∈ L.map (·.1) then H b else G b) = some o := e
      split at e
      · exact e
      · exact s.iv.i b o e
    · have e : (if p ∈ L.map (·.1) then none else c p) = some o := e
      split at e
      · cases e
      · rename_i hp
        obtain ⟨q1, q2⟩ := s.iv.ow p o e
        refine ⟨?_, q2.mono eG fun _ => rfl⟩
        show (if p ∈ L.map (·.1) then H p else G p) = none
        rw [if_neg hp]; exact q1
    · have e : (if b ∈ L.map (·.1) then H b else G b) = some (HO.tbl ps) := e
      split at e
      · rename_i hb
        obtain ⟨o, ho⟩ := inL b hb
        exact ((s.iv.ow b o ho).2.ne e).1 ps rfl
      · exact s.iv.nt b ps e
  refine ⟨c1, G1, ⟨see_env (H := H) eG s.r (fun e he => (s.iv.ow _ _ (s.ow e he)).2) (fun e he => if_pos (List.mem_map.mpr ⟨e, he, rfl⟩)), List.nodup_nil, fun e he => (List.not_mem_nil he).elim, iv1, s.pa⟩, fun c' G' H' g tb' => ?_⟩
  have keep : ∀ b o, (c b = none ∨ b ∈ L.map (·.1)) → ((∀ ps, o ≠ HO.tbl ps) ∨ TbC.T = []) → H b = some o → H' b = some o := fun b o h ho e => g.h b o (by
    show (if b ∈ L.map (·.1) then none else c b) = none
    split
    · rfl
    · rename_i hb; exact h.elim id fun z => absurd z hb) ho e
  have keep2 : ∀ b, b ∉ L.map (·.1) → c b ≠ none → H' b = H b := fun b hb hc => (g.f b (by simp [TL]) (by
    show (if b ∈ L.map (·.1) then none else c b) ≠ none
    rw [if_neg hb]; exact hc)).2
  have own' : ∀ p o, c p = some o → H' p = H p := fun p o e => by
    by_cases hp : p ∈ L.map (·.1)
    · cases q : H p with
      | none => exact absurd q (s.iv.ow p o e).2.some
      | some u => exact keep p u (.inr hp) (.inl ((s.iv.ow p o e).2.ne q).1) q
    · exact keep2 p hp (by rw [e]; simp)
  have iv' : Iv K c G H' := by
    refine ⟨fun b o e => keep b o (.inl ?_) (.inl (s.iv.nt.ne e)) (s.iv.i b o e), fun p o e => ?_, s.iv.nt, tb', TbC.zm s.iv.z Ext.rfl' fun b o st e => keep b _ (.inl (by
      cases q : c b with
      | none => rfl
      | some u => exact absurd rfl ((s.iv.ow b u q).2.nxd st e))) (.inl st.nt) e⟩
    · cases q : c b with
      | none => rfl
      | some u => rw [(s.iv.ow b u q).1] at e; cases e
    · obtain ⟨q1, q2⟩ := s.iv.ow p o e
      exact ⟨q1, q2.mono Ext.rfl' fun _ => own' p o e⟩
  exact ⟨⟨Ext.rfl', fun b o hc ho e => keep b o (.inl hc) ho e, fun b h => .inl h, fun b h => .inl h, fun b hb hc => ⟨rfl, keep2 b hb hc⟩, g.n⟩, ⟨s.r, s.nd, s.ow, iv', fun p hp => g.n p (s.pa p hp)⟩⟩
def fPk (f : FE) : FE := fun Γ => match f (Γ.map seeO) with
  | some (.ok (.val d) _) => if flat d = true then some (.ok (.val d) Γ) else none
  | _ => none
theorem sim_pk (h : SimE K W te fa) : SimE K W te (fPk fa) := fun P σ c G H Γ L s r e Q post => by
  unfold fPk at e
  obtain ⟨c1, G1, s1, back⟩ := see_core s
  cases ef : fa (Γ.map seeO) with
  | none => rw [ef] at e; cases e
  | some rr =>
    rw [ef] at e
    cases rr with
    | ex _ _ _ _ => cases e
    | ok v Γ2 =>
      cases v with
      | val d =>
        have e : (if flat d = true then some (Rt.ok (Vr.val d) Γ) else none) = some r := e
        split at e
        · rename_i hf
          cases e
          refine h P σ c1 G1 H _ [] s1 _ ef Q ?_
          intro u c' G' H' L' g' s' e' r'
          obtain ⟨g2, s2⟩ := back c' G' H' g' s'.iv.tb
          exact post u c G H' L g2 s2 rfl (flat_at (show At K G' u d from r') hf G)
        · cases e
      | _ => cases e
def fPkT (f : FT) : FT := fun Γ => match f (Γ.map seeO) with
  | some (.ok b _) => some (.ok b Γ)
  | _ => none
theorem sim_pkT (h : SimT K W tt ft) : SimT K W tt (fPkT ft) := fun P σ c G H Γ L s r e Q post => by
  unfold fPkT at e
  obtain ⟨c1, G1, s1, back⟩ := see_core s
  cases ef : ft (Γ.map seeO) with
  | none => rw [ef] at e; cases e
  | some rr =>
    rw [ef] at e
    cases rr with
    | ex _ _ _ _ => cases e
    | ok v Γ2 =>
      cases e
      refine h P σ c1 G1 H _ [] s1 _ ef Q ?_
      intro u c' G' H' L' g' s' e' r'
      obtain ⟨g2, s2⟩ := back c' G' H' g' s'.iv.tb
      exact post u c G H' L g2 s2 rfl r'
/-! ### lists of one's own -/
def hasOwn {α : Type} (i : Nat) (f : FM α) : FM α := fun Γ => match Γ[i]? with
  | some (.own _ _) => f Γ
  | _ => none
theorem hasOwn_at {α : Type} {i : Nat} {f : FM α} {r : Rt α} (s : Sta K P c G H σ Γ L) (e : hasOwn i f Γ = some r) : f Γ = some r ∧ ∃ p, σ[i]? = some (some (V.ref p)) := by
  unfold hasOwn at e
  cases ei : Γ[i]? with
  | none => rw [ei] at e; cases e
  | some x =>
    rw [ei] at e
    cases x with
    | own k o => obtain ⟨p, q1, _⟩ := s.r.getO ei; exact ⟨e, p, q1⟩
    | _ => cases e
/-- the list in a slot -/
def lstAt (i : Nat) (Γ : EnvF) : Option (Nat × List D) := match Γ[i]? with
  | some (.own k (.lst ds)) => some (k, ds)
  | _ => none
theorem lstAt_at {i k : Nat} {ds : List D} {p : Addr} (s : Sta K P c G H σ Γ L) (hp : σ[i]? = some (some (V.ref p))) (e : lstAt i Γ = some (k, ds)) : Γ[i]? = some (.own k (.lst ds)) ∧ ∃ vs, H p = some (.lst vs) ∧ AtL K G vs ds := by
  unfold lstAt at e
  split at e
  · rename_i k' ds' ei
    cases e
    obtain ⟨p', q1, q2, _⟩ := s.r.getO ei
    have ep : p' = p := by rw [hp] at q1; injection q1 with q1; injection q1 with q1; injection q1 with q1; exact q1.symm
    subst ep
    exact ⟨ei, (s.iv.ow _ _ (s.ow _ q2)).2⟩
  · cases e
/-- x[i] -/
def fIxO (i : Nat) (b : FE) : FE := hasOwn i (FM.bind (fV b) fun y Γ => match lstAt i Γ, y with
  | some (_, ds), .int j => (atI ds j).map fun d => .ok (.val d) Γ
  | _, _ => none)
theorem sim_ixO {i : Nat} (hb : SimE K W tb fb) : SimE K W (tOp (rIx K) (tVar i) tb) (fIxO i fb) := fun P σ c G H Γ L s r e Q post => by
  obtain ⟨e, p, hp⟩ := hasOwn_at s e
  rcases FM.bind_some e with ⟨y, Γ1, e1, e2⟩ | ⟨cn', fl, d, Γ1, e1, er⟩
  · refine ⟨.ref p, hp, sim_val hb P σ c G H Γ L s _ e1 _ ?_⟩
    intro u c1 G1 H1 L1 g1 s1 e1' r1
    have r1 : At K G1 u y := r1
    cases el : lstAt i Γ1 with
    | none => rw [el] at e2; cases e2
    | some kd =>
      obtain ⟨k, ds⟩ := kd
      rw [el] at e2
      obtain ⟨ei, vs, hv, l⟩ := lstAt_at s1 hp el
      cases y with
      | int j =>
        cases r1
        simp only [Option.map_eq_some_iff] at e2
        obtain ⟨d, ed, er⟩ := e2
        subst er
        obtain ⟨w, h1, h2⟩ := atI_of l ed
        exact .inl ⟨p, vs, j, w, rfl, rfl, .inl (.inl hv), h1, post w c1 G1 H1 L1 g1 s1 e1' h2⟩
      | _ => cases e2
  · subst er
    exact ⟨.ref p, hp, sim_val hb P σ c G H Γ L s _ e1 _ post⟩
/-- x.append(e) -/
def fApp (i : Nat) (b : FE) : FE := hasOwn i (FM.bind (fV b) fun y Γ => match lstAt i Γ with
  | some (k, ds) => if ds.length < 16777216 then some (.ok (.val .non) (Γ.set i (.own k (.lst (ds ++ [y]))))) else none
  | none => none)
theorem tyV_lst {p : Addr} {vs : List V} (h : H p = some (.lst vs)) : tyV K "list" (.ref p) H := .inl ⟨rfl, vs, .inl (.inl h)⟩
def hasLst {α : Type} (i : Nat) (f : FM α) : FM α := fun Γ => match lstAt i Γ with
  | some _ => f Γ
  | none => none
theorem hasLst_at {α : Type} {i : Nat} {f : FM α} {r : Rt α} (s : Sta K P c G H σ Γ L) (e : hasLst i f Γ = some r) : f Γ = some r ∧ ∃ p vs, σ[i]? = some (some (V.ref p)) ∧ H p = some (.lst vs) := by
  unfold hasLst at e
  cases el : lstAt i Γ with
  | none => rw [el] at e; cases e
  | some kd =>
    rw [el] at e
    obtain ⟨k, ds⟩ := kd
    have el' := el
    unfold lstAt at el
    split at el
    · rename_i k' ds' ei
      obtain ⟨p, q1, _⟩ := s.r.getO ei
      obtain ⟨_, vs, h1, _⟩ := lstAt_at s q1 el'
      exact ⟨e, p, vs, q1, h1⟩
    · cases el
def fAppend (i : Nat) (b : FE) : FE := hasLst i (FM.bind (fV b) fun y Γ => match lstAt i Γ with
  | some (k, ds) => if ds.length < 16777216 then some (.ok (.val .non) (Γ.set i (.own k (.lst (ds ++ [y]))))) else none
  | none => none)
theorem sim_append {i : Nat} (hb : SimE K W tb fb) : SimE K W (tBM K "list" rAppend (tVar i) (tCons tb tNil)) (fAppend i fb) := fun P σ c G H Γ L s r e Q post => by
  obtain ⟨e, p, vs0, hp, hv0⟩ := hasLst_at s e
  refine ⟨.ref p, hp, tyV_lst hv0, ?_⟩
  rcases FM.bind_some e with ⟨y, Γ1, e1, e2⟩ | ⟨cn', fl, d, Γ1, e1, er⟩
  · refine sim_val hb P σ c G H Γ L s _ e1 _ ?_
    intro u c1 G1 H1 L1 g1 s1 e1' r1
    cases el : lstAt i Γ1 with
    | none => rw [el] at e2; cases e2
    | some kd =>
      obtain ⟨k, ds⟩ := kd
      rw [el] at e2
      obtain ⟨ei, vs, hv, l⟩ := lstAt_at s1 hp el
      have e2 : (if ds.length < 16777216 then some (Rt.ok (Vr.val .non) (Γ1.set i (.own k (.lst (ds ++ [y]))))) else none) = some r := e2
      split at e2
      · rename_i hl
        cases e2
        obtain ⟨L2', g2, s2, n2⟩ := set_own_core (ho := .lst (vs ++ [u])) s1 ei hp (o' := .lst (ds ++ [y])) ⟨_, upd_same, l.append (.cons r1 .nil)⟩
        exact ⟨p, vs, u, rfl, rfl, hv, by rw [l.length, sizeLine_eq]; exact hl, post .non _ _ _ L2' (g1.trans' s.iv g2 (fun _ z => z) fun b z => .inl (by unfold TL at z ⊢; rwa [e1'] at z)) s2 (n2.trans e1') .non⟩
      · cases e2
  · subst er
    exact sim_val hb P σ c G H Γ L s _ e1 _ post
/-- x.pop() -/
def fPop (i : Nat) : FE := fun Γ => match lstAt i Γ with
  | some (k, ds) => (ds[ds.length - 1]?).map fun d => .ok (.val d) (Γ.set i (.own k (.lst ds.dropLast)))
  | none => none
theorem sim_pop {i : Nat} : SimE K W (tBM0 K "list" rPop (tVar i)) (fPop i) := fun P σ c G H Γ L s r e Q post => by
  unfold fPop at e
  cases el : lstAt i Γ with
  | none => rw [el] at e; cases e
  | some kd =>
    obtain ⟨k, ds⟩ := kd
    rw [el] at e
    simp only [Option.map_eq_some_iff] at e
    obtain ⟨d, ed, er⟩ := e
    subst er
    obtain ⟨_, p, vs0, hp, hv0⟩ := hasLst_at (f := FM.pure ()) (r := .ok () Γ) s (by unfold hasLst; rw [el]; rfl)
    obtain ⟨ei, vs, hv, l⟩ := lstAt_at s hp el
    obtain ⟨w, h1, h2⟩ := l.get ed
    obtain ⟨L2', g2, s2, n2⟩ := set_own_core (ho := .lst vs.dropLast) s ei hp (o' := .lst ds.dropLast) ⟨_, upd_same, l.dropLast⟩
    exact ⟨.ref p, hp, tyV_lst hv0, p, vs, w, rfl, rfl, hv, by rw [l.length]; exact h1, post w _ _ _ L2' g2 s2 n2 (show At K G w d from h2)⟩
/-- x[i] = .. -/
def pSub (i : Nat) (b : FE) : D → FM Unit := fun d => hasOwn i (FM.bind (fV b) fun y Γ => match lstAt i Γ, y with
  | some (k, ds), .int j => (ixN ds.length j).map fun n => .ok () (Γ.set i (.own k (.lst (ds.set n d))))
  | _, _ => none)
theorem sim_gsub {i : Nat} (hb : SimE K W tb fb) : SimG K W [] (gSub (tVar i) tb rSetL) (pSub i fb) := fun P σ c G H Γ L s u d a r e Q q qx => by
  obtain ⟨e, p, hp⟩ := hasOwn_at s e
  rcases FM.bind_some e with ⟨y, Γ1, e1, e2⟩ | ⟨cn', fl, d', Γ1, e1, er⟩
  · refine ⟨.ref p, hp, sim_val hb P σ c G H Γ L s _ e1 _ ?_⟩
    intro u1 c1 G1 H1 L1 g1 s1 e1' r1
    have r1 : At K G1 u1 y := r1
    cases el : lstAt i Γ1 with
    | none => rw [el] at e2; cases e2
    | some kd =>
      obtain ⟨k, ds⟩ := kd
      rw [el] at e2
      obtain ⟨ei, vs, hv, l⟩ := lstAt_at s1 hp el
      cases y with
      | int j =>
        cases r1
        simp only [Option.map_eq_some_iff] at e2
        obtain ⟨n, en, er⟩ := e2
        subst er
        obtain ⟨L2', g2, s2, n2⟩ := set_own_core (ho := .lst (vs.set n u)) s1 ei hp (o' := .lst (ds.set n d)) ⟨_, upd_same, l.set n (a.mono g1.g)⟩
        exact ⟨p, vs, j, n, rfl, rfl, hv, by rw [l.length]; exact en, q _ rfl σ _ _ _ L2' .refl (g1.trans' s.iv g2 (fun _ z => z) fun b z => .inl (by unfold TL at z ⊢; rwa [e1'] at z)) s2 (tl_of (n2.trans e1'))⟩
      | _ => cases e2
  · subst er
    exact ⟨.ref p, hp, sim_val hb P σ c G H Γ L s _ e1 _ (qx _ _ _ _ rfl)⟩
/-! x += e -/
def fAug (i : Nat) (f : D → D → Option D) (b : FE) : FS := fun Γ => match Γ[i]? with
  | some (.val x) => FM.bind (fV b) (fun y Γ1 => (f x y).map fun z => .ok .nx (Γ1.set i (.val z))) Γ
  | _ => none
def SimIp (K : PySem.W.Frag) (r : TIp) (f : D → D → Option D) : Prop := SimR2 K r f
theorem sim_aug {i : Nat} {r : TIp} {f : D → D → Option D} (hr : SimR2 K r f) (hb : SimE K W tb fb) : SimS K W (tAug i tb r) (fAug i f fb) := fun P σ c G H Γ L s rr e Dn post => by
  unfold fAug at e
  cases ei : Γ[i]? with
  | none => rw [ei] at e; cases e
  | some x =>
    rw [ei] at e
    cases x with
    | val x =>
      obtain ⟨v, h1, h2⟩ := s.r.get ei
      refine ⟨v, h1, ?_⟩
      rcases FM.bind_some e with ⟨y, Γ1, e1, e2⟩ | ⟨cn', fl, d', Γ1, e1, er⟩
      · refine sim_val hb P σ c G H Γ L s _ e1 _ ?_
        intro u c1 G1 H1 L1 g1 s1 e1' r1
        simp only [Option.map_eq_some_iff] at e2
        obtain ⟨z, ez, er⟩ := e2
        subst er
        refine hr x y z ez G1 H1 v u s1.iv.bs (h2.mono g1.g) r1 _ fun w G2 H2 g2 t2 => ?_
        have s2 := s1.pg g2
        obtain ⟨L3, s3, n3⟩ := s2.val i t2
        exact post.nx _ rfl _ c1 G2 H2 L3 (g1.trans' s.iv (g2.grow (T := TL L1) s1.iv) (fun _ z => z) fun b z => .inl (by unfold TL at z ⊢; rwa [e1'] at z)) s3 fun x hx => tl_of e1' x (n3.subset hx)
      · subst er
        exact sim_val hb P σ c G H Γ L s _ e1 _ (post.ex _ _ _ _ rfl)
    | _ => cases e
theorem sim_ip {f : Int → Int → Int} : SimR2 K (ipI f) (intD fun i j => .int (f i j)) := by
  intro x y z e G H u v i hu hv Q q
  have bs := i
  have i := bs.i
  cases hu with
  | int a => cases hv with
    | int b => cases e; exact ⟨a, b, rfl, rfl, q _ G H (PG.refl i) (.int _)⟩
    | _ => cases e
  | _ => cases e
/-! ### truth -/
def truD : D → Option Bool
  | .non => some false | .bl b => some b | .int i => some (i != 0)
  | .str z => if z.length ≤ 16777216 then some ((z.length : Int) != 0) else none
  | .tup ds => some !ds.isEmpty | .lst ds => some !ds.isEmpty | .dct ds => some !ds.isEmpty | _ => none
abbrev tTru (K : PySem.W.Frag) (ta : TE) : TT := fun σ H Q => ta σ H fun x H' => ∃ k, TruV K x H' k ∧ Q k H'
def fTru (a : FE) : FT := FM.bind (fV a) fun x => fOf (truD x)
theorem sim_tru (ha : SimE K W ta fa) : SimT K W (tTru K ta) (fTru fa) := fun P σ c G H Γ L s => by
  unfold fTru
  refine Run.bind (R' := eqR Bool) (t2 := fun x H1 Q => ∃ k, TruV K x H1 k ∧ Q k H1) s.iv (sim_val ha P σ c G H Γ L s) fun x Γ1 u c1 G1 H1 L1 g1 s1 e1 r1 => ?_
  have r1 : At K G1 u x := r1
  intro r e Q post
  cases ex : truD x with
  | none => rw [ex] at e; cases e
  | some b =>
    rw [ex] at e
    cases e
    refine ⟨b, ?_, post b c1 G1 H1 L1 .refl s1 rfl rfl⟩
    have emp : ∀ {vs : List V} {ds : List D}, AtL K G1 vs ds → (!ds.isEmpty) = !vs.isEmpty := fun l => by cases l <;> rfl
    cases r1 with
    | non => cases ex; rfl
    | bl => cases ex; rfl
    | int => cases ex; rfl
    | str z =>
      have ex : (if z.length ≤ 16777216 then some ((z.length : Int) != 0) else none) = some b := ex
      split at ex
      · rename_i hz; cases ex; exact ⟨by rw [sizeLine_eq]; exact hz, rfl⟩
      · cases ex
    | tup hp l => cases ex; exact .inr (.inl ⟨_, sqT_ext hp s1.iv.i, emp l⟩)
    | lst hp l => cases ex; exact .inl ⟨_, ext_lst s1.iv.i hp, emp l⟩
    | dct hp l => cases ex; exact .inr (.inr ⟨_, s1.iv.i _ _ hp, by cases l <;> rfl⟩)
    | _ => cases ex
end
end DF

set_option linter.all false
set_option maxRecDepth 100000
set_option maxHeartbeats 4000000
namespace DF
open PySem PySem.Spec PyProof.Rows L2
variable [TbC]
section
variable {K : PySem.W.Frag} {G G' H H' H0 H1 G1 : Hp} {P : List Addr} {σ σ' : L2.St} {Γ Γ' Γ1 : EnvF} {L L' L1 : List (Addr × OD)} {c c' c1 : Ow} {W : WX}
variable {ta tb te to ti : TE} {t tr tk : TA} {fa fb fc fe fo fi : FE} {fs fr fk : FA} {tt tu : TT} {ft fu : FT} {E : XK} {ts tw : TS} {fS fT : FS}
theorem SimC.or {r r' : List V → Hp → VK → Prop} {f g : List D → Option D} (h : SimC K r f) (h' : SimC K r' g) : SimC K (fun xs H Q => r xs H Q ∨ r' xs H Q) (fun xs => match f xs with | some z => some z | none => g xs) := by
  intro x z e G H u i hu Q q
  have bs := i
  have i := bs.i
  dsimp only at e
  cases ef : f x with
  | some z' => rw [ef] at e; cases e; exact .inl (h x z ef G H u bs hu Q q)
  | none => rw [ef] at e; exact .inr (h' x z e G H u bs hu Q q)
/-! ### built-ins -/
def lenD : List D → Option D
  | [.str z] => if z.length ≤ 16777216 then some (.int z.length) else none
  | [.lst ds] => some (.int ds.length)
  | [.tup ds] => some (.int ds.length)
  | [.scr ns] => some (.int ns.length)
  | _ => none
abbrev rLen (K : PySem.W.Frag) : List V → Hp → VK → Prop := fun xs H Q => ∃ x n, xs = [x] ∧ LenV K x H n ∧ Q (.int n) H
theorem sim_len : SimC K (rLen K) lenD := by
  intro xs z e G H us i l Q q
  have bs := i
  have i := bs.i
  unfold lenD at e
  split at e
  · split at e
    · rename_i s hs
      cases e
      obtain ⟨u, eu, h⟩ := atl1 l; subst eu; cases h
      exact ⟨_, _, rfl, ⟨by rw [sizeLine_eq]; exact hs, rfl⟩, q _ G H (PG.refl i) (.int _)⟩
    · cases e
  · cases e
    obtain ⟨u, eu, h⟩ := atl1 l; subst eu
    cases h with
    | lst hp l => exact ⟨_, _, rfl, .inl ⟨_, ext_lst i hp, l.length.symm⟩, q _ G H (PG.refl i) (.int _)⟩
  · cases e
    obtain ⟨u, eu, h⟩ := atl1 l; subst eu
    cases h with
    | tup hp l => exact ⟨_, _, rfl, .inr ⟨_, sqT_ext hp i, l.length.symm⟩, q _ G H (PG.refl i) (.int _)⟩
  · cases e
    obtain ⟨u, eu, h⟩ := atl1 l; subst eu
    cases h with
    | scr hp => exact ⟨_, _, rfl, .inl ⟨_, (hp.ext i).seq, by simp⟩, q _ G H (PG.refl i) (.int _)⟩
  · cases e
def absD : List D → Option D
  | [.int i] => some (.int (if i < 0 then -i else i))
  | _ => none
theorem sim_abs : SimC K (fun xs H Q => ∃ i, xs = [.int i] ∧ Q (.int (if i < 0 then -i else i)) H) absD := by
  intro xs z e G H us i l Q q
  have bs := i
  have i := bs.i
  unfold absD at e
  split at e
  · cases e; obtain ⟨u, eu, h⟩ := atl1 l; subst eu; cases h; exact ⟨_, rfl, q _ G H (PG.refl i) (.int _)⟩
  · cases e
/-- int(x) of an int, a bool, a text -/
abbrev rInt : List V → Hp → VK → Prop := fun xs H Q => ((∃ i, xs = [.int i] ∧ Q (.int i) H) ∨ ∃ k, xs = [.bl k] ∧ Q (.int (if k then 1 else 0)) H) ∨ ∃ a n, xs = [.str a] ∧ PySem.intText? a = some n ∧ a.length ≤ 640 ∧ Q (.int n) H
theorem call_int {X : Cx} : CallR X (.type "int") rInt := CallR.or call_int1 call_int_str
def intOf : List D → Option D
  | [.int i] => some (.int i)
  | [.bl b] => some (.int (if b then 1 else 0))
  | [.str a] => if a.length ≤ 640 then (PySem.intText? a).map D.int else none
  | _ => none
theorem sim_int1 : SimC K rInt intOf := by
  intro xs z e G H us i l Q q
  have bs := i
  have i := bs.i
  unfold intOf at e
  split at e
  · cases e; obtain ⟨u, eu, h⟩ := atl1 l; subst eu; cases h; exact .inl (.inl ⟨_, rfl, q _ G H (PG.refl i) (.int _)⟩)
  · cases e; obtain ⟨u, eu, h⟩ := atl1 l; subst eu; cases h; exact .inl (.inr ⟨_, rfl, q _ G H (PG.refl i) (.int _)⟩)
  · split at e
    · rename_i a ha
      simp only [Option.map_eq_some_iff] at e
      obtain ⟨n, en, ez⟩ := e
      subst ez
      obtain ⟨u, eu, h⟩ := atl1 l; subst eu; cases h
      exact .inr ⟨_, _, rfl, en, ha, q _ G H (PG.refl i) (.int _)⟩
    · cases e
  · cases e
/-- str(x) of an int, a text -/
abbrev rStr : List V → Hp → VK → Prop := fun xs H Q => (∃ i, xs = [.int i] ∧ i.natAbs.log2 < 1920 ∧ Q (.str (toString i)) H) ∨ ∃ a, xs = [.str a] ∧ Q (.str a) H
def strOf : List D → Option D
  | [.int i] => if i.natAbs.log2 < 1920 then some (.str (toString i)) else none
  | [.str a] => some (.str a)
  | _ => none
def divmodD : List D → Option D
  | [.int i, .int j] => if 0 < j ∧ j < 1073741824 then some (.tup [.int (i / j), .int (i % j)]) else none
  | _ => none
abbrev rDivmod : List V → Hp → VK → Prop := fun xs H Q => ∃ i j, xs = [.int i, .int j] ∧ CDiv i j ∧ ∀ p, H p = none → Q (.ref p) (upd H p (.tup [.int (i / j), .int (i % j)]))
theorem sim_divmod : SimC K rDivmod divmodD := by
  intro xs z e G H us i l Q q
  have bs := i
  have i := bs.i
  unfold divmodD at e
  split at e
  · split at e
    · rename_i a b hj
      cases e; obtain ⟨u, v, eu, h1, h2⟩ := atl2 l; subst eu; cases h1; cases h2
      refine ⟨_, _, rfl, hj, fun p hp => ?_⟩
      have gn := PG.new (G := G) (o := .tup [.int (a / b), .int (a % b)]) i hp
      exact q _ _ _ gn (.tup (.inl (.inl upd_same)) (.cons (.int _) (.cons (.int _) .nil)))
    · cases e
  · cases e
def min2D : List D → Option D
  | [.int i, .int j] => some (.int (if j < i then j else i))
  | _ => none
def max2D : List D → Option D
  | [.int i, .int j] => some (.int (if j > i then j else i))
  | _ => none
theorem sim_max2 : SimC K (fun xs H Q => ∃ i j, xs = [.int i, .int j] ∧ Q (.int (if j > i then j else i)) H) max2D := by
  intro xs z e G H us i l Q q
  have bs := i
  have i := bs.i
  unfold max2D at e
  split at e
  · cases e; obtain ⟨u, v, eu, h1, h2⟩ := atl2 l; subst eu; cases h1; cases h2; exact ⟨_, _, rfl, q _ G H (PG.refl i) (.int _)⟩
  · cases e
def boolsOf : List D → Option (List Bool)
  | [] => some []
  | .bl b :: ds => (boolsOf ds).map (b :: ·)
  | _ => none
theorem bools_at : ∀ {us : List V} {ds : List D} {bs : List Bool}, AtL K G us ds → boolsOf ds = some bs → us = bs.map V.bl
  | _, _, _, .nil, e => by cases e; rfl
  | _, d :: ds, bs, .cons a l, e => by
    cases d with
    | bl b =>
      have e : (boolsOf ds).map (b :: ·) = some bs := e
      simp only [Option.map_eq_some_iff] at e
      obtain ⟨bs', e1, e2⟩ := e
      subst e2
      cases a
      rw [List.map_cons, bools_at l e1]
    | _ => cases e
def allD : List D → Option D
  | [.lst ds] => (boolsOf ds).map fun bs => .bl (bs.all id)
  | _ => none
theorem sim_all : SimC K (rAll K) allD := by
  intro xs z e G H us i l Q q
  have bs := i
  have i := bs.i
  unfold allD at e
  split at e
  · simp only [Option.map_eq_some_iff] at e
    obtain ⟨bs, eb, ez⟩ := e
    subst ez
    obtain ⟨u, eu, h⟩ := atl1 l; subst eu
    cases h with
    | lst hp l =>
      have := bools_at l eb
      subst this
      exact ⟨_, bs, rfl, ext_lst i hp, q _ G H (PG.refl i) (.bl _)⟩
  · cases e
def anyD : List D → Option D
  | [.lst ds] => (boolsOf ds).map fun bs => .bl (bs.any id)
  | _ => none
def intsOf : List D → Option (List Int)
  | [] => some []
  | .int b :: ds => (intsOf ds).map (b :: ·)
  | _ => none
theorem ints_at : ∀ {us : List V} {ds : List D} {bs : List Int}, AtL K G us ds → intsOf ds = some bs → us = bs.map V.int
  | _, _, _, .nil, e => by cases e; rfl
  | _, d :: ds, bs, .cons a l, e => by
    cases d with
    | int b =>
      have e : (intsOf ds).map (b :: ·) = some bs := e
      simp only [Option.map_eq_some_iff] at e
      obtain ⟨bs', e1, e2⟩ := e
      subst e2
      cases a
      rw [List.map_cons, ints_at l e1]
    | _ => cases e
def sumD : List D → Option D
  | [.lst ds] => (intsOf ds).map fun bs => .int bs.sum
  | _ => none
def gcdD : List D → Option D
  | [.int i, .int j] => some (.int ((Nat.gcd i.natAbs j.natAbs : Nat) : Int))
  | _ => none
abbrev rTupOf (K : PySem.W.Frag) : List V → Hp → VK → Prop := fun xs H Q => ∃ p ys, xs = [.ref p] ∧ ((SqL K H p ys ∧ ∀ l, H l = none → Q (.ref l) (upd H l (.tup ys))) ∨ (SqT K H p ys ∧ Q (.ref p) H))
def tupOf : List D → Option D
  | [.lst ds] => some (.tup ds)
  | [.tup ds] => some (.tup ds)
  | [.scr ns] => some (.tup (ns.map .int))
  | _ => none
theorem sim_tupOf : SimC K (rTupOf K) tupOf := by
  intro xs z e G H us i l Q q
  have bs := i
  have i := bs.i
  unfold tupOf at e
  split at e
  · cases e
    obtain ⟨u, eu, h⟩ := atl1 l; subst eu
    cases h with
    | @lst p vs ds hp l =>
      refine ⟨p, vs, rfl, .inl ⟨ext_lst i hp, fun np hn => ?_⟩⟩
      have gn := PG.new (G := G) (o := .tup vs) i hn
      exact q _ _ _ gn (.tup (.inl (.inl upd_same)) (l.mono gn.g))
  · cases e
    obtain ⟨u, eu, h⟩ := atl1 l; subst eu
    cases h with
    | @tup p vs ds hp l => exact ⟨p, vs, rfl, .inr ⟨sqT_ext hp i, q _ G H (PG.refl i) (.tup hp l)⟩⟩
  · cases e
    obtain ⟨u, eu, h⟩ := atl1 l; subst eu
    rename_i ns
    cases h with
    | @scr p _ hp =>
      refine ⟨p, _, rfl, .inl ⟨(hp.ext i).seq, fun np hn => ?_⟩⟩
      have gn := PG.new (G := G) (o := .tup (ns.map V.int)) i hn
      exact q _ _ _ gn (.tup (.inl (.inl upd_same)) (atl_ints ns))
  · cases e
abbrev rLstOf (K : PySem.W.Frag) : List V → Hp → VK → Prop := fun xs H Q => ∃ p ys, xs = [.ref p] ∧ (SqL K H p ys ∨ SqT K H p ys) ∧ ∀ l, H l = none → Q (.ref l) (upd H l (.lst ys))
def lstOf : List D → Option D
  | [.lst ds] => some (.lst ds)
  | [.tup ds] => some (.lst ds)
  | [.scr ns] => some (.lst (ns.map .int))
  | _ => none
/-! ### repr -/
def rReprU (K : PySem.W.Frag) : List V → Hp → VK → Prop := fun xs H Q => (∃ (b : Addr) (d : PyData), xs = [.ref b] ∧ Dp K H (.ref b) d ∧ d.showable = true ∧ d.hasDict = false ∧ d.depth ≤ 64 ∧ d.shown.length ≤ sizeLine ∧ Q (.str d.shown) H) ∨
  (xs = [.non] ∧ Q (.str "None") H) ∨ (∃ i, xs = [.int i] ∧ i.natAbs.log2 < 1920 ∧ Q (.str (toString i)) H) ∨ (∃ b, xs = [.bl b] ∧ Q (.str (if b then "True" else "False")) H) ∨ (∃ z, xs = [.str z] ∧ (reprText z).length ≤ sizeLine ∧ Q (.str (reprText z)) H)
def reprOk (x : D) : Bool := pur x && (py x).showable && !(py x).hasDict && decide ((py x).depth ≤ 64) && decide ((py x).shown.length ≤ 16777216)
def reprD : List D → Option D
  | [.non] => some (.str "None")
  | [.int i] => if i.natAbs.log2 < 1920 then some (.str (toString i)) else none
  | [.bl b] => some (.str (if b then "True" else "False"))
  | [.str z] => if (reprText z).length ≤ 16777216 then some (.str (reprText z)) else none
  | [x] => if reprOk x = true then some (.str (py x).shown) else none
  | _ => none
end
end DF

set_option linter.all false
set_option maxRecDepth 100000
set_option maxHeartbeats 4000000
namespace DF
open PySem PySem.Spec PyProof.Rows L2
variable [TbC]
section
variable {K : PySem.W.Frag} {G G' H H' H0 H1 G1 : Hp} {P : List Addr} {σ σ' : L2.St} {Γ Γ' Γ1 : EnvF} {L L' L1 : List (Addr × OD)} {c c' c1 : Ow} {W : WX}
variable {ta tb te to ti : TE} {t tr tk : TA} {fa fb fc fe fo fi : FE} {fs fr fk : FA} {tt tu : TT} {ft fu : FT} {E : XK} {ts tw : TS} {fS fT : FS}
/-! ### isinstance -/
inductive Nm where
  | ty (n : String) | cls (c : Str)
  deriving DecidableEq
def NmV (K : PySem.W.Frag) : Nm → Value → Prop
  | .ty n, v => v = .type n
  | .cls c, v => ∃ C, CT K c C ∧ v = .ref C
def nmOf : D → Option Nm
  | .non => some (.ty "NoneType") | .bl _ => some (.ty "bool") | .int _ => some (.ty "int") | .str _ => some (.ty "str") | .tup _ => some (.ty "tuple") | .lst _ => some (.ty "list") | .dct _ => some (.ty "dict")
  | .ins c _ => some (.cls c) | _ => none
structure IsiC (K : PySem.W.Frag) (C : Addr) : Prop where
  cl : Cls K C
  ha : PySem.W.findIn K (.ref C) "__class__" = some (some (.builtin "object.__class__"))
  hn : PySem.W.specialIn K (.builtin "object.__class__") "__get__" = some (some (.builtin "getset_descriptor.__get__"))
  htk : PySem.W.takesIn K (.builtin "object.__class__") = some true
  hm : PySem.W.mroIn K C (.type "object") = some true
abbrev ITab := List (Nm × Nm × Bool)
structure IsiT (K : PySem.W.Frag) (cs : List Str) (tb : ITab) : Prop where
  isi : ∀ c ∈ cs, ∀ C, CT K c C → IsiC K C
  kit : ∀ e ∈ tb, ∀ tv cv, NmV K e.1 tv → NmV K e.2.1 cv → PySem.W.kitOne K tv cv = some e.2.2
def lookI (a b : Nm) : ITab → Option Bool
  | [] => none
  | (x, y, r) :: tb => if x = a ∧ y = b then some r else lookI a b tb
theorem lookI_mem {a b : Nm} {r : Bool} : ∀ {tb : ITab}, lookI a b tb = some r → (a, b, r) ∈ tb
  | [], e => by cases e
  | (x, y, r0) :: tb, e => by
    unfold lookI at e
    split at e
    · rename_i h; cases e; obtain ⟨h1, h2⟩ := h; subst h1 h2; exact List.mem_cons_self
    · exact List.mem_cons_of_mem _ (lookI_mem e)
theorem ty_at {cs : List Str} {tb : ITab} (T : IsiT K cs tb) {u : V} {d : D} {n : Nm} (i : Ext G H) (h : At K G u d) (e : nmOf d = some n) (hc : ∀ c, n = .cls c → c ∈ cs) : ∃ tv, NmV K n tv ∧ TyX K H u tv := by
  cases h with
  | non => cases e; exact ⟨_, rfl, .base .non⟩
  | bl b => cases e; exact ⟨_, rfl, .base (.bl b)⟩
  | int b => cases e; exact ⟨_, rfl, .base (.int b)⟩
  | str b => cases e; exact ⟨_, rfl, .base (.str b)⟩
  | tup hp l =>
    cases e
    refine ⟨_, rfl, ?_⟩
    rcases hp with hp | ⟨o, its, n, h1, h2, _⟩
    · rcases hp with hp | ⟨o, hp⟩
      · exact .base (.tup (i _ _ hp))
      · exact .fTuple (i _ _ hp)
    · exact .kTuple h1 h2
  | lst hp l => cases e; exact ⟨_, rfl, .base (.lst (i _ _ hp))⟩
  | dct hp l => cases e; exact ⟨_, rfl, .base (.dK (i _ _ hp))⟩
  | @ins p C dx c fs gs ct hp l =>
    cases e
    have T1 := T.isi c (hc c rfl) C ct
    exact ⟨.ref C, ⟨C, ct, rfl⟩, .base (.ins (i _ _ hp) T1.cl T1.ha T1.hn T1.htk T1.hm)⟩
  | _ => cases e
def isiD (cs : List Str) (tb : ITab) : List D → Option D
  | [x, .ty n] => match nmOf x with
    | some (.cls c) => if c ∈ cs then (lookI (.cls c) (.ty n) tb).map .bl else none
    | some a => (lookI a (.ty n) tb).map .bl
    | none => none
  | [x, .cls c'] => match nmOf x with
    | some (.cls c) => if c ∈ cs then (lookI (.cls c) (.cls c') tb).map .bl else none
    | some a => (lookI a (.cls c') tb).map .bl
    | none => none
  | _ => none
theorem isi_core {cs : List Str} {tb : ITab} (T : IsiT K cs tb) {u v : V} {cv : Value} {x z : D} {b : Nm} (i : Ext G H) (hu : At K G u x) (hv : ClsV v cv) (hb : NmV K b cv)
    (e : (match nmOf x with
    | some (.cls c) => if c ∈ cs then (lookI (.cls c) b tb).map D.bl else none
    | some a => (lookI a b tb).map D.bl
    | none => none) = some z) {Q : VK} (q : ∀ w G' H', PG G H G' H' → At K G' w z → Q w H') : rIsi K [u, v] H Q := by
  cases en : nmOf x with
  | none => rw [en] at e; cases e
  | some a =>
    rw [en] at e
    have fin : (lookI a b tb).map D.bl = some z → (∀ c, a = .cls c → c ∈ cs) → rIsi K [u, v] H Q := fun e hc => by
      simp only [Option.map_eq_some_iff] at e
      obtain ⟨r, er, ez⟩ := e
      subst ez
      obtain ⟨tv, h1, h2⟩ := ty_at T i hu en hc
      exact ⟨u, v, tv, cv, r, rfl, hv, h2, T.kit _ (lookI_mem er) tv cv h1 hb, q _ G H (PG.refl i) (.bl _)⟩
    cases a with
    | cls c =>
      have e : (if c ∈ cs then (lookI (.cls c) b tb).map D.bl else none) = some z := e
      split at e
      · rename_i hc; exact fin e fun c' z => by cases z; exact hc
      · cases e
    | ty n => exact fin e fun c' z => by cases z
theorem sim_isi {cs : List Str} {tb : ITab} (T : IsiT K cs tb) : SimC K (rIsi K) (isiD cs tb) := by
  intro xs z e G H us i l Q q
  have bs := i
  have i := bs.i
  unfold isiD at e
  split at e
  · obtain ⟨u, v, eu, h1, h2⟩ := atl2 l
    subst eu; cases h2
    exact isi_core T i h1 (.ty _) (show NmV K (.ty _) _ from rfl) e q
  · obtain ⟨u, v, eu, h1, h2⟩ := atl2 l
    subst eu
    cases h2 with
    | cls ct => exact isi_core T i h1 (.own _) (show NmV K (.cls _) _ from ⟨_, ct, rfl⟩) e q
  · cases e
/-! ### methods of values -/
def SimM (K : PySem.W.Frag) (r : V → List V → Hp → VK → Prop) (f : D → List D → Option D) : Prop := ∀ x xs z, f x xs = some z → ∀ G H u us, Bs G H → At K G u x → AtL K G us xs → ∀ Q : VK, (∀ w G' H', PG G H G' H' → At K G' w z → Q w H') → r u us H Q
def tyS : D → Option String
  | .str _ => some "str" | .int _ => some "int" | .lst _ => some "list" | .scr _ => some "list" | .dct _ => some "dict" | _ => none
theorem tyV_at {u : V} {x : D} {T : String} (i : Ext G H) (h : At K G u x) (e : tyS x = some T) : tyV K T u H := by
  cases h with
  | str z => cases e; rfl
  | int z => cases e; rfl
  | lst hp l => cases e; exact .inl ⟨rfl, _, ext_lst i hp⟩
  | scr hp => cases e; exact .inl ⟨rfl, _, (hp.ext i).seq⟩
  | dct hp l => cases e; exact .inr (.inr (.inl ⟨rfl, .inl ⟨_, i _ _ hp⟩⟩))
  | _ => cases e
def fBM (T : String) (f : D → List D → Option D) (a : FE) (b : FA) : FE := FM.bind (fV a) fun x => if tyS x = some T then FM.bind (fVs b) fun xs => fR (fOf (f x xs)) else fFail
theorem sim_bm {T : String} {r : V → List V → Hp → VK → Prop} {f : D → List D → Option D} (hr : SimM K r f) (ha : SimE K W ta fa) (hb : SimA K W t fs) : SimE K W (tBM K T r ta t) (fBM T f fa fs) := fun P σ c G H Γ L s => by
  unfold fBM
  refine Run.bind (t2 := fun x H1 Q => tyV K T x H1 ∧ t σ H1 fun xs H2 => r x xs H2 Q) s.iv (sim_val ha P σ c G H Γ L s) fun x Γ1 u c1 G1 H1 L1 g1 s1 e1 r1 => ?_
  have r1 : At K G1 u x := r1
  intro rr e Q post
  split at e
  · rename_i ht
    refine ⟨tyV_at s1.iv.i r1 ht, ?_⟩
    refine Run.bind (R' := vrR) (t2 := fun xs H2 Q => r u xs H2 Q) s1.iv (sim_vals hb P σ c1 G1 H1 Γ1 L1 s1) (fun xs Γ2 us c2 G2 H2 L2' g2 s2 e2 r2 => ?_) rr e Q post
    exact run_of s2 fun z ez Q q => hr x xs z ez G2 H2 u us s2.iv.bs (r1.mono g2.g) r2 Q q
  · cases e
def fBM0 (T : String) (f : D → List D → Option D) (a : FE) : FE := FM.bind (fV a) fun x => if tyS x = some T then fR (fOf (f x [])) else fFail
theorem sim_bm0 {T : String} {r : V → List V → Hp → VK → Prop} {f : D → List D → Option D} (hr : SimM K r f) (ha : SimE K W ta fa) : SimE K W (tBM0 K T r ta) (fBM0 T f fa) := fun P σ c G H Γ L s => by
  unfold fBM0
  refine Run.bind (t2 := fun x H1 Q => tyV K T x H1 ∧ r x [] H1 Q) s.iv (sim_val ha P σ c G H Γ L s) fun x Γ1 u c1 G1 H1 L1 g1 s1 e1 r1 => ?_
  have r1 : At K G1 u x := r1
  intro rr e Q post
  split at e
  · rename_i ht
    refine ⟨tyV_at s1.iv.i r1 ht, ?_⟩
    exact run_of (tx := fun Q => r u [] H1 Q) s1 (fun z ez Q q => hr x [] z ez G1 H1 u [] s1.iv.bs r1 .nil Q q) rr e Q post
  · cases e
/-- a method of a text alone -/
theorem sim_m0 {C : Str → Prop} {B : Str → Bool} {g : Str → V} {f : Str → D} (hc : ∀ a, B a = true → C a) (h : ∀ a G, At K G (g a) (f a)) : SimM K (fun x xs H Q => ∃ a, x = .str a ∧ xs = [] ∧ C a ∧ Q (g a) H) (fun x xs => match x, xs with | .str a, [] => if B a = true then some (f a) else none | _, _ => none) := by
  intro x xs z e G H u us i hu l Q q
  have bs := i
  have i := bs.i
  dsimp only at e
  split at e
  · split at e
    · rename_i hb; cases e; cases hu; cases l; exact ⟨_, rfl, rfl, hc _ hb, q _ G H (PG.refl i) (h _ _)⟩
    · cases e
  · cases e
def joinD : D → List D → Option D
  | .str a, [.lst ds] => (strsOf ds).bind fun ys => if (ys.map (·.length)).sum + ys.length * a.length ≤ 16777216 then some (.str (Txt.join a ys)) else none
  | .str a, [.tup ds] => (strsOf ds).bind fun ys => if (ys.map (·.length)).sum + ys.length * a.length ≤ 16777216 then some (.str (Txt.join a ys)) else none
  | _, _ => none
where strsOf : List D → Option (List Str)
  | [] => some []
  | .str b :: ds => (strsOf ds).map (b :: ·)
  | _ => none
theorem strs_at : ∀ {us : List V} {ds : List D} {bs : List Str}, AtL K G us ds → joinD.strsOf ds = some bs → us = bs.map V.str
  | _, _, _, .nil, e => by cases e; rfl
  | _, d :: ds, bs, .cons a l, e => by
    cases d with
    | str b =>
      have e : (joinD.strsOf ds).map (b :: ·) = some bs := e
      simp only [Option.map_eq_some_iff] at e
      obtain ⟨bs', e1, e2⟩ := e
      subst e2
      cases a
      rw [List.map_cons, strs_at l e1]
    | _ => cases e
abbrev rJoin (K : PySem.W.Frag) : V → List V → Hp → VK → Prop := fun x xs H Q => ∃ a p, ∃ ys : List Str, x = .str a ∧ xs = [.ref p] ∧ (SqL K H p (ys.map V.str) ∨ SqT K H p (ys.map V.str)) ∧ (ys.map (·.length)).sum + ys.length * a.length ≤ 16777216 ∧ Q (.str (Txt.join a ys)) H
theorem sim_join : SimM K (rJoin K) joinD := by
  intro x xs z e G H u us i hu l Q q
  have bs := i
  have i := bs.i
  unfold joinD at e
  split at e
  · simp only [Option.bind_eq_some_iff] at e
    obtain ⟨ys, ey, e⟩ := e
    split at e
    · rename_i hl
      cases e; cases hu
      obtain ⟨w, ew, hw⟩ := atl1 l; subst ew
      cases hw with
      | lst hp l2 =>
        have := strs_at l2 ey; subst this
        exact ⟨_, _, ys, rfl, rfl, .inl (ext_lst i hp), hl, q _ G H (PG.refl i) (.str _)⟩
    · cases e
  · simp only [Option.bind_eq_some_iff] at e
    obtain ⟨ys, ey, e⟩ := e
    split at e
    · rename_i hl
      cases e; cases hu
      obtain ⟨w, ew, hw⟩ := atl1 l; subst ew
      cases hw with
      | tup hp l2 =>
        have := strs_at l2 ey; subst this
        exact ⟨_, _, ys, rfl, rfl, .inr (sqT_ext hp i), hl, q _ G H (PG.refl i) (.str _)⟩
    · cases e
  · cases e
theorem atl_strs : ∀ zs : List Str, AtL K G (zs.map V.str) (zs.map D.str)
  | [] => .nil
  | n :: ns => .cons (.str n) (atl_strs ns)
abbrev rSplit : V → List V → Hp → VK → Prop := fun x xs H Q => ∃ a b, x = .str a ∧ xs = [.str b] ∧ (b.length == 0) = false ∧ a.length + 2 ≤ sizeLine ∧ rNewStrs (Txt.split a b) H Q
def splitD : D → List D → Option D
  | .str a, [.str b] => if b.length ≠ 0 ∧ a.length + 2 ≤ 16777216 then some (.lst ((Txt.split a b).map .str)) else none
  | _, _ => none
abbrev rS1 (g : Str → Str → V) : V → List V → Hp → VK → Prop := fun x xs H Q => ∃ a b, x = .str a ∧ xs = [.str b] ∧ Q (g a b) H
def s1D (f : Str → Str → D) : D → List D → Option D
  | .str a, [.str b] => some (f a b)
  | _, _ => none
def countD : D → List D → Option D := s1D fun a b => .int (Txt.count a b)
def rmPreD : D → List D → Option D
  | .str a, [.str b] => if a.length ≤ 16777216 then some (.str (Txt.removeprefix a b)) else none
  | _, _ => none
/-! ### f'..' -/
def fmtD : D → Option D
  | .str y => if y.length ≤ 16777216 then some (.str y) else none
  | .int i => if i.natAbs.log2 < 1920 then some (.str (toString i)) else none
  | _ => none
def fFmt (a : FE) : FE := FM.bind (fV a) fun x => fR (fOf (fmtD x))
inductive SimJ (K : PySem.W.Frag) (W : WX) : List TE → List FE → Prop
  | nil : SimJ K W [] []
  | cons {t : TE} {f : FE} {ts : List TE} {fs : List FE} : SimE K W t f → SimJ K W ts fs → SimJ K W (t :: ts) (f :: fs)
def fJs : List FE → Str → FM Str
  | [], acc => FM.pure acc
  | f :: fs, acc => FM.bind (fV f) fun x => match x with
    | .str y => if (acc ++ y).length ≤ 16777216 then fJs fs (acc ++ y) else fFail
    | _ => fFail
def fJoined (fs : List FE) : FE := FM.bind (fJs fs Str.empty) fun z => FM.pure (.val (.str z))
/-! ### module dicts -/
def ixKD (nm : Str) (tb : List (Str × D)) : D → D → Option D
  | .cls n, .str z => if n = nm then tb.lookup z else none
  | _, _ => none
def rInKD (K : PySem.W.Frag) (d : Addr) : R2 := fun x y H Q => ∃ (z : Str) (r : Option Value), x = .str z ∧ y = .ref d ∧ PySem.W.nsIn K d z = some r ∧ Q (.bl r.isSome) H
def inKD (nm : Str) (tb : List (Str × D)) : D → D → Option D
  | .str z, .cls n => if n = nm then (tb.lookup z).map fun _ => .bl true else none
  | _, _ => none
/-! ### x in a text -/
def occ (a b : Str) : Bool := !(Builtin.Str.occurrences a b 0 a.length 1).isEmpty
def inSD : D → D → Option D
  | .str i, .str j => some (.bl (!(Builtin.Str.occurrences j i 0 j.length 1).isEmpty))
  | _, _ => none
theorem sim_inS : SimR2 K (fun x y H Q => ∃ i j, x = .str i ∧ y = .str j ∧ Q (.bl (!(Builtin.Str.occurrences j i 0 j.length 1).isEmpty)) H) inSD := by
  intro x y z e G H u v i hu hv Q q
  have bs := i
  have i := bs.i
  cases hu with
  | str a => cases hv with
    | str b => cases e; exact ⟨a, b, rfl, rfl, q _ G H (PG.refl i) (.bl _)⟩
    | _ => cases e
  | _ => cases e
/-! ### one's own == -/
def behind (cn : Str) (tb : ITab) (y : D) : Bool := match nmOf y with
  | some (.cls c) => decide (c = cn) || decide (lookI (.cls c) (.cls cn) tb = some false)
  | some a => decide (lookI a (.cls cn) tb = some false)
  | none => false
def inCs (cs : List Str) (y : D) : Bool := match nmOf y with
  | some (.cls c) => decide (c ∈ cs)
  | _ => true
def eqI (cs : List Str) (tb : ITab) (cn : Str) (F : FF) (neg : Bool) : D → D → Option D
  | .ins c gs, y => if c = cn ∧ behind cn tb y = true ∧ inCs cs y = true then (match F [.val (.ins c gs), .val y] with
    | some (.ok (.val (.bl b)) none) => some (.bl (neg != b))
    | _ => none) else none
  | _, _ => none
theorem not_first {C : Addr} {tv : Value} (h : PySem.W.kitOne K tv (.ref C) = some false) : PySem.W.notFirst K C tv = true := by
  unfold PySem.W.kitOne at h
  split at h
  · cases h
  · unfold PySem.W.kitCls at h
    dsimp only at h
    split at h
    · unfold PySem.W.notFirst; rw [h]; simp
    · cases h
theorem tyR_at {cs : List Str} {tb : ITab} (T : IsiT K cs tb) {cn : Str} {C : Addr} (ct : CT K cn C) {y : D} {v : V} (i : Ext G H) (h : At K G v y) (hb : behind cn tb y = true) (hc : inCs cs y = true) : ∃ tv, PySem.W.notFirst K C tv = true ∧ TyX K H v tv := by
  unfold behind at hb
  unfold inCs at hc
  cases en : nmOf y with
  | none => rw [en] at hb; cases hb
  | some a =>
    rw [en] at hb hc
    cases a with
    | ty n =>
      have hb : decide (lookI (.ty n) (.cls cn) tb = some false) = true := hb
      have hb := of_decide_eq_true hb
      obtain ⟨tv, h1, h2⟩ := ty_at T i h en (fun c z => by cases z)
      exact ⟨tv, not_first (T.kit _ (lookI_mem hb) tv (.ref C) h1 ⟨C, ct, rfl⟩), h2⟩
    | cls c =>
      have hc := of_decide_eq_true hc
      obtain ⟨tv, h1, h2⟩ := ty_at T i h en (fun c' z => by cases z; exact hc)
      refine ⟨tv, ?_, h2⟩
      have hb : (decide (c = cn) || decide (lookI (.cls c) (.cls cn) tb = some false)) = true := hb
      rcases Bool.or_eq_true_iff.mp hb with z | z
      · have z := of_decide_eq_true z
        subst z
        obtain ⟨C', ct', e⟩ := h1
        have := ct'.one ct
        subst this e
        unfold PySem.W.notFirst; simp
      · exact not_first (T.kit _ (lookI_mem (of_decide_eq_true z)) tv (.ref C) h1 ⟨C, ct, rfl⟩)
/-- what the right side's type is -/
def rOwnX (K : PySem.W.Frag) (C : Addr) (sp : Sp) (neg : Bool) : R2 := fun x y H Q => ∃ a dx fs, x = .ref a ∧ H a = some (.ins C dx fs) ∧ (∃ tb, PySem.W.notFirst K C tb = true ∧ TyX K H y tb) ∧ sp [x, y] H (fun v H' => ∃ c, v = .bl c ∧ Q (.bl (neg != c)) H') fun _ _ _ => False
theorem sim_eqI {cs : List Str} {tb : ITab} (T : IsiT K cs tb) {cn : Str} {C : Addr} {F : FF} {neg : Bool} (ct : CT K cn C) : SimR2 K (rOwn K C (spF K F) neg) (eqI cs tb cn F neg) := by
  intro x y z e G H u v i hu hv Q q
  have bs := i
  have i := bs.i
  unfold eqI at e
  split at e
  · rename_i c gs
    split at e
    · rename_i hc
      obtain ⟨h1, h2, h3⟩ := hc
      subst h1
      have l : AtL K G [u, v] [D.ins c gs, y] := .cons hu (.cons hv .nil)
      cases hu with
      | @ins p C' dx _ fs _ ct' hp _ =>
        have := ct'.one ct
        subst this
        cases eF : F [.val (.ins c gs), .val y] with
        | none => rw [eF] at e; cases e
        | some rf =>
          rw [eF] at e
          refine ⟨p, dx, fs, rfl, i _ _ hp, tyR_at T ct i hv h2 h3, G, fun _ => none, _, [], rf, bs.iv, arg_vals l, fun e he => (List.not_mem_nil he).elim, eF, ?_⟩
          cases rf with
          | ok w o =>
            cases w with
            | val d =>
              cases d with
              | bl b =>
                cases o with
                | none =>
                  cases e
                  intro u' c' G' H' g' iv' _ hr
                  cases hr
                  refine ⟨b, rfl, q _ G' H' (.ofGrow g' iv') (.bl _)⟩
                | some o => cases e
              | _ => cases e
            | _ => cases e
          | ex _ _ _ _ => cases e
    · cases e
  · cases e
end
section
variable {X : Cx} {n : Nat} {C f : Addr} {fd : FuncData} {ps : List Str} {sp : Sp}
end
end DF

set_option linter.all false
set_option maxRecDepth 100000
set_option maxHeartbeats 4000000
namespace DF
open PySem PySem.Spec PyProof.Rows L2
variable [TbC]
theorem units64 {A : Around} {k : Nat} (hr : Room k A) : A.units + 64 < cLine := by have := hr.un; omega
/-! ### defs that may ask repr: nothing is being shown around them -/
structure FnG (P : Program) (w : World) (K : PySem.W.Frag) (mg : Str → Option Value) (base : Heap) (CX : CXT) (k : Nat) (f : Addr) (fd : FuncData) (ps : List Str) (sp : Sp) : Prop where
  len : ∀ vs H Q E, sp vs H Q E → vs.length = ps.length
  run : ∀ (A : Around) (out : List Env) (s : Shared) (H : Hp) (ar : Args) (us : List Value) (vs : List V) (Q : VK) (E : XK), Room k A → A.guards = some [] → Env0 P w K mg base A out s H → BindsTo s fd ar (ps.zip us) → Vals vs us → sp vs H Q E →
    codeAny (model P w) A (.call (.ref f) ar) (CR CX out P w H s Q E) s
section
variable {P : Program} {w : World} {K : PySem.W.Frag} {mg : Str → Option Value} {base : Heap}
end
section
variable {X : Cx} {k : Nat} {f : Addr} {fd : FuncData} {ps : List Str} {sp : Sp} {x : Str} {p pos : Pos} {e : Expr} {es : List Expr} {t : TA}
end
/-- f(k = v, ..): keywords alone -/
theorem pe_callN0 {X : Cx} {CX : CXT} {k : Nat} {f : Addr} {fd : FuncData} {ps ks : List Str} {sp : Sp} {E : XK} {x : Str} {p pos : Pos} {kws : List Keyword} {tk : TA} {g : List Value → List Value → List Value} {gV : List V → List V → List V}
    (F : FnOk X.prog X.w X.K X.mg X.base CX k f fd ps sp) (hr : Room k X.A) (hg : Gl X x) (hm : X.mg x = some (.ref f)) (hk : PySem.W.keepIn X.K (.ref f) = true) (hb : KBn X.K fd ps 0 ks g gV) (hx : Passes CX X E)
    (hkw : PK X kws tk) (hall : (backToKw pos (keywordEach kws X.env)).all (·.1.isSome) = true := by rfl) (hks : (backToKw pos (keywordEach kws X.env)).filterMap (·.1) = ks := by rfl)
    (hdb : (x == ("__debug__" : Str)) = false := by decide)
    (hpl : ((backTo pos (starEach [] X.env)).any (·.1) || (backToKw pos (keywordEach kws X.env)).any (·.1.isNone)) = false := by rfl) :
    PE X (.Call (.Name x p) [] kws pos) (tCallN 0 ks.length sp gV E tNil tk) := by
  refine ⟨fun pins s σ H Q I h => ?_⟩
  refine wpAny_Call_Name_kw (ld_glob I hg hm ?_ hdb)
  refine PySem.W.callWith_KW0 (h₀ := X.base) I.ok.mod.kin hk hall ?_ hpl
  refine thn (hkw.run pos pins s σ H _ I h) fun ws s2 ⟨zs, H2, I2, rz, l1, l2, q2⟩ => ⟨I2.kIn, ?_⟩
  rw [hks]
  exact run_fnN (us := []) (vs := []) F hr hb hx I2 .nil rz rfl l2 q2


/-! rules with K told, for nested comprehensions -/
section
variable {X : Cx} {K : PySem.W.Frag}
theorem pi_anyK (hK : X.K = K) {tg l : Expr} {tl : TE} (hl : PE X l tl) : PI X tg l (iAny K tl) := by subst hK; exact pi_any hl
theorem pe_bmK (hK : X.K = K) {T id : String} {name : Str} {o e : Expr} {es : List Expr} {to : TE} {t : TA} {apos cpos : Pos} {r : V → List V → Hp → VK → Prop} (pa : PlainAttrs T) (slot : Slot T name id) (hty : typeOf (.builtin id) = pure (.type "method_descriptor")) (hm : MtR X id r) (ho : PE X o to) (ha : PA X (e :: es) t)
    (hbase : attributeBase o name X.env (eval o X.env) = eval o X.env := by rfl)
    (hfew : ((backTo cpos (starEach (e :: es) X.env)).all (fun x => !x.1) && (backToKw cpos (keywordEach [] X.env)).all (fun x => x.1.isSome)
      && decide ((e :: es).length + ([] : List Keyword).length + (if ([] : List Keyword).isEmpty then 0 else 1) < 30)) = true := by rfl)
    (hline : (apos.endLine == cpos.line) = true := by rfl) (hs : starEach (e :: es) X.env = (false, eval e X.env) :: starEach es X.env := by rfl) (hplain : (backTo cpos (starEach es X.env)).any (·.1) = false := by rfl) :
    PE X (.Call (.Attribute o name apos) (e :: es) [] cpos) (tBM K T r to t) := by subst hK; exact pe_bm pa slot hty hm ho ha hbase hfew hline hs hplain
theorem pe_bm0K (hK : X.K = K) {T id : String} {name : Str} {o : Expr} {to : TE} {apos cpos : Pos} {r : V → List V → Hp → VK → Prop} (pa : PlainAttrs T) (slot : Slot T name id) (hty : typeOf (.builtin id) = pure (.type "method_descriptor")) (hm : MtR X id r) (ho : PE X o to)
    (hbase : attributeBase o name X.env (eval o X.env) = eval o X.env := by rfl) (hline : (apos.endLine == cpos.line) = true := by rfl) : PE X (.Call (.Attribute o name apos) [] [] cpos) (tBM0 K T r to) := by subst hK; exact pe_bm0 pa slot hty hm ho hbase hline
theorem pt_truthK (hK : X.K = K) {a : Expr} {ta : TE} (ha : PE X a ta) (he : ∀ whole, isTrue a X.env whole = (do let v ← whole; standAt a.pos; holding [v] (truthy v))) : PT X a (tTru K ta) := by subst hK; exact pt_truth ha he
theorem pe_fldK (hK : X.K = K) {o : Expr} {to : TE} {f : Str} {pos : Pos} (ho : PE X o to) (hb : attributeBase o f X.env (eval o X.env) = eval o X.env) : PE X (.Attribute o f pos) (tFld K to f) := by subst hK; exact pe_fld ho hb
theorem join_K (hK : X.K = K) : MtR X "str.join" (rJoin K) := by subst hK; exact mt_join
theorem isi_K (hK : X.K = K) : CallR X (.builtin "isinstance") (rIsi K) := by subst hK; exact call_isi
theorem len_K (hK : X.K = K) : CallR X (.builtin "len") (rLen K) := by subst hK; exact call_len
theorem tupOf_K (hK : X.K = K) : CallR X (.type "tuple") (rTupOf K) := by subst hK; exact call_tuple_of
theorem all_K (hK : X.K = K) (hc : X.calm = true) : CallR X (.builtin "all") (rAll K) := by subst hK; exact cr_all hc
theorem add_K (hK : X.K = K) : OpR X (binaryOp .Add) (rAddU K) := by subst hK; exact op_addU
theorem mul_K (hK : X.K = K) : OpR X (binaryOp .Mult) (rMulU K) := by subst hK; exact op_mulU
theorem eq_K (hK : X.K = K) (hu : X.A.units + 64 < cLine) : OpR X (compareOp .Eq) (rEqU K) := by subst hK; exact op_eqU hu
theorem ne_K (hK : X.K = K) (hu : X.A.units + 64 < cLine) : OpR X (compareOp .NotEq) (rNeU K) := by subst hK; exact op_neU hu
theorem sl_K (hK : X.K = K) : SlR X (rSlU K) := by subst hK; exact sl_U
theorem ix_K (hK : X.K = K) : IxR X (rIx K) := by subst hK; exact ix_seq
theorem eqI_K {n : Nat} {C f : Addr} {fd : FuncData} {ps : List Str} {sp : Sp} (hK : X.K = K) (T : EqC X.K C f) (F : FnOk X.prog X.w X.K X.mg X.base CX0 n f fd ps sp) (hb : Binds X.K fd ps []) (hr : Room n X.A) : OpR X (compareOp .Eq) (rOwn K C sp false) := by subst hK; exact op_eqI T F hb hr
end
/-! ### the end -/
section
variable {P : Program} {w : World} {K : PySem.W.Frag} {mg mb : Str → Option Value} {k : Nat} {fa a : Addr} {fd : FuncData} {x : Str} {s : Shared} {vs : List Value} {ns : List Int}
/-- the law, called on a heap of which the abstract heap H tells the script alone (or nothing) -/
theorem start_at (hT : TbC.T = []) (hZ : ∀ G H, TbC.Z G H) (KX : K.In s.heap) (hns : s.heap.Ns mainGlobals mg) (hb : s.heap.Ns builtinsNs mb) (hbb : ∀ x : Str, x ≠ "__name__" → mb x = bootBuiltins x) (hlim : s.heap.NoLimit) (hg : s.gens = #[])
    (ha : s.heap.get? a = some { cls := .type "list", data := .seq vs.toArray }) (hl : ns.length ≤ 63) (hr : Room k callerA)
    {FF0 : FF} (hF0 : ∀ ns : List Int, ns.length ≤ 63 → FF0 [.val (.scr ns)] = some (.ok (.val (.bl true)) none)) (F : ∀ base : Heap, K.In base → base.Ns mainGlobals mg → FnG P w K mg base CX0 k fa fd [x] (spF K FF0)) (hbind : ∀ (s : Shared) (u : Value), BindsTo s fd ⟨[u], []⟩ [(x, u)])
    (H : Hp) (hok : HOk P w H s.heap) (hA : ∀ b, H b ≠ none → b = a) (hK : H a ≠ none → K.lookup a = none) (hf : ∀ b o, H b = some o → ∃ ob, o = .frz ob (.lst (ns.map V.int))) (hS : Sc K H a ns) :
    codeAny (model P w) callerA (.call (.ref fa) ⟨[.ref a], []⟩) (fun r s' => r = .ok (.ret (.bool true)) ∧ OldK s.heap s'.heap ∧ s'.os = s.os ∧ AllBare s'.gens) s := by
  have free : ∀ b, b ≠ a → H b = none := fun b hne => Classical.byContradiction fun z => hne (hA b z)
  -- what is no list like the script stays in the hidden heap
  have kept : ∀ {b : Addr} {o : Obj}, s.heap.get? b = some o → (∀ es ep, o.data ≠ .dict es ep → True) → (b = a → H a = none) → (hidT s.heap H).get? b = some o := fun {b o} e _ z => by
    refine hidT_get e ?_
    by_cases hba : b = a
    · rw [hba]; exact z hba
    · exact free b hba
  have isdict : ∀ {b : Addr} {m : Str → Option Value}, s.heap.Ns b m → (hidT s.heap H).Ns b m := fun {b m} hN => by
    obtain ⟨o, es, ep, e, d, rest⟩ := hN
    refine ⟨o, es, ep, kept e (fun _ _ _ => trivial) (fun hba => ?_), d, rest⟩
    rw [hba, ha] at e
    cases Option.some.inj e
    cases d
  have inB : K.In (hidT s.heap H) := fun b o e => kept (KX b o e) (fun _ _ _ => trivial) fun hba => Classical.byContradiction fun z => by
    rw [hba, hK z] at e
    cases e
  have md : Mod K mg (hidT s.heap H) := ⟨inB, isdict hns, ⟨mb, isdict hb, hbb⟩, by obtain ⟨mc, q1, q2⟩ := hlim; exact ⟨mc, isdict q1, q2⟩⟩
  have e0 : Env0 P w K mg (hidT s.heap H) callerA [] s H :=
    ⟨rfl, md, fun _ _ e => of_hidT e, Nat.le_of_eq (hidT_size _ _), trivial, fun _ hb => (List.not_mem_nil hb).elim, hok, .of_eq hg⟩
  have prom : spF K FF0 [.ref a] H (fun v _ => v = .bl true) (fun _ _ _ => False) :=
    ⟨H, fun _ => none, [.val (.scr ns)], [], _, (⟨Ext.rfl', fun b ps e => (by obtain ⟨ob, z⟩ := hf b _ e; cases z), fun x hx => (by rw [hT] at hx; cases hx), hZ _ _⟩ : Bs H H).iv, .val (.scr hS) .nil, fun e he => (List.not_mem_nil he).elim, hF0 ns hl, fun u c' G' H' _ _ _ t => by cases t; rfl⟩
  have run := (F _ inB (isdict hns)).run callerA [] s H ⟨[.ref a], []⟩ [.ref a] [.ref a] _ _ hr rfl e0 (hbind s (.ref a)) (.cons rfl .nil) prom
  refine codeAny_mono run fun r s' z => ?_
  match r, z with
  | .error e, z => exact z.elim
  | .ok (.ret u), z =>
    obtain ⟨v, H', os, bare, un, hok', rv, q⟩ := z
    subst q
    cases (show u = Value.bool true from rv)
    refine ⟨rfl, OldK.of_keep fun b o e => ?_, os, bare⟩
    cases q : H b with
    | none => exact un.keep b o e q (fun y => (List.not_mem_nil y).elim) (List.not_mem_nil)
    | some u =>
      obtain ⟨ob, eu⟩ := hf b u q
      subst eu
      have after := hok' b _ (un.frzs b ob _ q)
      have before := hok b _ q
      have : some o = some ob := e.symm.trans before.1
      cases this
      exact after.1
theorem start_law (hT : TbC.T = []) (hZ : ∀ G H, TbC.Z G H) (KX : K.In s.heap) (hns : s.heap.Ns mainGlobals mg) (hb : s.heap.Ns builtinsNs mb) (hbb : ∀ x : Str, x ≠ "__name__" → mb x = bootBuiltins x) (hlim : s.heap.NoLimit) (hg : s.gens = #[])
    (ha : s.heap.get? a = some { cls := .type "list", data := .seq vs.toArray }) (hi : IntsAre vs ns) (hl : ns.length ≤ 63) (hr : Room k callerA)
    {FF0 : FF} (hF0 : ∀ ns : List Int, ns.length ≤ 63 → FF0 [.val (.scr ns)] = some (.ok (.val (.bl true)) none)) (F : ∀ base : Heap, K.In base → base.Ns mainGlobals mg → FnG P w K mg base CX0 k fa fd [x] (spF K FF0)) (hbind : ∀ (s : Shared) (u : Value), BindsTo s fd ⟨[u], []⟩ [(x, u)]) :
    codeAny (model P w) callerA (.call (.ref fa) ⟨[.ref a], []⟩) (fun r s' => r = .ok (.ret (.bool true)) ∧ OldK s.heap s'.heap ∧ s'.os = s.os ∧ AllBare s'.gens) s := by
  have rv := vals_ints hi
  have line : ns.length ≤ sizeLine := Nat.le_trans hl (by decide)
  cases hk : K.lookup a with
  | some o =>
    have e := KX a o hk
    rw [ha] at e
    cases Option.some.inj e
    refine start_at hT hZ KX hns hb hbb hlim hg ha hl hr hF0 F hbind (fun _ => none) (fun b u z => by cases z) (fun b z => absurd rfl z) (fun z => absurd rfl z) (fun b o z => by cases z) (.inr fun H' => .inr ⟨_, vs.toArray, _, hk, rfl, rfl, rfl, ?_, by simpa using rv⟩)
    rw [List.size_toArray, hi.length]
    exact line
  | none =>
    let T : HO := .frz { cls := .type "list", data := .seq vs.toArray } (.lst (ns.map V.int))
    have at_a : (fun b => if b = a then some T else none) a = some T := if_pos rfl
    refine start_at hT hZ KX hns hb hbb hlim hg ha hl hr hF0 F hbind (fun b => if b = a then some T else none) (fun b u z => ?_) (fun b z => ?_) (fun _ => hk) (fun b o z => ?_) (.inl ⟨_, at_a⟩)
    · have z : (if b = a then some T else none) = some u := z
      by_cases hba : b = a
      · rw [if_pos hba] at z
        cases Option.some.inj z
        subst hba
        exact ⟨ha, by rw [List.length_map]; exact line, vs, _, rv, ha⟩
      · rw [if_neg hba] at z; cases z
    · exact Classical.byContradiction fun hba => z (if_neg hba)
    · have z : (if b = a then some T else none) = some o := z
      by_cases hba : b = a
      · rw [if_pos hba] at z
        exact ⟨_, (Option.some.inj z).symm⟩
      · rw [if_neg hba] at z; cases z
end
/-- what the head leaves of a law, from its def's promise -/
theorem walkG {FF0 : FF} (hT : TbC.T = []) (hZ : ∀ G H, TbC.Z G H) (hF0 : ∀ ns : List Int, ns.length ≤ 63 → FF0 [.val (.scr ns)] = some (.ok (.val (.bl true)) none)) {l : PySem.W.OpenLaw} {k : Nat} {q : Program} {loose : List Str} {XP : (Str → Option Value) → Heap → Prop} {YP : World → Heap → Prop} {d : DefRec} {K : Params → PySem.W.Frag} {x : Str}
    (hn : l.most = some 63) (hdf : d.params.defaults = []) (hr : Room k callerA) (hY : ∀ (w : World) (h : Heap), YP w h → (K w.params).In h)
    (F : ∀ (w : World) (mg : Str → Option Value) (fa : Addr) (h : Heap), (K w.params).In h → h.Ns mainGlobals mg → mg d.name = some (.ref fa) →
      ∃ fd : FuncData, (∀ (s : Shared) (u : Value), BindsTo s fd ⟨[u], []⟩ [(x, u)]) ∧ ∀ base : Heap, (K w.params).In base → base.Ns mainGlobals mg → FnG l.prog w (K w.params) mg base CX0 k fa fd [x] (spF (K w.params) FF0)) :
    PySem.W.WalkO q loose XP YP l.row.toRowW d [] (fun f vs => PySem.call f vs) := by
  refine Att.attach_call hn hdf fun w s₀ s₁ mg mb fa o pm cd doc a vs ns G Y ho hd hcd hmg hobj hints hlen hg => ?_
  obtain ⟨fd, hbd, hF⟩ := F w mg fa _ (hY w _ Y) G.T.g hmg
  exact start_law hT hZ (hY w _ Y) G.T.g G.T.b G.T.builtins G.T.nolimit hg hobj hints hlen hr hF0 hF hbd
end DF

set_option linter.all false
set_option maxRecDepth 100000
set_option maxHeartbeats 4000000
namespace DF
open PySem PySem.Spec PyProof.Rows L2
variable [TbC]
/-- only what ends well -/
def okF (F : FF) : FF := fun as => match F as with
  | some (.ok v o) => some (.ok v o)
  | _ => none
abbrev W0 : WX := fun _ _ _ _ => False
theorem hE0 {E : XK} : ∀ cls d σ H, W0 cls d σ H → E cls d H := fun _ _ _ _ h => h.elim
section
variable {K : PySem.W.Frag} {G G' H H' H0 H1 G1 : Hp} {P : List Addr} {σ σ' : L2.St} {Γ Γ' Γ1 : EnvF} {L L' L1 : List (Addr × OD)} {c c' c1 : Ow} {W : WX}
variable {ta tb te to ti : TE} {t tr tk : TA} {fa fb fc fe fo fi : FE} {fs fr fk : FA} {tt tu : TT} {ft fu : FT} {E : XK} {ts tw : TS} {fS fT : FS}
theorem okF_some {F : FF} {as : List Sl} {r : RF} (e : okF F as = some r) : ∃ v o, r = .ok v o ∧ F as = some (.ok v o) := by
  unfold okF at e
  cases eF : F as with
  | none => rw [eF] at e; cases e
  | some x =>
    rw [eF] at e
    cases x with
    | ok v o => cases e; exact ⟨v, o, rfl, rfl⟩
    | ex _ _ _ _ => cases e
theorem body_O {k : Nat} {fS : FS} {ts : TS} {Ns : List Str} {vs : List V} {Q : VK} {E : XK} (h : spF K (okF (defF k Ns.length fS)) vs H Q E) (sim : SimS K W0 ts fS) : ts { nx := fun _ H' => Q .non H', rt := Q } (start Ns vs) H := by
  obtain ⟨G, c, as, L, r, iv, ar, ow, er, post⟩ := h
  obtain ⟨v0, o0, er0, er1⟩ := okF_some er
  clear er
  subst er0
  have er := er1
  clear er1
  have hnd : (L.map (·.1)).Nodup := by
    rcases ar.one with ⟨h, _⟩ | ⟨p, o, h, _⟩ <;> subst h <;> simp
  have hP : ∀ e ∈ L, (L.map (·.1))[0]? = some e.1 := by
    rcases ar.one with ⟨h, _⟩ | ⟨p, o, h, _⟩ <;> subst h <;> simp
  have s0 : Sta K (L.map (·.1)) c G H (start Ns vs) (as ++ List.replicate (Ns.length - as.length) .no) L := by
    refine ⟨?_, hnd, ow, iv, fun p hp => ?_⟩
    · unfold L2.start
      rw [ar.length]
      exact ar.env _ hP
    · obtain ⟨e, he, ee⟩ := List.mem_map.mp hp
      rw [← ee]; exact (iv.ow _ _ (ow e he)).2.some
  unfold defF at er
  split at er
  · have hs := sim _ _ _ _ _ _ _ s0
    unfold RunS at hs
    cases ef : fS (as ++ List.replicate (Ns.length - as.length) .no) with
    | none => rw [ef] at er; cases er
    | some r0 =>
      rw [ef] at er
      refine hs r0 ef _ ?_
      cases r0 with
      | ok fl Γ' =>
        cases fl with
        | nx =>
          simp only [Option.map_eq_some_iff] at er
          obtain ⟨oo, eo, e2⟩ := er
          cases e2
          refine ⟨fun Γ2 e2 σ' c' G' H' L' g s n => ?_, fun _ e2 => (by cases e2), fun _ e2 => (by cases e2), fun _ _ e2 => (by cases e2), fun _ _ _ _ e2 => (by cases e2)⟩
          cases e2
          exact post .non c' G' H' g s.iv (endO_at ar s eo) .non
        | rt v =>
          cases v with
          | val d =>
            simp only [Option.map_eq_some_iff] at er
            obtain ⟨oo, eo, e2⟩ := er
            cases e2
            refine ⟨fun _ e2 => (by cases e2), fun _ e2 => (by cases e2), fun _ e2 => (by cases e2), fun v Γ2 e2 u σ' c' G' H' L' g s n t => ?_, fun _ _ _ _ e2 => (by cases e2)⟩
            cases e2
            exact post u c' G' H' g s.iv (endO_at ar s eo) t
          | own x =>
            simp only [Option.map_eq_some_iff] at er
            obtain ⟨oo, eo, e2⟩ := er
            cases e2
            refine ⟨fun _ e2 => (by cases e2), fun _ e2 => (by cases e2), fun _ e2 => (by cases e2), fun v Γ2 e2 u σ' c' G' H' L' g s n t => ?_, fun _ _ _ _ e2 => (by cases e2)⟩
            cases e2
            obtain ⟨p, h1, h2, h3, h4⟩ := t
            refine post u c' G' H' g s.iv (endO_at ar s eo) ⟨p, h1, h2, fun z => ?_, h4⟩
            obtain ⟨e, he, ee⟩ := List.mem_map.mp z
            have := (iv.ow _ _ (ow e he)).2.some
            rw [ee] at this
            exact this h4
          | slot i => cases er
        | bk => cases er
        | ct => cases er
      | ex cn f d Γ' =>
        simp only [Option.map_eq_some_iff] at er
        obtain ⟨oo, eo, e2⟩ := er
        cases e2
  · cases er
theorem len_O {k n : Nat} {fS : FS} {vs : List V} {Q : VK} {E : XK} (h : spF K (okF (defF k n fS)) vs H Q E) : vs.length = k := by
  obtain ⟨G, c, as, L, r, iv, ar, ow, er, post⟩ := h
  obtain ⟨v0, o0, er0, er1⟩ := okF_some er
  clear er
  have er := er1
  unfold defF at er
  split at er
  · rename_i hk; rw [ar.length]; exact hk
  · cases er
/-- str of an instance -/
def strI (cn : Str) (F : FF) : FE → FE := fun a => FM.bind (fV a) fun x => match x with
  | .ins c gs => if c = cn then (match F [.val (.ins c gs)] with
    | some (.ok (.val (.str z)) none) => FM.pure (.val (.str z))
    | _ => fFail) else fFail
  | _ => fFail
def strID (cn : Str) (F : FF) : List D → Option D
  | [.ins c gs] => if c = cn then (match F [.val (.ins c gs)] with
    | some (.ok (.val (.str z)) none) => some (.str z)
    | _ => none) else none
  | _ => none
end
end DF

set_option linter.all false
set_option maxRecDepth 100000
set_option maxHeartbeats 4000000
namespace DF
open PySem PySem.Spec PyProof.Rows L2
variable [TbC]
abbrev orD (f g : D → D → Option D) : D → D → Option D := fun x y => match f x y with | some z => some z | none => g x y
abbrev orC (f g : List D → Option D) : List D → Option D := fun xs => match f xs with | some z => some z | none => g xs
/-! ### texts backwards -/
def revS (z : Str) : Str := ⟨z.cps.toList.reverse.toArray⟩
def repS (z : Str) (k : Int) : Str := ⟨(List.replicate k.toNat z.cps).foldl (· ++ ·) #[]⟩
def tRevS (te : TE) : TE := fun σ H Q => te σ H fun x H1 => ∃ z, x = .str z ∧ z.length ≤ sizeLine ∧ Q (.str (revS z)) H1
section
variable {X : Cx}
theorem pe_revS {e : Expr} {te : TE} {k : Nat} {p1 p2 p3 pos : Pos} (he : PE X e te) : PE X (.Subscript e (.Slice none none (some (.UnaryOp .USub (.Constant (.int 1) k p1) p2)) p3) pos) (tRevS te) := by
  refine PE.mk fun pins s σ H Q I h => ?_
  refine Subscript_ (thn (he.run pins s σ H _ I h) fun v sa ⟨x, Ha, Ja, rv, qv⟩ => ?_)
  obtain ⟨z, ex, hz, q⟩ := qv
  subst ex
  obtain ⟨t, rfl⟩ := rv
  have hstep : PO X (some (.UnaryOp .USub (.Constant (.int 1) k p1) p2)) 
      (tPart (tUn (rU fun i => .int (-i)) (tC (.int 1)))) := po_some (pe_un un_neg pe_int)
  refine wpAny_Slice (thn (po_none.run pins sa σ Ha (fun o Hb => o = none ∧ Hb = Ha) Ja ⟨rfl, rfl⟩) fun wlo sb ⟨l, Hb, Jb, plo, elo, ea⟩ => ?_)
  subst elo ea
  refine thn (po_none.run pins sb σ Hb (fun o Hc => o = none ∧ Hc = Hb) Jb ⟨rfl, rfl⟩) fun whi sc ⟨u, Hc, Jc, phi, ehi, ec⟩ => ?_
  subst ehi ec
  refine thn (hstep.run pins sc σ Hc (fun o Hd => o = some (-1) ∧ Hd = Hc) Jc ⟨1, rfl, -1, rfl, rfl, rfl⟩) fun wst sd ⟨o, Hd, Jd, pst, est, ed⟩ => ?_
  subst est ed
  have Je : L2.Inv X pins σ Hd { sd with heap := sd.heap.push { cls := .type "slice", data := .fields #[wlo, whi, wst] } } := Jd.kept (t' := sd.toks) fun b ob q => Heap.get?_push_of_some _ q
  show wpAny (model X.prog X.w) X.A (subscriptTail e (.Slice none none (some (.UnaryOp .USub (.Constant (.int 1) k p1) p2)) p3) (.str z t) (.ref sd.heap.objs.size)) (EP X pins σ Q) X.xe { sd with heap := sd.heap.push { cls := .type "slice", data := .fields #[wlo, whi, wst] } }
  refine tail_any (ops := [.str z t, .ref sd.heap.objs.size]) (typeIs_str _ z t) slot_str_getitem.lookup ?_ (by with_unfolding_all rfl)
  obtain ⟨ts, hts⟩ : ∃ ts, wst = .int (-1) ts := by cases pst; exact ⟨_, rfl⟩
  have hvl : wlo = .none := by cases plo; rfl
  have hvu : whi = .none := by cases phi; rfl
  subst hts hvl hvu
  refine wpAny_getItem_str_slice (l := none) (u := none) (st := some (-1, ts)) ⟨_, Heap.get?_push_size _ rfl, rfl, rfl⟩ (by rfl) ?_
  have e : (slicePicked z none none (some (-1, ts))).filterMap (z.cps[·]?) = z.cps.toList.reverse := by
    show (Builtin.Str.strSliceIndices none none (-1) z.length).filterMap (z.cps[·]?) = _
    have ea : Builtin.Str.strSliceIndices none none (-1) z.length = sliceRange ((z.length : Int) - 1) (-1) (-1) := by
      rfl
    rw [ea, PySem.W.krv_sliceRange, PySem.W.krv_range, List.filterMap_reverse]
    show ((List.range z.cps.size).filterMap (z.cps[·]?)).reverse = _
    rw [PySem.W.krv_all]
  unfold sliceMade
  rw [if_neg (by simp), e]
  refine ⟨?_, .str _, Hd, Je.tok _, ⟨_, rfl⟩, q⟩
  show (Array.size (List.toArray _)) ≤ _
  rw [List.size_toArray, List.length_reverse, Array.length_toList]
  exact hz
theorem op_mul_str : OpR X (binaryOp .Mult) (fun x y H Q => ∃ z k, x = .str z ∧ y = .int k ∧ 2 ≤ k ∧ k ≤ 1000 ∧ z.length ≤ 4000 ∧ Q (.str (repS z k)) H) := by
  intro pins s σ H x y v u Q I rx ry h
  obtain ⟨z, k, rfl, rfl, h1, h2, h3, q⟩ := h
  obtain ⟨t, rfl⟩ := rx
  obtain ⟨t', rfl⟩ := ry
  have hs : (4000000 : Nat) ≤ sizeLine := by decide
  have hmul : z.length * k.toNat ≤ 4000000 := Nat.le_trans (Nat.mul_le_mul h3 (show k.toNat ≤ 1000 by omega)) (by decide)
  refine PySem.P.mul_str (x := z) (n := k) (t := t) (u := t') ?_ (fun _ _ => ?_) (fun _ _ => ?_) ?_
  · have e1 : decide (k < -(2 ^ 63 : Int)) = false := decide_eq_false (by omega)
    have e2 : decide (k ≥ 2 ^ 63) = false := decide_eq_false (by omega)
    rw [e1, e2]; rfl
  · have e3 : (2 ^ 63 - 1 : Int) / 1000 ≤ (2 ^ 63 - 1) / k := by
      rw [Int.le_ediv_iff_mul_le (by omega)]
      have : (2 ^ 63 - 1 : Int) / 1000 * k ≤ (2 ^ 63 - 1 : Int) / 1000 * 1000 := Int.mul_le_mul_of_nonneg_left h2 (by decide)
      exact Int.le_trans this (by decide)
    have e4 : (4000 : Int) ≤ (2 ^ 63 - 1) / 1000 := by decide
    omega
  · show decide (z.length * k.toNat > _) = false
    refine decide_eq_false (Nat.not_lt.mpr (Nat.le_trans hmul ?_))
    decide
  · rw [if_neg (by omega)]
    split
    · next h =>
      have hz : z.length = 0 := by
        simp only [Bool.or_eq_true, beq_iff_eq] at h
        omega
      have hc : z.cps = #[] := Array.eq_empty_of_size_eq_zero hz
      have e : repS z k = z := by
        obtain ⟨c⟩ := z
        have hc : c = #[] := hc
        subst hc
        unfold repS
        congr 1
        generalize k.toNat = m
        induction m with
        | zero => rfl
        | succ m ih => rw [List.replicate_succ, List.foldl_cons]; exact ih
      rw [e] at q
      exact ⟨.str z, H, I, ⟨_, rfl⟩, q⟩
    · refine ⟨?_, .str _, H, I.tok _, ⟨_, rfl⟩, q⟩
      show Array.size _ ≤ _
      have f0 : ∀ (m : Nat) (a : Array Nat), ((List.replicate m z.cps).foldl (· ++ ·) a).size = a.size + m * z.cps.size := by
        intro m
        induction m with
        | zero => intro a; simp
        | succ m ih => intro a; rw [List.replicate_succ, List.foldl_cons, ih, Array.size_append, Nat.succ_mul]; omega
      rw [f0]
      show 0 + k.toNat * z.length ≤ _
      rw [Nat.zero_add, Nat.mul_comm]
      exact Nat.le_trans hmul hs
end
section
variable {K : PySem.W.Frag} {G G' H H' H0 H1 G1 : Hp} {P : List Addr} {σ σ' : L2.St} {Γ Γ' Γ1 : EnvF} {L L' L1 : List (Addr × OD)} {c c' c1 : Ow} {W : WX}
variable {ta tb te to ti : TE} {t tr tk : TA} {fa fb fc fe fo fi : FE} {fs fr fk : FA} {tt tu : TT} {ft fu : FT} {E : XK} {ts tw : TS} {fS fT : FS}
def mulSD : D → D → Option D
  | .str z, .int k => if 2 ≤ k ∧ k ≤ 1000 ∧ z.length ≤ 4000 then some (.str (repS z k)) else none
  | _, _ => none
abbrev rMulS : R2 := fun x y H Q => ∃ z k, x = .str z ∧ y = .int k ∧ 2 ≤ k ∧ k ≤ 1000 ∧ z.length ≤ 4000 ∧ Q (.str (repS z k)) H
/-! ### [::-1] -/
def fRevS (a : FE) : FE := FM.bind (fV a) fun x => match x with
  | .str z => if z.length ≤ 16777216 then FM.pure (.val (.str (revS z))) else fFail
  | _ => fFail
theorem sim_revS (h : SimE K W te fa) : SimE K W (tRevS te) (fRevS fa) := fun P σ c G H Γ L s => by
  unfold fRevS
  refine Run.bind (t2 := fun x H1 (Q : VK) => ∃ z, x = V.str z ∧ z.length ≤ sizeLine ∧ Q (.str (revS z)) H1) s.iv (sim_val h P σ c G H Γ L s) fun d Γ1 u c1 G1 H1 L1 g1 s1 e1 r1 => ?_
  have r1 : At K G1 u d := r1
  intro r e Q post
  cases d with
  | str z =>
    have e : (if z.length ≤ 16777216 then FM.pure (Vr.val (.str (revS z))) else (fFail : FE)) Γ1 = some r := e
    split at e
    · rename_i hz
      cases e; cases r1
      exact ⟨z, rfl, by rw [sizeLine_eq]; exact hz, post _ c1 G1 H1 L1 (.refl) s1 rfl (.str _)⟩
    · cases e
  | _ => cases e
theorem AtL.rev {us : List V} : ∀ {ds : List D}, AtL K G us ds → AtL K G us.reverse ds.reverse := by
  induction us with
  | nil => intro ds h; cases h; exact .nil
  | cons u us ih => intro ds h; cases h with | cons a l => rw [List.reverse_cons, List.reverse_cons]; exact (ih l).append (.cons a .nil)
def fRevL (a : FE) : FE := FM.bind (fV a) fun x => fR (fOf (match x with
  | .lst ds => some (.lst ds.reverse)
  | .scr ns => some (.lst (ns.map D.int).reverse)
  | _ => none))
/-! ### a = b = c = e, names -/
def fAsg3 (i j l : Nat) (f : FE) : FS := FM.bind (fV f) fun d Γ => some (.ok .nx (((Γ.set i (.val d)).set j (.val d)).set l (.val d)))
/-! ### what never runs -/
end
end DF

set_option linter.all false
set_option maxRecDepth 100000
set_option maxHeartbeats 4000000
namespace DF
open PySem PySem.Spec PyProof.Rows L2
variable [TbC]
open PySem.Sem (wp)
/-! ### bool of an instance without __bool__ and __len__ -/
structure BoC (K : PySem.W.Frag) (C : Addr) : Prop where
  b : PySem.W.findIn K (.ref C) "__bool__" = some none
  l : PySem.W.findIn K (.ref C) "__len__" = some none
section
variable {X : Cx}
def rBoI (C : Addr) : List V → Hp → VK → Prop := fun xs H Q => ∃ a dx fs, xs = [.ref a] ∧ H a = some (.ins C dx fs) ∧ Q (.bl true) H
/-! ### classmethods with keywords alone -/
/-- C.m(k = v, ..) -/
def tCMethN (C : Addr) (m : Nat) (sp : Sp) (gV : List V → List V → List V) (E : XK) (ta : TE) (tk : TA) : TE := fun σ H Q => ta σ H fun x H1 => x = .ref C ∧ tk σ H1 fun zs H2 => zs.length = m ∧ sp (gV [.ref C] zs) H2 Q E
/-! ### a class in a local name -/
def tMakeL (i : Nat) (C : Addr) (sp : Sp) (E : XK) (t : TA) : TE := fun σ H Q => σ[i]? = some (some (.ref C)) ∧ tMake C sp [] E t σ H Q
end
section
variable {K : PySem.W.Frag} {G G' H H' H0 H1 G1 : Hp} {P : List Addr} {σ σ' : L2.St} {Γ Γ' Γ1 : EnvF} {L L' L1 : List (Addr × OD)} {c c' c1 : Ow} {W : WX}
variable {ta tb te to ti : TE} {t tr tk : TA} {fa fb fc fe fo fi : FE} {fs fr fk : FA} {tt tu : TT} {ft fu : FT} {E : XK} {ts tw : TS} {fS fT : FS}
def boolI (cn : Str) : List D → Option D
  | [.ins c _] => if c = cn then some (.bl true) else none
  | _ => none
def fCMeth (cn : Str) (F : FF) (a : FA) : FE := FM.bind a fun vs => callF F (.val (.cls cn) :: vs)
def fCMethN (cn : Str) (F : FF) (l : Nat) (ix : List Nat) (a : FA) : FE := FM.bind a fun vs => if vs.length = l then callF F (permR ix (.val (.cls cn) :: vs)) else fFail
def fMakeL (cn : Str) (F : FF) (i : Nat) (a : FA) : FE := fun Γ => match Γ[i]? with
  | some (.val (.cls x)) => if x = cn then fMake cn F a Γ else none
  | _ => none
end
end DF

set_option linter.all false
set_option maxRecDepth 100000
set_option maxHeartbeats 4000000
namespace DF
open PySem PySem.Spec PyProof.Rows L2
variable [TbC]
/-! ### what a function on data ends in -/
def X {α : Type} (f : FM α) (Γ : EnvF) (Φ : α → EnvF → Prop) : Prop := ∃ v Γ', f Γ = some (.ok v Γ') ∧ Φ v Γ'
def Fp (F : FF) (as : List Sl) (Φ : Vr → Option OD → Prop) : Prop := ∃ v o, F as = some (.ok v o) ∧ Φ v o
def SeqK (b : FS) (Φ : Fl → EnvF → Prop) : Fl → EnvF → Prop
  | .nx, Γ => X b Γ Φ
  | r, Γ => Φ r Γ
def AsgK (i : Nat) (Φ : Fl → EnvF → Prop) : Vr → EnvF → Prop
  | .val d, Γ => ∃ Γ2, Γ.set i (.val d) = Γ2 ∧ Φ .nx Γ2
  | .own o, Γ => ∃ Γ2, Γ.set i (.own 0 o) = Γ2 ∧ Φ .nx Γ2
  | _, _ => False
def ValK (Φ : D → EnvF → Prop) : Vr → EnvF → Prop
  | .val d, Γ => Φ d Γ
  | _, _ => False
def RetK (Φ : Fl → EnvF → Prop) : Vr → EnvF → Prop
  | .val d, Γ => Φ (.rt (.val d)) Γ
  | .own o, Γ => Φ (.rt (.own o)) Γ
  | .slot i, Γ => ∃ o d Γ2, Γ[i]? = some (.own 0 o) ∧ odD o = some d ∧ Γ.set i (.val d) = Γ2 ∧ Φ (.rt (.val d)) Γ2
def BackK (b : Ob) (Φ : Vr → EnvF → Prop) (Γ : EnvF) (v : Vr) (o : Option OD) : Prop := match b, o with
  | .none, _ => Φ v Γ
  | .tmp, _ => Φ v Γ
  | .slot i, some o => ∃ k o0 Γ2, Γ[i]? = some (.own k o0) ∧ Γ.set i (.own k o) = Γ2 ∧ Φ v Γ2
  | .slot _, none => False
def ForK (I : EnvF → Prop) (Φ : Fl → EnvF → Prop) : Fl → EnvF → Prop
  | .nx, Γ => I Γ
  | .ct, Γ => I Γ
  | .bk, Γ => Φ .nx Γ
  | .rt v, Γ => Φ (.rt v) Γ
def EndK (as : List Sl) (Φ : Vr → Option OD → Prop) : Fl → EnvF → Prop
  | .rt (.val d), Γ => ∃ o, endO as Γ = some o ∧ Φ (.val d) o
  | .rt (.own x), Γ => ∃ o, endO as Γ = some o ∧ Φ (.own x) o
  | .nx, Γ => ∃ o, endO as Γ = some o ∧ Φ (.val .non) o
  | _, _ => False
section
variable {α β : Type} {Γ Γ' Γ1 Γ2 : EnvF} {Φ : D → EnvF → Prop} {ΦV : Vr → EnvF → Prop} {ΦS : Fl → EnvF → Prop} {ΦB : Bool → EnvF → Prop} {ΦU : Unit → EnvF → Prop} {ΦA : List Vr → EnvF → Prop} {ΦL : List D → EnvF → Prop} {ΦO : Option Int → EnvF → Prop}
variable {fa fb fc : FE} {fs fr : FA} {ft fu : FT} {fS fT : FS}
theorem X.imp {f : FM α} {Φ Φ' : α → EnvF → Prop} (h : X f Γ Φ) (i : ∀ v Γ', Φ v Γ' → Φ' v Γ') : X f Γ Φ' := let ⟨v, g, e, p⟩ := h; ⟨v, g, e, i _ _ p⟩
theorem x_bind {f : FM α} {k : α → FM β} {Φ : β → EnvF → Prop} (h : X f Γ fun v Γ' => X (k v) Γ' Φ) : X (FM.bind f k) Γ Φ := by
  obtain ⟨v, g, e, w, g2, e2, p⟩ := h
  exact ⟨w, g2, by unfold FM.bind; rw [e]; exact e2, p⟩
theorem x_pure {v : α} {Φ : α → EnvF → Prop} (h : Φ v Γ) : X (FM.pure v) Γ Φ := ⟨v, Γ, rfl, h⟩
theorem x_of {o : Option α} {Φ : α → EnvF → Prop} (h : ∃ z, o = some z ∧ Φ z Γ) : X (fOf o) Γ Φ := by
  obtain ⟨z, e, p⟩ := h; subst e; exact ⟨z, Γ, rfl, p⟩
theorem x_V (h : X fa Γ (ValK Φ)) : X (fV fa) Γ Φ := by
  obtain ⟨v, g, e, p⟩ := h
  refine x_bind ⟨v, g, e, ?_⟩
  cases v with
  | val d => exact ⟨d, g, rfl, p⟩
  | _ => exact p.elim
theorem x_ofV (h : X (fV fa) Γ fun d Γ' => ΦV (.val d) Γ') : X fa Γ ΦV := by
  obtain ⟨d, g, e, p⟩ := h
  rcases FM.bind_some e with ⟨v, Γ1, e1, e2⟩ | ⟨_, _, _, _, _, er⟩
  · cases v with
    | val d' => cases e2; exact ⟨_, _, e1, p⟩
    | _ => cases e2
  · cases er
theorem x_R {f : FM D} (h : X f Γ Φ) : X (fV (fR f)) Γ Φ := x_V (x_bind (h.imp fun v g p => x_pure p))
/-! statements -/
theorem x_seq (h : X fS Γ (SeqK fT ΦS)) : X (fSeq fS fT) Γ ΦS := x_bind (h.imp fun v g p => by cases v <;> first | exact p | exact x_pure p)
theorem k_nx (h : X fT Γ ΦS) : SeqK fT ΦS .nx Γ := h
theorem k_rt {v : Vr} (h : ΦS (.rt v) Γ) : SeqK fT ΦS (.rt v) Γ := h
theorem x_nx (h : ΦS .nx Γ) : X fNx Γ ΦS := ⟨_, _, rfl, h⟩
theorem x_asgK {i : Nat} (h : X fa Γ (AsgK i ΦS)) : X (fAsg i fa) Γ ΦS := x_bind (h.imp fun v g p => by
  cases v with
  | val d => obtain ⟨_, e, p⟩ := p; subst e; exact ⟨_, _, rfl, p⟩
  | own o => obtain ⟨_, e, p⟩ := p; subst e; exact ⟨_, _, rfl, p⟩
  | slot j => exact p.elim)
theorem x_asg {i : Nat} (h : X (fV fa) Γ fun d Γ' => ∃ Γ2, Γ'.set i (.val d) = Γ2 ∧ ΦS .nx Γ2) : X (fAsg i fa) Γ ΦS := x_asgK (x_ofV h)
theorem x_drop (h : X (fV fa) Γ fun _ Γ' => ΦS .nx Γ') : X (fDrop fa) Γ ΦS := x_bind ((x_ofV (ΦV := fun _ g => ΦS .nx g) h).imp fun _ _ p => x_nx p)
theorem x_ret (h : X (fV fa) Γ fun d Γ' => ΦS (.rt (.val d)) Γ') : X (fRet fa) Γ ΦS := x_bind ((x_ofV (ΦV := RetK ΦS) h).imp fun v g p => by
  cases v with
  | val d => exact ⟨_, _, rfl, p⟩
  | own o => exact ⟨_, _, rfl, p⟩
  | slot i => obtain ⟨o, d, Γ2, e1, e2, e3, p⟩ := p; subst e3; exact ⟨_, _, by simp only [frz, e1, e2, Option.map_some], p⟩)
theorem x_retK (h : X fa Γ (RetK ΦS)) : X (fRet fa) Γ ΦS := x_bind (h.imp fun v g p => by
  cases v with
  | val d => exact ⟨_, _, rfl, p⟩
  | own o => exact ⟨_, _, rfl, p⟩
  | slot i => obtain ⟨o, d, Γ2, e1, e2, e3, p⟩ := p; subst e3; exact ⟨_, _, by simp only [frz, e1, e2, Option.map_some], p⟩)
theorem x_ifS (h : X ft Γ fun k Γ' => (k = true → X fS Γ' ΦS) ∧ (k = false → X fT Γ' ΦS)) : X (fIfS ft fS fT) Γ ΦS := x_bind (h.imp fun v g p => by cases v with | true => exact p.1 rfl | false => exact p.2 rfl)
theorem x_asgG {g : D → FM Unit} (h : X (fV fa) Γ fun d Γ' => X (g d) Γ' fun _ Γ2 => ΦS .nx Γ2) : X (fAsgG fa g) Γ ΦS := x_bind (h.imp fun d g p => x_bind (p.imp fun _ _ p => x_nx p))
theorem x_par {i j : Nat} (h : X (fVs fs) Γ fun ds Γ' => ∃ x y, ds = [x, y] ∧ ∃ Γ2, (Γ'.set i (.val x)).set j (.val y) = Γ2 ∧ ΦS .nx Γ2) : X (fPar i j fs) Γ ΦS := x_bind (h.imp fun d g p => by
  obtain ⟨x, y, e, Γ2, e2, p⟩ := p; subst e e2; exact ⟨_, _, rfl, p⟩)
theorem x_par3 {i j l : Nat} (h : X (fVs fs) Γ fun ds Γ' => ∃ x y z, ds = [x, y, z] ∧ ∃ Γ2, ((Γ'.set i (.val x)).set j (.val y)).set l (.val z) = Γ2 ∧ ΦS .nx Γ2) : X (fPar3 i j l fs) Γ ΦS := x_bind (h.imp fun d g p => by
  obtain ⟨x, y, z, e, Γ2, e2, p⟩ := p; subst e e2; exact ⟨_, _, rfl, p⟩)
theorem x_asg3 {i j l : Nat} (h : X (fV fa) Γ fun d Γ' => ∃ Γ2, ((Γ'.set i (.val d)).set j (.val d)).set l (.val d) = Γ2 ∧ ΦS .nx Γ2) : X (fAsg3 i j l fa) Γ ΦS := x_bind (h.imp fun d g p => by
  obtain ⟨Γ2, e2, p⟩ := p; subst e2; exact ⟨_, _, rfl, p⟩)
theorem x_aug {i : Nat} {f : D → D → Option D} (h : ∃ x, Γ[i]? = some (.val x) ∧ X (fV fa) Γ fun y Γ' => ∃ z, f x y = some z ∧ ∃ Γ2, Γ'.set i (.val z) = Γ2 ∧ ΦS .nx Γ2) : X (fAug i f fa) Γ ΦS := by
  obtain ⟨x, ex, y, g, e, z, ez, Γ2, e2, p⟩ := h
  subst e2
  exact ⟨_, _, by unfold fAug FM.bind; rw [ex]; simp only [e, ez, Option.map_some], p⟩
theorem x_for {w : FW} {g : D → FM Unit} (h : X w Γ fun ds Γ' => X (forL g fS ds) Γ' ΦS) : X (fFor w g fS) Γ ΦS := x_bind h
/-- a loop, by what holds when the items ds are left -/
theorem x_forL {g : D → FM Unit} (I : List D → EnvF → Prop) {ds : List D} (h : I ds Γ) (step : ∀ d ds Γ, I (d :: ds) Γ → X (g d) Γ fun _ Γ1 => X fS Γ1 (ForK (I ds) ΦS)) (fin : ∀ Γ, I [] Γ → ΦS .nx Γ) : X (forL g fS ds) Γ ΦS := by
  induction ds generalizing Γ with
  | nil => exact ⟨_, _, rfl, fin _ h⟩
  | cons d ds ih =>
    refine x_bind ((step d ds Γ h).imp fun _ g1 p => x_bind (p.imp fun v g2 p => ?_))
    cases v with
    | nx => exact ih p
    | ct => exact ih p
    | bk => exact ⟨_, _, rfl, p⟩
    | rt v => exact ⟨_, _, rfl, p⟩
theorem fk_nx {I : EnvF → Prop} (h : I Γ) : ForK I ΦS .nx Γ := h
theorem fk_rt {I : EnvF → Prop} {v : Vr} (h : ΦS (.rt v) Γ) : ForK I ΦS (.rt v) Γ := h
/-- while, by what holds when at most n turns are left -/
theorem x_while {n : Nat} (I : Nat → EnvF → Prop) (h : ∃ m, m < n ∧ I m Γ) (step : ∀ m Γ, I m Γ → X ft Γ fun k Γ' => (k = true → X fS Γ' (ForK (fun Γ2 => ∃ l, l < m ∧ I l Γ2) ΦS)) ∧ (k = false → ΦS .nx Γ')) : X (fWhile n ft fS) Γ ΦS := by
  unfold fWhile
  obtain ⟨m, hm, h⟩ := h
  induction n generalizing Γ m with
  | zero => omega
  | succ n ih =>
    refine x_bind ((step m Γ h).imp fun k g1 p => ?_)
    cases k with
    | false => exact ⟨_, _, rfl, p.2 rfl⟩
    | true =>
      refine x_bind ((p.1 rfl).imp fun v g2 p => ?_)
      cases v with
      | nx => obtain ⟨l, hl, hi⟩ := p; exact ih l (by omega) hi
      | ct => obtain ⟨l, hl, hi⟩ := p; exact ih l (by omega) hi
      | bk => exact ⟨_, _, rfl, p⟩
      | rt v => exact ⟨_, _, rfl, p⟩
/-! expressions -/
theorem xv_c {d : D} (h : Φ d Γ) : X (fV (fC d)) Γ Φ := ⟨_, _, rfl, h⟩
theorem xv_var {i : Nat} {d : D} (e : Γ[i]? = some (.val d)) (h : Φ d Γ) : X (fV (fVar i)) Γ Φ := ⟨_, _, by unfold fV FM.bind fVar; rw [e]; rfl, h⟩
theorem x_varO {i k : Nat} {o : OD} (e : Γ[i]? = some (.own k o)) (h : ΦV (.slot i) Γ) : X (fVar i) Γ ΦV := ⟨_, _, by unfold fVar; rw [e], h⟩
theorem x_varV {i : Nat} {d : D} (e : Γ[i]? = some (.val d)) (h : ΦV (.val d) Γ) : X (fVar i) Γ ΦV := ⟨_, _, by unfold fVar; rw [e], h⟩
theorem xv_op {f : D → D → Option D} (h : X (fV fa) Γ fun x Γ1 => X (fV fb) Γ1 fun y Γ2 => ∃ z, f x y = some z ∧ Φ z Γ2) : X (fV (fOp f fa fb)) Γ Φ := x_R (x_bind (h.imp fun _ _ p => x_bind (p.imp fun _ _ p => x_of p)))
theorem xv_un {f : D → Option D} (h : X (fV fa) Γ fun x Γ1 => ∃ z, f x = some z ∧ Φ z Γ1) : X (fV (fUn f fa)) Γ Φ := x_R (x_bind (h.imp fun _ _ p => x_of p))
theorem xv_cb {f : List D → Option D} (h : X (fVs fs) Γ fun x Γ1 => ∃ z, f x = some z ∧ Φ z Γ1) : X (fV (fCB f fs)) Γ Φ := x_R (x_bind (h.imp fun _ _ p => x_of p))
theorem xs_nil (h : ΦL [] Γ) : X (fVs fNil) Γ ΦL := ⟨_, _, rfl, h⟩
theorem xs_cons (h : X (fV fa) Γ fun d Γ1 => X (fVs fr) Γ1 fun ds Γ2 => ΦL (d :: ds) Γ2) : X (fVs (fCons fa fr)) Γ ΦL := by
  obtain ⟨d, g, e, ds, g2, e2, p⟩ := h
  obtain ⟨v, g1, e3, p3⟩ := x_ofV (ΦV := fun v g' => v = .val d ∧ g' = g) ⟨d, g, e, rfl, rfl⟩
  obtain ⟨ev, eg⟩ := p3
  subst ev eg
  rcases FM.bind_some e2 with ⟨vs, g4, e4, e5⟩ | ⟨_, _, _, _, _, er⟩
  · cases ev : valsOf vs with
    | none => rw [ev] at e5; cases e5
    | some ds' =>
      rw [ev] at e5
      cases e5
      refine x_bind (x_bind ⟨_, _, e3, x_bind ⟨_, _, e4, x_pure (x_of ⟨_, ?_, p⟩)⟩⟩)
      simp only [valsOf, ev, Option.map_some]
  · cases er
theorem xa_nil (h : ΦA [] Γ) : X fNil Γ ΦA := ⟨_, _, rfl, h⟩
theorem xa_cons (h : X fa Γ fun d Γ1 => X fr Γ1 fun ds Γ2 => ΦA (d :: ds) Γ2) : X (fCons fa fr) Γ ΦA := x_bind (h.imp fun _ _ p => x_bind (p.imp fun _ _ p => x_pure p))
theorem xv_tup (h : X (fVs fs) Γ fun ds Γ' => ds.length ≤ 16777216 ∧ Φ (.tup ds) Γ') : X (fV (fTup fs)) Γ Φ := x_R (x_bind (h.imp fun ds g p => by rw [if_pos p.1]; exact x_pure p.2))
theorem xv_lst (h : X (fVs fs) Γ fun ds Γ' => ds.length ≤ 16777216 ∧ Φ (.lst ds) Γ') : X (fV (fLst fs)) Γ Φ := x_R (x_bind (h.imp fun ds g p => by rw [if_pos p.1]; exact x_pure p.2))
theorem x_lstO (h : X (fVs fs) Γ fun ds Γ' => ds.length ≤ 16777216 ∧ ΦV (.own (.lst ds)) Γ') : X (fLstO fs) Γ ΦV := x_bind (h.imp fun ds g p => by rw [if_pos p.1]; exact x_pure p.2)
theorem xv_if (h : X ft Γ fun k Γ' => (k = true → X (fV fa) Γ' Φ) ∧ (k = false → X (fV fb) Γ' Φ)) : X (fV (fIf ft fa fb)) Γ Φ := by
  obtain ⟨k, g, e, p⟩ := h
  refine x_V (x_bind ⟨k, g, e, ?_⟩)
  cases k with
  | true => exact x_ofV (p.1 rfl)
  | false => exact x_ofV (p.2 rfl)
theorem xv_andV (h : X (fV fa) Γ fun x Γ' => ∃ k, boolOf x = some k ∧ (k = true → X (fV fb) Γ' Φ) ∧ (k = false → Φ (.bl false) Γ')) : X (fV (fAndV fa fb)) Γ Φ := x_V (x_bind (h.imp fun x g p => by
  obtain ⟨k, e, p1, p2⟩ := p
  rw [e]
  cases k with
  | true => exact x_ofV (p1 rfl)
  | false => exact ⟨_, _, rfl, p2 rfl⟩))
theorem xv_orV (h : X (fV fa) Γ fun x Γ' => ∃ k, boolOf x = some k ∧ (k = true → Φ (.bl true) Γ') ∧ (k = false → X (fV fb) Γ' Φ)) : X (fV (fOrV fa fb)) Γ Φ := x_V (x_bind (h.imp fun x g p => by
  obtain ⟨k, e, p1, p2⟩ := p
  rw [e]
  cases k with
  | true => exact ⟨_, _, rfl, p1 rfl⟩
  | false => exact x_ofV (p2 rfl)))
theorem xv_notV (h : X (fV fa) Γ fun x Γ' => ∃ k, boolOf x = some k ∧ Φ (.bl !k) Γ') : X (fV (fNotV fa)) Γ Φ := x_V (x_bind (h.imp fun x g p => by obtain ⟨k, e, p⟩ := p; rw [e]; exact ⟨_, _, rfl, p⟩))
theorem xv_isN (h : X (fV fa) Γ fun x Γ' => Φ (.bl (isNon x)) Γ') : X (fV (fIsN fa)) Γ Φ := x_V (x_bind (h.imp fun x g p => x_pure p))
theorem xv_notN (h : X (fV fa) Γ fun x Γ' => Φ (.bl !(isNon x)) Γ') : X (fV (fNotN fa)) Γ Φ := x_V (x_bind (h.imp fun x g p => x_pure p))
theorem xt_test (h : X (fV fa) Γ fun x Γ' => ∃ k, boolOf x = some k ∧ ΦB k Γ') : X (fTest fa) Γ ΦB := x_bind (h.imp fun _ _ p => x_of p)
theorem xt_tru (h : X (fV fa) Γ fun x Γ' => ∃ k, truD x = some k ∧ ΦB k Γ') : X (fTru fa) Γ ΦB := x_bind (h.imp fun _ _ p => x_of p)
theorem xt_not (h : X ft Γ fun k Γ' => ΦB (!k) Γ') : X (fNot ft) Γ ΦB := x_bind (h.imp fun _ _ p => x_pure p)
theorem xt_and (h : X ft Γ fun k Γ' => (k = true → X fu Γ' ΦB) ∧ (k = false → ΦB false Γ')) : X (fAnd ft fu) Γ ΦB := x_bind (h.imp fun k g p => by cases k with | true => exact p.1 rfl | false => exact ⟨_, _, rfl, p.2 rfl⟩)
theorem xt_or (h : X ft Γ fun k Γ' => (k = true → ΦB true Γ') ∧ (k = false → X fu Γ' ΦB)) : X (fOr ft fu) Γ ΦB := x_bind (h.imp fun k g p => by cases k with | true => exact ⟨_, _, rfl, p.1 rfl⟩ | false => exact p.2 rfl)
theorem xt_yes (h : ΦB true Γ) : X fYes Γ ΦB := ⟨_, _, rfl, h⟩
/-! calls -/
theorem x_callF {F : FF} {vs : List Vr} {as : List Sl} {b : Ob} (e : argsOf vs Γ = some (as, b)) (h : Fp F as (BackK b ΦV Γ)) : X (callF F vs) Γ ΦV := by
  obtain ⟨v, o, ef, p⟩ := h
  cases b with
  | none => exact ⟨v, Γ, by unfold callF; rw [e]; simp only [ef]; rfl, p⟩
  | tmp => exact ⟨v, Γ, by unfold callF; rw [e]; simp only [ef]; rfl, p⟩
  | slot i =>
    cases o with
    | none => exact p.elim
    | some o =>
      obtain ⟨k, o0, Γ2, e1, e2, p⟩ := p
      subst e2
      exact ⟨v, _, by unfold callF; rw [e]; simp only [ef, putBack, e1, Option.map_some], p⟩
theorem x_call {F : FF} (h : X fs Γ fun vs Γ' => X (callF F vs) Γ' ΦV) : X (fCall F fs) Γ ΦV := x_bind h
theorem xv_call {F : FF} (h : X fs Γ fun vs Γ' => X (callF F vs) Γ' (ValK Φ)) : X (fV (fCall F fs)) Γ Φ := x_V (x_bind h)
theorem xv_callN {F : FF} {j l : Nat} {ix : List Nat} (h : X fs Γ fun vs Γ' => X fr Γ' fun ws Γ2 => vs.length = j ∧ ws.length = l ∧ X (callF F (permR ix (vs ++ ws))) Γ2 (ValK Φ)) : X (fV (fCallN F j l ix fs fr)) Γ Φ :=
  x_V (x_bind (x_bind (h.imp fun _ _ p => x_bind (p.imp fun _ _ p => x_pure (by rw [if_pos ⟨p.1, p.2.1⟩]; exact p.2.2)))))
theorem xv_cmeth {F : FF} {cn : Str} (h : X fs Γ fun vs Γ' => X (callF F (.val (.cls cn) :: vs)) Γ' (ValK Φ)) : X (fV (fCMeth cn F fs)) Γ Φ := x_V (x_bind h)
theorem xv_cmethN {F : FF} {cn : Str} {l : Nat} {ix : List Nat} (h : X fs Γ fun vs Γ' => vs.length = l ∧ X (callF F (permR ix (.val (.cls cn) :: vs))) Γ' (ValK Φ)) : X (fV (fCMethN cn F l ix fs)) Γ Φ := x_V (x_bind (h.imp fun _ _ p => by rw [if_pos p.1]; exact p.2))
theorem bk_none {v : Vr} {o : Option OD} (h : ΦV v Γ) : BackK .none ΦV Γ v o := h
theorem bk_tmp {v : Vr} {o : Option OD} (h : ΦV v Γ) : BackK .tmp ΦV Γ v o := h
theorem bk_slot {v : Vr} {o : OD} {i k : Nat} {o0 : OD} (e : Γ[i]? = some (.own k o0)) (h : ∃ Γ2, Γ.set i (.own k o) = Γ2 ∧ ΦV v Γ2) : BackK (.slot i) ΦV Γ v (some o) := let ⟨Γ2, e2, p⟩ := h; ⟨k, o0, Γ2, e, e2, p⟩
theorem vk_val {d : D} (h : Φ d Γ) : ValK Φ (.val d) Γ := h
theorem ak_val {i : Nat} {d : D} (h : ∃ Γ2, Γ.set i (.val d) = Γ2 ∧ ΦS .nx Γ2) : AsgK i ΦS (.val d) Γ := h
theorem ak_own {i : Nat} {o : OD} (h : ∃ Γ2, Γ.set i (.own 0 o) = Γ2 ∧ ΦS .nx Γ2) : AsgK i ΦS (.own o) Γ := h
theorem rk_val {d : D} (h : ΦS (.rt (.val d)) Γ) : RetK ΦS (.val d) Γ := h
theorem rk_own {o : OD} (h : ΦS (.rt (.own o)) Γ) : RetK ΦS (.own o) Γ := h
/-- a def's promise, by its body -/
theorem f_def {k n : Nat} {b : FS} {as : List Sl} {Φ : Vr → Option OD → Prop} (hk : as.length = k) (h : X b (as ++ List.replicate (n - as.length) .no) (EndK as Φ)) : Fp (okF (defF k n b)) as Φ := by
  obtain ⟨fl, g, e, p⟩ := h
  cases fl with
  | nx => obtain ⟨o, eo, p⟩ := p; exact ⟨_, o, by unfold okF defF; rw [if_pos hk, e]; simp only [eo, Option.map_some], p⟩
  | bk => exact p.elim
  | ct => exact p.elim
  | rt v =>
    cases v with
    | val d => obtain ⟨o, eo, p⟩ := p; exact ⟨_, o, by unfold okF defF; rw [if_pos hk, e]; simp only [eo, Option.map_some], p⟩
    | own x => obtain ⟨o, eo, p⟩ := p; exact ⟨_, o, by unfold okF defF; rw [if_pos hk, e]; simp only [eo, Option.map_some], p⟩
    | slot i => exact p.elim
theorem en_val {as : List Sl} {o : Option OD} {d : D} {Φ : Vr → Option OD → Prop} (e : endO as Γ = some o) (p : Φ (.val d) o) : EndK as Φ (.rt (.val d)) Γ := ⟨o, e, p⟩
theorem en_own {as : List Sl} {o : Option OD} {d : OD} {Φ : Vr → Option OD → Prop} (e : endO as Γ = some o) (p : Φ (.own d) o) : EndK as Φ (.rt (.own d)) Γ := ⟨o, e, p⟩
theorem en_nx {as : List Sl} {o : Option OD} {Φ : Vr → Option OD → Prop} (e : endO as Γ = some o) (p : Φ (.val .non) o) : EndK as Φ .nx Γ := ⟨o, e, p⟩
theorem Fp.eq {F : FF} {as : List Sl} {v : Vr} {o : Option OD} (h : Fp F as fun v' o' => v' = v ∧ o' = o) : F as = some (.ok v o) := by obtain ⟨v', o', e, h1, h2⟩ := h; subst h1 h2; exact e
theorem fp_of {F : FF} {as : List Sl} {v : Vr} {o : Option OD} {Φ : Vr → Option OD → Prop} (e : F as = some (.ok v o)) (h : Φ v o) : Fp F as Φ := ⟨v, o, e, h⟩
theorem Fp.imp {F : FF} {as : List Sl} {Φ Φ' : Vr → Option OD → Prop} (h : Fp F as Φ) (i : ∀ v o, Φ v o → Φ' v o) : Fp F as Φ' := let ⟨v, o, e, p⟩ := h; ⟨v, o, e, i _ _ p⟩
/-! instances -/
theorem xv_fld {cn f : Str} (h : X fa Γ fun v Γ' => ∃ gs d, fieldsOf cn v Γ' = some gs ∧ gs.lookup f = some d ∧ Φ d Γ') : X (fV (fFld cn f fa)) Γ Φ := x_V (x_bind (h.imp fun v g p => by
  obtain ⟨gs, d, e1, e2, p⟩ := p
  exact ⟨.val d, g, by simp only [e1, e2, Option.map_some], p⟩))
theorem xv_prop {cn : Str} {F : FF} (h : X fa Γ fun v Γ' => ∃ gs, fieldsOf cn v Γ' = some gs ∧ X (callF F [v]) Γ' (ValK Φ)) : X (fV (fProp cn F fa)) Γ Φ := x_V (x_bind (h.imp fun v g p => by
  obtain ⟨gs, e, v2, g2, e2, p⟩ := p
  exact ⟨v2, g2, by simp only [e]; exact e2, p⟩))
theorem x_setF {cn f : Str} {i : Nat} (h : X (fV fa) Γ fun d Γ' => ∃ k gs Γ2, Γ'[i]? = some (.own k (.ins cn gs)) ∧ gs.length < 1000 ∧ Γ'.set i (.own k (.ins cn (putD f d gs))) = Γ2 ∧ ΦS .nx Γ2) : X (fSetF cn f i fa) Γ ΦS := x_bind (h.imp fun d g p => by
  obtain ⟨k, gs, Γ2, e1, e2, e3, p⟩ := p
  subst e3
  exact ⟨_, _, by simp [e1, e2], p⟩)
theorem xv_make {cn : Str} {F : FF} (h : X (fVs fs) Γ fun ds Γ' => Fp F (.own 1 (.ins cn []) :: ds.map .val) fun v o => v = .val .non ∧ ∃ c gs, o = some (.ins c gs) ∧ Φ (.ins c gs) Γ') : X (fV (fMake cn F fs)) Γ Φ := x_V (x_bind (h.imp fun ds g p => by
  obtain ⟨v, o, e, e1, c, gs, e2, p⟩ := p
  subst e1 e2
  rw [e]
  exact ⟨_, _, rfl, p⟩))
theorem xv_makeN {cn : Str} {F : FF} {j l : Nat} {ix : List Nat} (h : X (fVs fs) Γ fun vs Γ1 => X (fVs fr) Γ1 fun ws Γ' => vs.length = j ∧ ws.length = l ∧ Fp F (.own 1 (.ins cn []) :: (ix.map fun i => (vs ++ ws).getD i .non).map .val) fun v o => v = .val .non ∧ ∃ c gs, o = some (.ins c gs) ∧ Φ (.ins c gs) Γ') : X (fV (fMakeN cn F j l ix fs fr)) Γ Φ := x_V (x_bind (x_bind (h.imp fun vs g p => x_bind (p.imp fun ws g p => x_pure (by
  obtain ⟨h1, h2, v, o, e, e1, c, gs, e2, p⟩ := p
  subst e1 e2
  rw [if_pos ⟨h1, h2⟩]
  dsimp only
  rw [e]
  exact ⟨_, _, rfl, p⟩)))))
theorem xv_makeL {cn : Str} {F : FF} {i : Nat} (e : Γ[i]? = some (.val (.cls cn))) (h : X (fV (fMake cn F fs)) Γ Φ) : X (fV (fMakeL cn F i fs)) Γ Φ := by
  obtain ⟨v, g, e1, p⟩ := x_ofV (ΦV := ValK Φ) h
  exact x_V ⟨v, g, by unfold fMakeL; simp only [e, if_pos]; exact e1, p⟩
/-! targets -/
theorem xg_name {i : Nat} {d : D} (h : ∃ Γ2, Γ.set i (.val d) = Γ2 ∧ ΦU () Γ2) : X (pName i d) Γ ΦU := by obtain ⟨_, e, p⟩ := h; subst e; exact ⟨_, _, rfl, p⟩
theorem xg_nil (h : ΦU () Γ) : X (pNil []) Γ ΦU := ⟨_, _, rfl, h⟩
theorem xg_cons {f : D → FM Unit} {g : List D → FM Unit} {d : D} {ds : List D} (h : X (f d) Γ fun _ Γ1 => X (g ds) Γ1 ΦU) : X (pCons f g (d :: ds)) Γ ΦU := x_bind h
theorem xg_tup {k : Nat} {f : List D → FM Unit} {ds : List D} (hk : ds.length = k) (h : X (f ds) Γ ΦU) : X (pTup k f (.tup ds)) Γ ΦU := by unfold pTup; simp only [hk, if_pos]; exact h
theorem xg_unl {k : Nat} {f : List D → FM Unit} {ds : List D} (hk : ds.length = k) (h : X (f ds) Γ ΦU) : X (pUnl k f (.lst ds)) Γ ΦU := by unfold pUnl; simp only [hk, if_pos]; exact h
theorem xg_sub {i k0 : Nat} {o0 : OD} {d : D} (e0 : Γ[i]? = some (.own k0 o0)) (h : X (fV fb) Γ fun y Γ' => ∃ k ds j n Γ2, lstAt i Γ' = some (k, ds) ∧ y = .int j ∧ ixN ds.length j = some n ∧ Γ'.set i (.own k (.lst (ds.set n d))) = Γ2 ∧ ΦU () Γ2) : X (pSub i fb d) Γ ΦU := by
  obtain ⟨y, g, e, k, ds, j, n, Γ2, e1, e2, e3, e4, p⟩ := h
  subst e2 e4
  exact ⟨_, _, by unfold pSub hasOwn FM.bind; simp only [e0, e, e1, e3, Option.map_some], p⟩
theorem xv_ixO {i k0 : Nat} {o0 : OD} (e0 : Γ[i]? = some (.own k0 o0)) (h : X (fV fb) Γ fun y Γ' => ∃ k ds j d, lstAt i Γ' = some (k, ds) ∧ y = .int j ∧ atI ds j = some d ∧ Φ d Γ') : X (fV (fIxO i fb)) Γ Φ := by
  obtain ⟨y, g, e, k, ds, j, d, e1, e2, e3, p⟩ := h
  subst e2
  exact x_V ⟨.val d, g, by unfold fIxO hasOwn FM.bind; simp only [e0, e, e1, e3, Option.map_some], p⟩
theorem xv_append {i k : Nat} {ds : List D} (e0 : lstAt i Γ = some (k, ds)) (h : X (fV fb) Γ fun y Γ' => ∃ k ds Γ2, lstAt i Γ' = some (k, ds) ∧ ds.length < 16777216 ∧ Γ'.set i (.own k (.lst (ds ++ [y]))) = Γ2 ∧ Φ .non Γ2) : X (fV (fAppend i fb)) Γ Φ := by
  obtain ⟨y, g, e, k, ds, Γ2, e1, e2, e3, p⟩ := h
  subst e3
  exact x_V ⟨.val .non, _, by unfold fAppend hasLst FM.bind; simp only [e0, e, e1, e2, if_pos], p⟩
theorem xv_pop {i k : Nat} {ds : List D} {d : D} (e0 : lstAt i Γ = some (k, ds)) (e1 : ds[ds.length - 1]? = some d) (h : ∃ Γ2, Γ.set i (.own k (.lst ds.dropLast)) = Γ2 ∧ Φ d Γ2) : X (fV (fPop i)) Γ Φ := by
  obtain ⟨Γ2, e3, p⟩ := h
  subst e3
  exact x_V ⟨.val d, _, by unfold fPop; simp only [e0, e1, Option.map_some], p⟩
theorem xv_pk {Γs : EnvF} (hs : Γ.map seeO = Γs) (h : X (fV fa) Γs fun d _ => flat d = true ∧ Φ d Γ) : X (fV (fPk fa)) Γ Φ := by
  subst hs
  obtain ⟨v, g, e, p⟩ := x_ofV (ΦV := ValK fun d _ => flat d = true ∧ Φ d Γ) h
  cases v with
  | val d => exact x_V ⟨.val d, Γ, by unfold fPk; rw [e]; simp only [p.1, if_pos], p.2⟩
  | _ => exact p.elim
theorem xt_pk {Γs : EnvF} (hs : Γ.map seeO = Γs) (h : X ft Γs fun k _ => ΦB k Γ) : X (fPkT ft) Γ ΦB := by
  subst hs
  obtain ⟨k, g, e, p⟩ := h
  exact ⟨k, Γ, by unfold fPkT; rw [e], p⟩
/-! methods, slices, f-strings -/
theorem xv_bm {T : String} {f : D → List D → Option D} (h : X (fV fa) Γ fun x Γ1 => tyS x = some T ∧ X (fVs fs) Γ1 fun xs Γ2 => ∃ z, f x xs = some z ∧ Φ z Γ2) : X (fV (fBM T f fa fs)) Γ Φ := x_V (x_bind (h.imp fun x g p => by
  rw [if_pos p.1]
  exact x_bind (p.2.imp fun _ _ p => x_ofV (x_R (x_of p)))))
theorem xv_bm0 {T : String} {f : D → List D → Option D} (h : X (fV fa) Γ fun x Γ1 => tyS x = some T ∧ ∃ z, f x [] = some z ∧ Φ z Γ1) : X (fV (fBM0 T f fa)) Γ Φ := x_V (x_bind (h.imp fun x g p => by
  rw [if_pos p.1]
  exact x_ofV (x_R (x_of p.2))))
theorem xv_sl {fl fh : FO} (h : X (fV fa) Γ fun x Γ1 => X fl Γ1 fun lo Γ2 => X fh Γ2 fun hi Γ3 => ∃ z, slD x lo hi = some z ∧ Φ z Γ3) : X (fV (fSl fa fl fh)) Γ Φ := x_V (x_bind (h.imp fun x g p => x_bind (p.imp fun lo g p => x_bind (p.imp fun hi g p => x_ofV (x_R (x_of p))))))
theorem xo_no (h : ΦO none Γ) : X fNoPart Γ ΦO := ⟨_, _, rfl, h⟩
theorem xo_some (h : X (fV fa) Γ fun x Γ1 => ∃ i, x = .int i ∧ ΦO (some i) Γ1) : X (fPart fa) Γ ΦO := x_bind (h.imp fun x g p => by obtain ⟨i, e, p⟩ := p; subst e; exact ⟨_, _, rfl, p⟩)
theorem xv_revS (h : X (fV fa) Γ fun x Γ1 => ∃ z, x = .str z ∧ z.length ≤ 16777216 ∧ Φ (.str (revS z)) Γ1) : X (fV (fRevS fa)) Γ Φ := x_V (x_bind (h.imp fun x g p => by obtain ⟨z, e, e2, p⟩ := p; subst e; simp only [e2, if_pos]; exact ⟨_, _, rfl, p⟩))
theorem xv_revL (h : X (fV fa) Γ fun x Γ1 => ∃ z, (match x with | .lst ds => some (.lst ds.reverse) | .scr ns => some (.lst (ns.map D.int).reverse) | _ => none) = some z ∧ Φ z Γ1) : X (fV (fRevL fa)) Γ Φ := x_V (x_bind (h.imp fun x g p => x_ofV (x_R (x_of p))))
theorem xv_fmt (h : X (fV fa) Γ fun x Γ1 => ∃ z, fmtD x = some z ∧ Φ z Γ1) : X (fV (fFmt fa)) Γ Φ := x_V (x_bind (h.imp fun x g p => x_ofV (x_R (x_of p))))
theorem xv_joined {l : List FE} (h : X (fJs l Str.empty) Γ fun z Γ1 => Φ (.str z) Γ1) : X (fV (fJoined l)) Γ Φ := x_V (x_bind (h.imp fun _ _ p => x_pure p))
theorem xj_nil {acc : Str} {ΦT : Str → EnvF → Prop} (h : ΦT acc Γ) : X (fJs [] acc) Γ ΦT := ⟨_, _, rfl, h⟩
theorem xj_cons {l : List FE} {acc : Str} {ΦT : Str → EnvF → Prop} (h : X (fV fa) Γ fun x Γ1 => ∃ y, x = .str y ∧ (acc ++ y).length ≤ 16777216 ∧ X (fJs l (acc ++ y)) Γ1 ΦT) : X (fJs (fa :: l) acc) Γ ΦT := x_bind (h.imp fun x g p => by obtain ⟨y, e, e2, p⟩ := p; subst e; simp only [e2, if_pos]; exact p)
/-! what is walked; comprehensions -/
theorem xw_any {Φ : List D → EnvF → Prop} (h : X (fV fa) Γ fun d Γ' => ∃ ds, itemsOf d = some ds ∧ Φ ds Γ') : X (wAny fa) Γ Φ := x_bind (h.imp fun _ _ p => x_of p)
theorem xw_rng1 {Φ : List D → EnvF → Prop} (h : X (fVs fs) Γ fun ds Γ' => ∃ j, ds = [.int j] ∧ (-(2 ^ 62) ≤ j ∧ j < 2 ^ 62) ∧ Φ (rangeD 0 j) Γ') : X (wRng1 fs) Γ Φ := x_bind (h.imp fun _ _ p => by obtain ⟨j, e, e2, p⟩ := p; subst e; simp only [e2, and_self, if_pos]; exact ⟨_, _, rfl, p⟩)
theorem xw_rng2 {Φ : List D → EnvF → Prop} (h : X (fVs fs) Γ fun ds Γ' => ∃ i j, ds = [.int i, .int j] ∧ (-(2 ^ 62) ≤ i ∧ i < 2 ^ 62 ∧ -(2 ^ 62) ≤ j ∧ j < 2 ^ 62) ∧ Φ (rangeD i j) Γ') : X (wRng2 fs) Γ Φ := x_bind (h.imp fun _ _ p => by obtain ⟨i, j, e, e2, p⟩ := p; subst e; simp only [e2, and_self, if_pos]; exact ⟨_, _, rfl, p⟩)
theorem xv_lc {w : FW} {g : D → FM Unit} {vs : List Nat} (h : X w Γ fun ds Γ' => ds.length < 16777216 ∧ X (lcL g ft fa vs ds []) Γ' fun acc Γ2 => Φ (.lst acc) Γ2) : X (fV (fLc w g ft fa vs)) Γ Φ := x_V (x_bind (h.imp fun ds g p => by rw [if_pos p.1]; exact x_bind (p.2.imp fun _ _ p => x_pure p)))
/-- a comprehension, by what holds when the items ds are left and acc is made -/
theorem x_lcL {g : D → FM Unit} {vs : List Nat} (I : List D → List D → EnvF → Prop) {ds acc : List D} (h : I ds acc Γ)
    (step : ∀ d ds acc Γ, I (d :: ds) acc Γ → ∃ Γw, wipeF Γ vs = Γw ∧ (vs.all fun v => !isOwn (Γ.getD v .no)) = true ∧ X (g d) Γw fun _ Γ1 => X ft Γ1 fun k Γ2 => (k = true → X (fV fa) Γ2 fun y Γ3 => (backF Γ Γ3 vs).map isOwn = Γ.map isOwn ∧ I ds (acc ++ [y]) (backF Γ Γ3 vs)) ∧ (k = false → (backF Γ Γ2 vs).map isOwn = Γ.map isOwn ∧ I ds acc (backF Γ Γ2 vs)))
    (fin : ∀ acc Γ, I [] acc Γ → ΦL acc Γ) : X (lcL g ft fa vs ds acc) Γ ΦL := by
  induction ds generalizing Γ acc with
  | nil => exact ⟨_, _, rfl, fin _ _ h⟩
  | cons d ds ih =>
    obtain ⟨Γw, ew, ho, p⟩ := step d ds acc Γ h
    subst ew
    have t : X (lcTurn g ft fa d acc) (wipeF Γ vs) fun acc' Γ3 => (backF Γ Γ3 vs).map isOwn = Γ.map isOwn ∧ I ds acc' (backF Γ Γ3 vs) := x_bind (p.imp fun _ _ p => x_bind (p.imp fun k g2 p => by
      cases k with
      | true => rw [if_pos rfl]; exact x_bind ((p.1 rfl).imp fun _ _ p => x_pure p)
      | false => rw [if_neg (by simp)]; exact x_pure (p.2 rfl)))
    obtain ⟨acc', Γ3, e, e2, hi⟩ := t
    obtain ⟨r, Γe, e3, pe⟩ := ih hi
    exact ⟨r, Γe, by unfold lcL; rw [e]; simp only [ho, e2, and_self, if_pos]; exact e3, pe⟩
end
end DF

set_option linter.all false
set_option maxRecDepth 100000
set_option maxHeartbeats 4000000
namespace DF
open PySem PySem.Spec PyProof.Rows L2
variable [TbC]
section
variable {x y z : D} {b : Bool} {xs : List D} {Φ : D → Prop} {ΦB : Bool → Prop} {ΦE : EnvF → Prop} {ΦL : List D → Prop}
theorem e_addD (e : addD x y = some z) (p : Φ z) : ∃ z, addD x y = some z ∧ Φ z := ⟨z, e, p⟩
theorem e_subD (e : subD x y = some z) (p : Φ z) : ∃ z, subD x y = some z ∧ Φ z := ⟨z, e, p⟩
theorem e_ltD (e : ltD x y = some z) (p : Φ z) : ∃ z, ltD x y = some z ∧ Φ z := ⟨z, e, p⟩
theorem e_leD (e : leD x y = some z) (p : Φ z) : ∃ z, leD x y = some z ∧ Φ z := ⟨z, e, p⟩
theorem e_gtD (e : gtD x y = some z) (p : Φ z) : ∃ z, gtD x y = some z ∧ Φ z := ⟨z, e, p⟩
theorem e_geD (e : geD x y = some z) (p : Φ z) : ∃ z, geD x y = some z ∧ Φ z := ⟨z, e, p⟩
theorem e_ixD (e : ixD x y = some z) (p : Φ z) : ∃ z, ixD x y = some z ∧ Φ z := ⟨z, e, p⟩
theorem e_inSD (e : inSD x y = some z) (p : Φ z) : ∃ z, inSD x y = some z ∧ Φ z := ⟨z, e, p⟩
theorem e_negD (e : negD x = some z) (p : Φ z) : ∃ z, negD x = some z ∧ Φ z := ⟨z, e, p⟩
theorem e_lenD (e : lenD xs = some z) (p : Φ z) : ∃ z, lenD xs = some z ∧ Φ z := ⟨z, e, p⟩
theorem e_absD (e : absD xs = some z) (p : Φ z) : ∃ z, absD xs = some z ∧ Φ z := ⟨z, e, p⟩
theorem e_intOf (e : intOf xs = some z) (p : Φ z) : ∃ z, intOf xs = some z ∧ Φ z := ⟨z, e, p⟩
theorem e_allD (e : allD xs = some z) (p : Φ z) : ∃ z, allD xs = some z ∧ Φ z := ⟨z, e, p⟩
theorem e_tupOf (e : tupOf xs = some z) (p : Φ z) : ∃ z, tupOf xs = some z ∧ Φ z := ⟨z, e, p⟩
theorem e_lstOf (e : lstOf xs = some z) (p : Φ z) : ∃ z, lstOf xs = some z ∧ Φ z := ⟨z, e, p⟩
theorem e_boolOf (e : boolOf x = some b) (p : ΦB b) : ∃ b, boolOf x = some b ∧ ΦB b := ⟨b, e, p⟩
theorem e2_boolOf {P Q : Bool → Prop} (e : boolOf x = some b) (p : P b) (q : Q b) : ∃ b, boolOf x = some b ∧ P b ∧ Q b := ⟨b, e, p, q⟩
theorem e_truD (e : truD x = some b) (p : ΦB b) : ∃ b, truD x = some b ∧ ΦB b := ⟨b, e, p⟩
theorem e_joinD (e : joinD x xs = some z) (p : Φ z) : ∃ z, joinD x xs = some z ∧ Φ z := ⟨z, e, p⟩
theorem e_itemsOf (e : itemsOf x = some xs) (p : ΦL xs) : ∃ z, itemsOf x = some z ∧ ΦL z := ⟨xs, e, p⟩
theorem e_slD {lo hi : Option Int} (e : slD x lo hi = some z) (p : Φ z) : ∃ z, slD x lo hi = some z ∧ Φ z := ⟨z, e, p⟩
theorem e_isiD {cs : List Str} {tb : ITab} (e : isiD cs tb xs = some z) (p : Φ z) : ∃ z, isiD cs tb xs = some z ∧ Φ z := ⟨z, e, p⟩
theorem e_intD {f : Int → Int → D} (e : intD f x y = some z) (p : Φ z) : ∃ z, intD f x y = some z ∧ Φ z := ⟨z, e, p⟩
theorem e_boolI {n : Str} (e : boolI n xs = some z) (p : Φ z) : ∃ z, boolI n xs = some z ∧ Φ z := ⟨z, e, p⟩
theorem e_ixO {Γ : EnvF} {i k : Nat} {ds : List D} {j : Int} {d : D} (e1 : lstAt i Γ = some (k, ds)) (e2 : atI ds j = some d) (p : Φ d) : ∃ k ds j' d, lstAt i Γ = some (k, ds) ∧ D.int j = .int j' ∧ atI ds j' = some d ∧ Φ d := ⟨k, ds, j, d, e1, rfl, e2, p⟩
theorem e_sub {Γ Γ2 : EnvF} {i k n : Nat} {ds : List D} {j : Int} {d : D} (e1 : lstAt i Γ = some (k, ds)) (e3 : ixN ds.length j = some n) (e4 : Γ.set i (.own k (.lst (ds.set n d))) = Γ2) (p : ΦE Γ2) : ∃ k ds j' n Γ2, lstAt i Γ = some (k, ds) ∧ D.int j = .int j' ∧ ixN ds.length j' = some n ∧ Γ.set i (.own k (.lst (ds.set n d))) = Γ2 ∧ ΦE Γ2 := ⟨k, ds, j, n, Γ2, e1, rfl, e3, e4, p⟩
theorem e_set {Γ Γ2 : EnvF} {ΦE : EnvF → Prop} (e : Γ = Γ2) (p : ΦE Γ2) : ∃ Γ2, Γ = Γ2 ∧ ΦE Γ2 := ⟨Γ2, e, p⟩
theorem e_some {i : Int} {ΦI : Int → Prop} (p : ΦI i) : ∃ j, D.int i = .int j ∧ ΦI j := ⟨i, rfl, p⟩
theorem e_fields {c : Str} {v : Vr} {Γ : EnvF} {gs : List (Str × D)} {f : Str} {d : D} (e : fieldsOf c v Γ = some gs) (e2 : gs.lookup f = some d) (p : Φ d) : ∃ gs d, fieldsOf c v Γ = some gs ∧ gs.lookup f = some d ∧ Φ d := ⟨gs, d, e, e2, p⟩
theorem e_has {c : Str} {v : Vr} {Γ : EnvF} {gs : List (Str × D)} {P : Prop} (e : fieldsOf c v Γ = some gs) (p : P) : ∃ gs, fieldsOf c v Γ = some gs ∧ P := ⟨gs, e, p⟩
theorem e_rng {j : Int} {ΦI : Int → Prop} (h : -(2 ^ 62) ≤ j ∧ j < 2 ^ 62) (p : ΦI j) : ∃ i, [D.int j] = [.int i] ∧ (-(2 ^ 62) ≤ i ∧ i < 2 ^ 62) ∧ ΦI i := ⟨j, rfl, h, p⟩
theorem e_par {Γ Γ2 : EnvF} {i j : Nat} (e : (Γ.set i (.val x)).set j (.val y) = Γ2) (p : ΦE Γ2) : ∃ u v, [x, y] = [u, v] ∧ ∃ Γ2, (Γ.set i (.val u)).set j (.val v) = Γ2 ∧ ΦE Γ2 := ⟨x, y, rfl, Γ2, e, p⟩
theorem e_par3 {Γ Γ2 : EnvF} {i j l : Nat} (e : ((Γ.set i (.val x)).set j (.val y)).set l (.val z) = Γ2) (p : ΦE Γ2) : ∃ u v w, [x, y, z] = [u, v, w] ∧ ∃ Γ2, ((Γ.set i (.val u)).set j (.val v)).set l (.val w) = Γ2 ∧ ΦE Γ2 := ⟨x, y, z, rfl, Γ2, e, p⟩
theorem e_setF {Γ Γ2 : EnvF} {i k : Nat} {c f : Str} {d : D} {gs : List (Str × D)} (e1 : Γ[i]? = some (.own k (.ins c gs))) (e2 : gs.length < 1000) (e3 : Γ.set i (.own k (.ins c (putD f d gs))) = Γ2) (p : ΦE Γ2) : ∃ k gs Γ2, Γ[i]? = some (.own k (.ins c gs)) ∧ gs.length < 1000 ∧ Γ.set i (.own k (.ins c (putD f d gs))) = Γ2 ∧ ΦE Γ2 := ⟨k, gs, Γ2, e1, e2, e3, p⟩
theorem e_str {z : Str} {ΦZ : Str → Prop} (p : ΦZ z) : ∃ y, D.str z = .str y ∧ ΦZ y := ⟨z, rfl, p⟩
theorem e_rev {ds : List D} (p : Φ (.lst ds.reverse)) : ∃ z, (match D.lst ds with | .lst ds => some (D.lst ds.reverse) | .scr ns => some (.lst (ns.map D.int).reverse) | _ => none) = some z ∧ Φ z := ⟨_, rfl, p⟩
theorem mulOk_r {i j : Int} (h : -(2 ^ 64) < j) (h2 : j < 2 ^ 64) : mulOk i j = true := by unfold mulOk; simp only [h, h2, decide_true, Bool.and_self, Bool.or_true, Bool.true_or]
theorem mulOk_l {i j : Int} (h : -(2 ^ 64) < i) (h2 : i < 2 ^ 64) : mulOk i j = true := by unfold mulOk; simp only [h, h2, decide_true, Bool.and_self, Bool.or_true, Bool.true_or]
theorem r_mul {i j : Int} (h : mulOk i j = true) (p : Φ (.int (i * j))) : ∃ z, mulD (.int i) (.int j) = some z ∧ Φ z := ⟨_, by unfold mulD; simp only [h, if_pos], p⟩
theorem r_mod {i j : Int} (h : 0 < j) (p : Φ (.int (i % j))) : ∃ z, modD (.int i) (.int j) = some z ∧ Φ z := ⟨_, by unfold modD intC; simp only [h, decide_true, if_pos], p⟩
theorem r_fdiv {i j : Int} (h : 0 < j) (h2 : j.natAbs.log2 < 9000) (p : Φ (.int (i / j))) : ∃ z, fdivD (.int i) (.int j) = some z ∧ Φ z := ⟨_, by unfold fdivD intC; simp only [h, h2, decide_true, Bool.and_self, if_pos], p⟩
theorem r_divmod {i j : Int} (h : 0 < j) (h2 : j < 1073741824) (p : Φ (.tup [.int (i / j), .int (i % j)])) : ∃ z, divmodD [.int i, .int j] = some z ∧ Φ z := ⟨_, by unfold divmodD; simp only [h, h2, and_self, if_pos], p⟩
theorem r_addS {i j : Str} (h : i.length + j.length ≤ 16777216) (p : Φ (.str (i ++ j))) : ∃ z, addD (.str i) (.str j) = some z ∧ Φ z := ⟨_, by unfold addD; simp only [h, if_pos], p⟩
theorem r_addL {i j : List D} (h : i.length + j.length ≤ 16777216) (p : Φ (.lst (i ++ j))) : ∃ z, addD (.lst i) (.lst j) = some z ∧ Φ z := ⟨_, by unfold addD; simp only [h, if_pos], p⟩
end
end DF

set_option linter.all false
set_option maxRecDepth 100000
set_option maxHeartbeats 4000000
namespace DF
open PySem PySem.Spec PyProof.Rows L2 TL NumText
variable [TbC]
/-! ### the signs of a number -/
def tlI (i : Int) : List Nat := if i < 0 then 45 :: numL i.natAbs else numL i.natAbs
theorem inS_chr {c : Nat} {z : Str} : inSD (.str ⟨#[c]⟩) (.str z) = some (.bl (decide (c ∈ tl z))) := by
  show some (D.bl _) = _
  rw [StrLaws.found_one]
end DF

set_option linter.all false
set_option maxRecDepth 100000
set_option maxHeartbeats 4000000
namespace DF
open PySem PySem.Spec PyProof.Rows L2 TL NumText
variable [TbC]
/-! ### repr and == of plain data: bounds -/
mutual
def big : D → Nat
  | .int _ => 1921 | .non => 4 | .bl _ => 5 | .tup ds => bigL ds + 3 | .lst ds => bigL ds + 3
  | .str z => 10 * z.length + 2 | .cls _ => 0 | .ty _ => 0 | .scr _ => 0 | .ins _ _ => 0 | .dct _ => 0
def bigL : List D → Nat
  | [] => 0 | d :: ds => big d + 2 + bigL ds
end
mutual
def okD : D → Prop
  | .int i => i.natAbs < 10 ^ 200 | .non => True | .bl _ => True | .tup ds => okL ds | .lst ds => okL ds
  | .str z => ∀ c ∈ tl z, c < 1114112 | .cls _ => False | .ty _ => False | .scr _ => False | .ins _ _ => False | .dct _ => False
def okL : List D → Prop
  | [] => True | d :: ds => okD d ∧ okL ds
end
mutual
def dep : D → Nat
  | .int _ => 0 | .non => 0 | .bl _ => 0 | .tup ds => depL ds + 1 | .lst ds => depL ds + 1
  | .str _ => 0 | .cls _ => 0 | .ty _ => 0 | .scr _ => 0 | .ins _ _ => 0 | .dct _ => 0
def depL : List D → Nat
  | [] => 0 | d :: ds => max (dep d) (depL ds)
end
set_option exponentiation.threshold 3000 in
theorem log_lt {x : Nat} (h : x < 10 ^ 200) : x.log2 < 700 := by
  by_cases h0 : x = 0
  · subst h0; decide
  · rw [Nat.log2_lt h0]
    exact Nat.lt_trans h (by decide)
structure ShD (d : D) (p : PyData) (b k : Nat) : Prop where
  sh : p.showable = true
  ln : p.shown.length ≤ b
  nd : p.hasDict = false
  pu : pur d = true
  dp : p.depth = k
structure ShL (ds : List D) (ps : List PyData) (b k : Nat) : Prop where
  sh : PyData.showableAll ps = true
  ln : ((PyData.shownAll ps).map (·.length)).sum + 2 * (PyData.shownAll ps).length ≤ b
  nd : PyData.hasDictAll ps = false
  pu : purL ds = true
  dp : PyData.depthAll ps = k
mutual
theorem shown_le : ∀ d : D, okD d → ShD d (py d) (big d) (dep d)
  | .int i, h => by
    have h' : i.natAbs < 10 ^ 200 := h
    refine ⟨?_, ?_, rfl, rfl, rfl⟩
    · show decide (i.natAbs.log2 < 1920) = true
      exact decide_eq_true (Nat.lt_trans (log_lt h') (by decide))
    · exact int_text_len_1921 (Nat.lt_trans (log_lt h') (by decide))
  | .non, _ => ⟨rfl, (by show (Str.ofString "None").length ≤ 4; decide +kernel), rfl, rfl, rfl⟩
  | .bl b, _ => ⟨rfl, (by cases b; (show (Str.ofString "False").length ≤ 5; decide +kernel); (show (Str.ofString "True").length ≤ 5; decide +kernel)), rfl, rfl, rfl⟩
  | .tup ds, h => by
    obtain ⟨h1, h2, h3, h4, h5⟩ := shownL_le ds h
    refine ⟨h1, ?_, h3, h4, by show PyData.depthAll (pyL ds) + 1 = depL ds + 1; rw [h5]⟩
    exact Nat.le_trans (tupleText_len_le _) (Nat.add_le_add_right h2 3)
  | .lst ds, h => by
    obtain ⟨h1, h2, h3, h4, h5⟩ := shownL_le ds h
    refine ⟨h1, ?_, h3, h4, by show PyData.depthAll (pyL ds) + 1 = depL ds + 1; rw [h5]⟩
    exact Nat.le_trans (listText_len_le _) (Nat.add_le_add_right h2 3)
  | .str z, h => by
    have h' : ∀ c ∈ z.cps.toList, c < 1114112 := h
    refine ⟨rfl, ?_, rfl, rfl, rfl⟩
    show (PyData.str z).shown.length ≤ _
    rw [PyData.shown_str]
    exact StrLaws.reprText_len z fun c hc => Nat.lt_trans (h' c hc) (by decide)
  | .cls _, h => h.elim
  | .ty _, h => h.elim
  | .scr _, h => h.elim
  | .ins _ _, h => h.elim
  | .dct _, h => h.elim
theorem shownL_le : ∀ ds : List D, okL ds → ShL ds (pyL ds) (bigL ds) (depL ds)
  | [], _ => ⟨rfl, Nat.le_refl _, rfl, rfl, rfl⟩
  | d :: ds, h => by
    obtain ⟨h1, h2, h3, h4, h5⟩ := shown_le d h.1
    obtain ⟨k1, k2, k3, k4, k5⟩ := shownL_le ds h.2
    refine ⟨?_, ?_, ?_, ?_, ?_⟩
    · show (PyData.showable (py d) && PyData.showableAll (pyL ds)) = true
      rw [h1, k1]; rfl
    · show (((py d).shown :: PyData.shownAll (pyL ds)).map (·.length)).sum + 2 * ((py d).shown :: PyData.shownAll (pyL ds)).length ≤ big d + 2 + bigL ds
      rw [List.map_cons, List.sum_cons, List.length_cons]
      omega
    · show (PyData.hasDict (py d) || PyData.hasDictAll (pyL ds)) = false
      rw [h3, k3]; rfl
    · show (pur d && purL ds) = true
      rw [h4, k4]; rfl
    · show max (PyData.depth (py d)) (PyData.depthAll (pyL ds)) = max (dep d) (depL ds)
      rw [h5, k5]
end
/-! == -/
mutual
theorem canLay_ok : ∀ d : D, okD d → (py d).canLay0 = true
  | .int _, _ => rfl
  | .non, _ => rfl
  | .bl _, _ => rfl
  | .str z, h => by
    have h' : ∀ c ∈ z.cps.toList, c < 1114112 := h
    show (z.cps.all fun c => decide (c < 1114112)) = true
    rw [← Array.all_toList]
    exact List.all_eq_true.mpr fun c hc => decide_eq_true (h' c hc)
  | .tup ds, h => canLayL_ok ds h
  | .lst ds, h => canLayL_ok ds h
  | .cls _, h => h.elim
  | .ty _, h => h.elim
  | .scr _, h => h.elim
  | .ins _ _, h => h.elim
  | .dct _, h => h.elim
theorem canLayL_ok : ∀ ds : List D, okL ds → PyData.canLayAll0 (pyL ds) = true
  | [], _ => rfl
  | d :: ds, h => by
    show (PyData.canLay0 (py d) && PyData.canLayAll0 (pyL ds)) = true
    rw [canLay_ok d h.1, canLayL_ok ds h.2]; rfl
end
theorem eq_okD {x : D} (ho : okD x) (hd : dep x ≤ 64) : okEq x = true := by
  obtain ⟨h1, h2, h3, h4, h5⟩ := shown_le x ho
  unfold okEq SeqAt.shaped
  rw [h4, canLay_ok x ho, decide_eq_true (show (py x).depth ≤ 64 by rw [h5]; exact hd)]
  rfl
theorem eqB_ok {x y : D} (hx : okEq x = true) (hy : okEq y = true) : eqB x y = some (PyData.eqv (py x) (py y)) := by
  unfold eqB
  split
  · rename_i a b
    show _ = some (a == b)
    congr 1
  · rw [if_pos ⟨hx, hy⟩]
section
variable {x y : D} {b : Bool} {Φ : D → Prop} {i j : Int}
theorem r_eq (hx : okEq x = true) (hy : okEq y = true) (e : PyData.eqv (py x) (py y) = b) (p : Φ (.bl b)) : ∃ z, eqD x y = some z ∧ Φ z := ⟨_, by unfold eqD; rw [eqB_ok hx hy, e]; rfl, p⟩
theorem r_ne (hx : okEq x = true) (hy : okEq y = true) (e : PyData.eqv (py x) (py y) = b) (p : Φ (.bl !b)) : ∃ z, neD x y = some z ∧ Φ z := ⟨_, by unfold neD; rw [eqB_ok hx hy, e]; rfl, p⟩
theorem eqv_int : PyData.eqv (.int i) (.int j) = decide (i = j) := by
  show (i == j) = _
  rfl
theorem r_eqI (p : Φ (.bl (decide (i = j)))) : ∃ z, eqD (.int i) (.int j) = some z ∧ Φ z := r_eq rfl rfl eqv_int p
theorem r_neI (p : Φ (.bl !(decide (i = j)))) : ∃ z, neD (.int i) (.int j) = some z ∧ Φ z := r_ne rfl rfl eqv_int p
theorem r_eqS {a b : Str} (p : Φ (.bl (decide (a = b)))) : ∃ z, eqD (.str a) (.str b) = some z ∧ Φ z := ⟨_, rfl, p⟩
theorem r_neS {a b : Str} (p : Φ (.bl !(decide (a = b)))) : ∃ z, neD (.str a) (.str b) = some z ∧ Φ z := ⟨_, rfl, p⟩
theorem r_addI (p : Φ (.int (i + j))) : ∃ z, addD (.int i) (.int j) = some z ∧ Φ z := ⟨_, rfl, p⟩
theorem r_sub (p : Φ (.int (i - j))) : ∃ z, subD (.int i) (.int j) = some z ∧ Φ z := ⟨_, rfl, p⟩
theorem r_lt (p : Φ (.bl (decide (i < j)))) : ∃ z, ltD (.int i) (.int j) = some z ∧ Φ z := ⟨_, rfl, p⟩
theorem r_gt (p : Φ (.bl (decide (j < i)))) : ∃ z, gtD (.int i) (.int j) = some z ∧ Φ z := ⟨_, rfl, p⟩
theorem r_le (p : Φ (.bl (decide (i ≤ j)))) : ∃ z, leD (.int i) (.int j) = some z ∧ Φ z := ⟨_, rfl, p⟩
theorem r_ge (p : Φ (.bl (decide (j ≤ i)))) : ∃ z, geD (.int i) (.int j) = some z ∧ Φ z := ⟨_, rfl, p⟩
theorem r_pow {v : Int} (h : (decide (0 ≤ j) && decide (j ≤ 1000000) && decide (i.natAbs < 2 ^ 64)) = true) (e : i ^ j.toNat = v) (p : Φ (.int v)) : ∃ z, powD (.int i) (.int j) = some z ∧ Φ z := ⟨_, by unfold powD intC; simp only [h, if_pos, e], p⟩
theorem r_int (p : Φ (.int i)) : ∃ z, intOf [.int i] = some z ∧ Φ z := ⟨_, rfl, p⟩
theorem r_intB {b : Bool} (p : Φ (.int (if b then 1 else 0))) : ∃ z, intOf [.bl b] = some z ∧ Φ z := ⟨_, rfl, p⟩
theorem r_abs (p : Φ (.int (if i < 0 then -i else i))) : ∃ z, absD [.int i] = some z ∧ Φ z := ⟨_, rfl, p⟩
theorem r_bool {ΦB : Bool → Prop} (p : ΦB b) : ∃ k, boolOf (.bl b) = some k ∧ ΦB k := ⟨_, rfl, p⟩
theorem r_truB {ΦB : Bool → Prop} (p : ΦB b) : ∃ k, truD (.bl b) = some k ∧ ΦB k := ⟨_, rfl, p⟩
theorem r_len {xs : List D} (p : Φ (.int xs.length)) : ∃ z, lenD [.lst xs] = some z ∧ Φ z := ⟨_, rfl, p⟩
theorem r_lenS {ns : List Int} (p : Φ (.int ns.length)) : ∃ z, lenD [.scr ns] = some z ∧ Φ z := ⟨_, rfl, p⟩
theorem ix_scr {ns : List Int} {t : Int} (h0 : 0 ≤ t) (h : t < ns.length) : ∃ k, ixD (.scr ns) (.int t) = some (.int k) := by
  show ∃ k, atI (ns.map D.int) t = some (.int k)
  unfold atI ixN
  rw [List.length_map, if_pos h0, if_pos h]
  have hl : t.toNat < ns.length := by omega
  exact ⟨ns[t.toNat], by simp [List.getElem?_map, List.getElem?_eq_getElem hl]⟩
theorem cut_ints {ns : List Int} {lo hi : Option Int} : ∃ ms : List Int, cutD (ns.map .int) lo hi = ms.map .int ∧ ms.length ≤ ns.length := by
  unfold cutD
  rw [← List.map_drop, ← List.map_take]
  exact ⟨_, rfl, by rw [List.length_take, List.length_drop]; omega⟩
theorem atI_ok {α : Type} {ds : List α} {j : Int} (h0 : 0 ≤ j) (h : j < ds.length) : ∃ d, atI ds j = some d ∧ d ∈ ds := by
  unfold atI ixN
  rw [if_pos h0, if_pos h]
  have hl : j.toNat < ds.length := by omega
  exact ⟨ds[j.toNat], by simp [List.getElem?_eq_getElem hl], List.getElem_mem hl⟩
theorem atI_nat {α : Type} {ds : List α} {n : Nat} : atI ds (n : Int) = ds[n]? := by
  unfold atI ixN
  rw [if_pos (by omega)]
  by_cases h : (n : Int) < ds.length
  · rw [if_pos h]; simp
  · rw [if_neg h, List.getElem?_eq_none (by omega)]; rfl
/-- the same data -/
theorem r_eqSelf (ho : okD x) (hd : dep x ≤ 64) (p : Φ (.bl true)) : ∃ z, eqD x x = some z ∧ Φ z := r_eq (eq_okD ho hd) (eq_okD ho hd) (SeqAt.eqv_refl _ (canLay_ok x ho)) p
theorem r_neSelf (ho : okD x) (hd : dep x ≤ 64) (p : Φ (.bl false)) : ∃ z, neD x x = some z ∧ Φ z := r_ne (eq_okD ho hd) (eq_okD ho hd) (SeqAt.eqv_refl _ (canLay_ok x ho)) p
/-! comprehensions, one turn -/
theorem r_dec2 {p : Prop} [Decidable p] {A B : Prop} (hp : p → A) (hn : ¬ p → B) : ∃ k, boolOf (.bl (decide p)) = some k ∧ (k = true → A) ∧ (k = false → B) := ⟨_, rfl, fun h => hp (of_decide_eq_true h), fun h => hn (of_decide_eq_false h)⟩
theorem r_decN2 {p : Prop} [Decidable p] {A B : Prop} (hp : p → B) (hn : ¬ p → A) : ∃ k, boolOf (.bl !(decide p)) = some k ∧ (k = true → A) ∧ (k = false → B) := ⟨_, rfl, fun h => hn (by simpa using h), fun h => hp (by simpa using h)⟩
theorem r_decM2 {p : Prop} [Decidable p] {A B : Prop} (hp : p → B) (hn : ¬ p → A) : ∃ k, boolOf (.bl (decide p)) = some k ∧ ((!k) = true → A) ∧ ((!k) = false → B) := ⟨_, rfl, fun h => hn (by simpa using h), fun h => hp (by simpa using h)⟩
theorem nnf_intro {P Q : Prop} (q : Q) : ((!!false) = true → P) ∧ ((!!false) = false → Q) := ⟨fun h => (nomatch h), fun _ => q⟩
theorem nnt_intro {P Q : Prop} (p : P) : ((!!true) = true → P) ∧ ((!!true) = false → Q) := ⟨fun _ => p, fun h => (nomatch h)⟩
theorem nt_intro {P Q : Prop} (q : Q) : ((!true) = true → P) ∧ ((!true) = false → Q) := ⟨fun h => (nomatch h), fun _ => q⟩
theorem nf_intro {P Q : Prop} (p : P) : ((!false) = true → P) ∧ ((!false) = false → Q) := ⟨fun _ => p, fun h => (nomatch h)⟩
theorem r_orL {f g : D → D → Option D} (h : ∃ z, f x y = some z ∧ Φ z) : ∃ z, orD f g x y = some z ∧ Φ z := by
  obtain ⟨z, e, p⟩ := h
  exact ⟨z, by show (match f x y with | some z => some z | none => g x y) = _; rw [e], p⟩
theorem r_orR {f g : D → D → Option D} (n : f x y = none) (h : ∃ z, g x y = some z ∧ Φ z) : ∃ z, orD f g x y = some z ∧ Φ z := by
  obtain ⟨z, e, p⟩ := h
  exact ⟨z, by show (match f x y with | some z => some z | none => g x y) = _; rw [n]; exact e, p⟩
theorem r_orEqS {g : D → D → Option D} {a b : Str} (p : Φ (.bl (decide (a = b)))) : ∃ z, orD eqD g (.str a) (.str b) = some z ∧ Φ z := r_orL (r_eqS p)
theorem r_orNeS {g : D → D → Option D} {a b : Str} (p : Φ (.bl !(decide (a = b)))) : ∃ z, orD neD g (.str a) (.str b) = some z ∧ Φ z := r_orL (r_neS p)
theorem r_orEqI {g : D → D → Option D} (p : Φ (.bl (decide (i = j)))) : ∃ z, orD eqD g (.int i) (.int j) = some z ∧ Φ z := r_orL (r_eqI p)
theorem r_orNeI {g : D → D → Option D} (p : Φ (.bl !(decide (i = j)))) : ∃ z, orD neD g (.int i) (.int j) = some z ∧ Φ z := r_orL (r_neI p)
theorem r_eqIns {cs : List Str} {tb : ITab} {c : Str} {F : FF} {neg : Bool} {gs : List (Str × D)} (h1 : behind c tb y = true) (h2 : inCs cs y = true) (e : F [.val (.ins c gs), .val y] = some (.ok (.val (.bl b)) none)) (p : Φ (.bl (neg != b))) : ∃ z, eqI cs tb c F neg (.ins c gs) y = some z ∧ Φ z :=
  ⟨_, by unfold eqI; dsimp only; rw [if_pos ⟨rfl, h1, h2⟩, e], p⟩
theorem eqB_ins {c : Str} {gs : List (Str × D)} : eqB (.ins c gs) y = none := by
  show (if okEq (.ins c gs) = true ∧ okEq y = true then some (PyData.eqv (py (.ins c gs)) (py y)) else none) = none
  exact if_neg fun h => by cases h.1
theorem r_orIns {cs : List Str} {tb : ITab} {c : Str} {F : FF} {gs : List (Str × D)} (h1 : behind c tb y = true) (h2 : inCs cs y = true) (e : F [.val (.ins c gs), .val y] = some (.ok (.val (.bl b)) none)) (p : Φ (.bl b)) : ∃ z, orD eqD (eqI cs tb c F false) (.ins c gs) y = some z ∧ Φ z :=
  r_orR (by unfold eqD; rw [eqB_ins]; rfl) (r_eqIns h1 h2 e (by cases b <;> exact p))
theorem boolsOf_true : ∀ {acc : List D}, (∀ b ∈ acc, b = .bl true) → boolsOf acc = some (acc.map fun _ => true)
  | [], _ => rfl
  | d :: ds, h => by
    rw [h d List.mem_cons_self]
    show (boolsOf ds).map _ = _
    rw [boolsOf_true fun b hb => h b (List.mem_cons_of_mem _ hb)]; rfl
theorem allD_true {acc : List D} (h : ∀ b ∈ acc, b = .bl true) : allD [.lst acc] = some (.bl true) := by
  show (boolsOf acc).map _ = _
  rw [boolsOf_true h]
  show some (D.bl _) = _
  congr 2
  rw [List.all_eq_true]
  intro b hb
  obtain ⟨_, _, e⟩ := List.mem_map.mp hb
  exact e.symm
theorem mem_snoc {α : Type} {acc : List α} {y : α} {P : α → Prop} (h : ∀ b ∈ acc, P b) (hy : P y) : ∀ b ∈ acc ++ [y], P b := fun b hb => by
  rcases List.mem_append.mp hb with h' | h'
  · exact h b h'
  · rw [List.mem_singleton.mp h']; exact hy
theorem r_lenT {z : Str} (h : z.length ≤ 16777216) (p : Φ (.int z.length)) : ∃ w, lenD [.str z] = some w ∧ Φ w := ⟨_, by show (if z.length ≤ 16777216 then _ else none) = _; rw [if_pos h], p⟩
theorem tt_intro {P Q : Prop} (p : P) : (true = true → P) ∧ (true = false → Q) := ⟨fun _ => p, fun h => (nomatch h)⟩
theorem ff_intro {P Q : Prop} (q : Q) : (false = true → P) ∧ (false = false → Q) := ⟨fun h => (nomatch h), fun _ => q⟩
variable {Γ Γw : EnvF} {ΦL : List D → EnvF → Prop} {fa : FE} {ft : FT} {g : D → FM Unit} {vs : List Nat} {d : D} {ds acc : List D}
theorem xl_nil (h : ΦL acc Γ) : X (lcL g ft fa vs [] acc) Γ ΦL := ⟨_, _, rfl, h⟩
theorem xl_cons (ho : (vs.all fun v => !isOwn (Γ.getD v .no)) = true) (h : ∃ Γw, wipeF Γ vs = Γw ∧ X (g d) Γw fun _ Γ1 => X ft Γ1 fun k Γ2 =>
    (k = true → X (fV fa) Γ2 fun y Γ3 => ∃ Γ4, backF Γ Γ3 vs = Γ4 ∧ Γ4.map isOwn = Γ.map isOwn ∧ X (lcL g ft fa vs ds (acc ++ [y])) Γ4 ΦL) ∧
    (k = false → ∃ Γ4, backF Γ Γ2 vs = Γ4 ∧ Γ4.map isOwn = Γ.map isOwn ∧ X (lcL g ft fa vs ds acc) Γ4 ΦL)) : X (lcL g ft fa vs (d :: ds) acc) Γ ΦL := by
  obtain ⟨_, ew, p⟩ := h
  subst ew
  have t : X (lcTurn g ft fa d acc) (wipeF Γ vs) fun acc' Γ3 => (backF Γ Γ3 vs).map isOwn = Γ.map isOwn ∧ X (lcL g ft fa vs ds acc') (backF Γ Γ3 vs) ΦL := x_bind (p.imp fun _ _ p => x_bind (p.imp fun k g2 p => by
    cases k with
    | true =>
      rw [if_pos rfl]
      exact x_bind ((p.1 rfl).imp fun y g3 p => by obtain ⟨_, e, p⟩ := p; subst e; exact x_pure p)
    | false =>
      obtain ⟨_, e, p⟩ := p.2 rfl
      subst e
      rw [if_neg (by simp)]; exact x_pure p))
  obtain ⟨acc', Γ3, e, e2, r, Γe, e3, pe⟩ := t
  exact ⟨r, Γe, by unfold lcL; rw [e]; simp only [ho, e2, and_self, if_pos]; exact e3, pe⟩
end
end DF

set_option linter.all false
set_option maxRecDepth 100000
set_option maxHeartbeats 4000000
namespace DF
open PySem PySem.Spec PyProof.Rows L2 TL NumText
variable [TbC]
section
variable {X : Cx}
/-! ### more methods of texts -/
theorem mt_swapcase : MtR X "str.swapcase" (fun x xs H Q => ∃ a, x = .str a ∧ xs = [] ∧ Builtin.Str.tooLong (Txt.swapcase a).length = false ∧ Q (.str (Txt.swapcase a)) H) :=
  mt0 (C := fun a => Builtin.Str.tooLong (Txt.swapcase a).length = false) (g := fun a => .str (Txt.swapcase a)) fun _ _ s _ hc h => PySem.SC.swapcase hc (h _ _ ⟨_, rfl⟩)
end
abbrev rM0 (C : Str → Prop) (g : Str → V) : V → List V → Hp → VK → Prop := fun x xs H Q => ∃ a, x = .str a ∧ xs = [] ∧ C a ∧ Q (g a) H
def lowerD : D → List D → Option D := fun x xs => match x, xs with | .str a, [] => if decide (a.length ≤ 5592405) = true then some (.str (Txt.lower a)) else none | _, _ => none
def upperD : D → List D → Option D := fun x xs => match x, xs with | .str a, [] => if decide (a.length ≤ 5592405) = true then some (.str (Txt.upper a)) else none | _, _ => none
def swapD : D → List D → Option D := fun x xs => match x, xs with | .str a, [] => if (!Builtin.Str.tooLong (Txt.swapcase a).length) = true then some (.str (Txt.swapcase a)) else none | _, _ => none
def islowD : D → List D → Option D := fun x xs => match x, xs with | .str a, [] => if true = true then some (.bl (Txt.islower a)) else none | _, _ => none
section
variable {K : PySem.W.Frag} {G G' H H' H0 H1 G1 : Hp} {P : List Addr} {σ σ' : L2.St} {Γ Γ' Γ1 : EnvF} {L L' L1 : List (Addr × OD)} {c c' c1 : Ow} {W : WX}
variable {ta tb te to ti : TE} {t tr tk : TA} {fa fb fc fe fo fi : FE} {fs fr fk : FA} {tt tu : TT} {ft fu : FT} {E : XK} {ts tw : TS} {fS fT : FS}
theorem sim_lower : SimM K (rM0 (fun a => a.length ≤ 5592405) fun a => V.str (Txt.lower a)) lowerD := sim_m0 (C := fun a => a.length ≤ 5592405) (B := fun a => decide (a.length ≤ 5592405)) (g := fun a => V.str (Txt.lower a)) (f := fun a => D.str (Txt.lower a)) (fun _ h => of_decide_eq_true h) fun _ _ => .str _
theorem sim_upper : SimM K (rM0 (fun a => a.length ≤ 5592405) fun a => V.str (Txt.upper a)) upperD := sim_m0 (C := fun a => a.length ≤ 5592405) (B := fun a => decide (a.length ≤ 5592405)) (g := fun a => V.str (Txt.upper a)) (f := fun a => D.str (Txt.upper a)) (fun _ h => of_decide_eq_true h) fun _ _ => .str _
theorem sim_swap : SimM K (rM0 (fun a => Builtin.Str.tooLong (Txt.swapcase a).length = false) fun a => V.str (Txt.swapcase a)) swapD := sim_m0 (C := fun a => Builtin.Str.tooLong (Txt.swapcase a).length = false) (B := fun a => !Builtin.Str.tooLong (Txt.swapcase a).length) (g := fun a => V.str (Txt.swapcase a)) (f := fun a => D.str (Txt.swapcase a)) (fun _ h => by simpa using h) fun _ _ => .str _
theorem sim_islow : SimM K (rM0 (fun _ => True) fun a => V.bl (Txt.islower a)) islowD := sim_m0 (C := fun _ => True) (B := fun _ => true) (g := fun a => V.bl (Txt.islower a)) (f := fun a => D.bl (Txt.islower a)) (fun _ _ => trivial) fun _ _ => .bl _
/-! ### or, and on values that are no truth values -/
def fOrU (a b : FE) : FE := FM.bind (fV a) fun x => match truD x with
  | some true => FM.pure (.val x)
  | some false => b
  | none => fFail
def fAndU (a b : FE) : FE := FM.bind (fV a) fun x => match truD x with
  | some true => b
  | some false => FM.pure (.val x)
  | none => fFail
/-! ### x in a list -/
def anyIn (x : D) (ds : List D) : Option Bool := if okEq x = true ∧ okEq (.lst ds) = true then some ((pyL ds).any fun z => PyData.eqv z (py x)) else none
def inLD : D → D → Option D
  | x, .lst ds => (anyIn x ds).map D.bl
  | _, _ => none
def notInLD : D → D → Option D
  | x, .lst ds => (anyIn x ds).map fun b => D.bl !b
  | _, _ => none
theorem sim_notInL : SimR2 K (L2.rNotInD K) notInLD := by
  intro x y z e G H u v i hu hv Q q
  have bs := i
  have i := bs.i
  cases y with
  | lst ds =>
    have e : (anyIn x ds).map (fun b => D.bl !b) = some z := e
    simp only [Option.map_eq_some_iff] at e
    obtain ⟨b, eb, ez⟩ := e
    subst ez
    unfold anyIn at eb
    split at eb
    · rename_i h
      obtain ⟨p1, s1⟩ := okEq_and h.1
      obtain ⟨p2, s2⟩ := okEq_and h.2
      cases eb
      exact ⟨_, pyL ds, At.dp i x hu p1, At.dp i (.lst ds) hv p2, s1, s2, q _ G H (PG.refl i) (.bl _)⟩
    · cases eb
  | _ => cases e
/-! ### len and bool by one's own methods -/
structure LenC (K : PySem.W.Frag) (C f : Addr) : Prop where
  lnF : PySem.W.findIn K (.ref C) "__len__" = some (some (.ref f))
  isF : PySem.W.isFn K (.ref f) = true
def rLenI (C : Addr) (sp : Sp) : List V → Hp → VK → Prop := fun xs H Q => ∃ a dx fs, xs = [.ref a] ∧ H a = some (.ins C dx fs) ∧ sp [.ref a] H (fun v H' => ∃ n : Int, v = .int n ∧ (0 ≤ n ∧ n < 2 ^ 63) ∧ Q (.int n) H') fun _ _ _ => False
end
end DF

set_option linter.all false
set_option maxRecDepth 100000
set_option maxHeartbeats 4000000
namespace DF
open PySem PySem.Spec PyProof.Rows L2 TL NumText
variable [TbC]
section
variable {X : Cx} {K : PySem.W.Frag}
theorem notInD_K (hK : X.K = K) (hu : X.A.units + 65 < cLine) : OpR X (compareOp .NotIn) (L2.rNotInD K) := by subst hK; exact op_notInD hu
end
section
variable {K : PySem.W.Frag} {G G' H H' H0 H1 G1 : Hp} {P : List Addr} {σ σ' : L2.St} {Γ Γ' Γ1 : EnvF} {L L' L1 : List (Addr × OD)} {c c' c1 : Ow} {W : WX}
variable {ta tb te to ti : TE} {t tr tk : TA} {fa fb fc fe fo fi : FE} {fs fr fk : FA} {tt tu : TT} {ft fu : FT} {E : XK} {ts tw : TS} {fS fT : FS}
def enumD (ds : List D) : List D := (List.range ds.length).map fun i => .tup [.int (i : Nat), ds.getD i .non]
def zipD (as bs : List D) : List D := (as.zip bs).map fun p => .tup [p.1, p.2]
/-- a list, a value -/
def lstOfD : D → Option (List D)
  | .lst ds => some ds
  | .scr ns => some (ns.map .int)
  | _ => none
def wEnum (f : FA) : FW := FM.bind (fVs f) fun | [x] => fOf ((lstOfD x).map enumD) | _ => fFail
def wZip (f : FA) : FW := FM.bind (fVs f) fun | [x, y] => fOf ((lstOfD x).bind fun a => (lstOfD y).map fun b => zipD a b) | _ => fFail
end
end DF

set_option linter.all false
set_option maxRecDepth 100000
set_option maxHeartbeats 4000000
namespace DF
open PySem PySem.Spec PyProof.Rows L2 TL NumText
variable [TbC]
open PySem.Sem (wp)
/-! ### bool by one's own __bool__ -/
structure BoOC (K : PySem.W.Frag) (C f : Addr) : Prop where
  b : PySem.W.findIn K (.ref C) "__bool__" = some (some (.ref f))
  isF : PySem.W.isFn K (.ref f) = true
section
variable {X : Cx}
def rBoO (C : Addr) (sp : Sp) : List V → Hp → VK → Prop := fun xs H Q => ∃ a dx fs, xs = [.ref a] ∧ H a = some (.ins C dx fs) ∧ sp [.ref a] H (fun v H' => ∃ b, v = .bl b ∧ Q (.bl b) H') fun _ _ _ => False
end
section
variable {K : PySem.W.Frag} {G G' H H' H0 H1 G1 : Hp} {P : List Addr} {σ σ' : L2.St} {Γ Γ' Γ1 : EnvF} {L L' L1 : List (Addr × OD)} {c c' c1 : Ow} {W : WX}
def lenI (cn : Str) (F : FF) : List D → Option D
  | [.ins c gs] => if c = cn then (match F [.val (.ins c gs)] with
    | some (.ok (.val (.int n)) none) => if 0 ≤ n ∧ n < 2 ^ 63 then some (.int n) else none
    | _ => none) else none
  | _ => none
def boolO (cn : Str) (F : FF) : List D → Option D
  | [.ins c gs] => if c = cn then (match F [.val (.ins c gs)] with
    | some (.ok (.val (.bl b)) none) => some (.bl b)
    | _ => none) else none
  | _ => none
/-! ### a text in a tuple of texts -/
def inTD : D → D → Option D
  | .str a, .tup ds => (joinD.strsOf ds).map fun bs => .bl (decide (a ∈ bs))
  | .str a, .lst ds => (joinD.strsOf ds).map fun bs => .bl (decide (a ∈ bs))
  | _, _ => none
end
section
variable {X : Cx} {K : PySem.W.Frag}
end
end DF

set_option linter.all false
set_option maxRecDepth 100000
set_option maxHeartbeats 4000000
namespace DF
open PySem PySem.Spec PyProof.Rows L2 TL NumText
variable [TbC]
/-! ### a text so many times, none or once too -/
section
variable {X : Cx}
theorem repS_one (z : Str) : repS z 1 = z := by
  obtain ⟨c⟩ := z
  show (⟨#[] ++ c⟩ : Str) = ⟨c⟩
  rw [Array.empty_append]
theorem op_mul_strA : OpR X (binaryOp .Mult) (fun x y H Q => ∃ z k, x = .str z ∧ y = .int k ∧ 0 ≤ k ∧ k ≤ 1000 ∧ z.length ≤ 4000 ∧ Q (.str (repS z k)) H) := by
  intro pins s σ H x y v u Q I rx ry h
  obtain ⟨z, k, rfl, rfl, h1, h2, h3, q⟩ := h
  by_cases hk : 2 ≤ k
  · exact op_mul_str pins s σ H _ _ v u Q I rx ry ⟨z, k, rfl, rfl, hk, h2, h3, q⟩
  obtain ⟨t, rfl⟩ := rx
  obtain ⟨t', rfl⟩ := ry
  have hs : (4000000 : Nat) ≤ sizeLine := by decide
  have hmul : z.length * k.toNat ≤ 4000000 := Nat.le_trans (Nat.mul_le_mul h3 (show k.toNat ≤ 1000 by omega)) (by decide)
  refine PySem.P.mul_str (x := z) (n := k) (t := t) (u := t') ?_ (fun h0 h4 => ?_) (fun h0 h4 => ?_) ?_
  · have e1 : decide (k < -(2 ^ 63 : Int)) = false := decide_eq_false (by omega)
    have e2 : decide (k ≥ 2 ^ 63) = false := decide_eq_false (by omega)
    rw [e1, e2]; rfl
  · exfalso
    simp at h4
    omega
  · exfalso
    simp at h4
    omega
  · by_cases hz : k = 0
    · subst hz
      rw [if_pos (by decide)]
      exact ⟨by decide, .str _, H, I.tok _, ⟨_, rfl⟩, q⟩
    · have : k = 1 := by omega
      subst this
      rw [repS_one] at q
      rw [if_neg (by decide), if_pos (by rfl)]
      exact ⟨.str z, H, I, ⟨_, rfl⟩, q⟩
end
section
variable {K : PySem.W.Frag}
def mulSA : D → D → Option D
  | .str z, .int k => if 0 ≤ k ∧ k ≤ 1000 ∧ z.length ≤ 4000 then some (.str (repS z k)) else none
  | _, _ => none
abbrev rMulSA : R2 := fun x y H Q => ∃ z k, x = .str z ∧ y = .int k ∧ 0 ≤ k ∧ k ≤ 1000 ∧ z.length ≤ 4000 ∧ Q (.str (repS z k)) H
theorem sim_mulSA : SimR2 K rMulSA mulSA := by
  intro x y z e G H u v i hu hv Q q
  have bs := i
  have i := bs.i
  unfold mulSA at e
  split at e
  · split at e
    · rename_i h; cases e; cases hu; cases hv; exact ⟨_, _, rfl, rfl, h.1, h.2.1, h.2.2, q _ G H (PG.refl i) (.str _)⟩
    · cases e
  · cases e
variable {x y z : D} {Φ : D → Prop}
theorem r_mulSA {z : Str} {k : Int} (h0 : 0 ≤ k) (h1 : k ≤ 1000) (h2 : z.length ≤ 4000) (p : Φ (.str (repS z k))) : ∃ w, mulSA (.str z) (.int k) = some w ∧ Φ w := ⟨_, by show (if _ then _ else none) = _; rw [if_pos ⟨h0, h1, h2⟩], p⟩
end
end DF

set_option linter.all false
set_option maxRecDepth 100000
set_option maxHeartbeats 4000000
namespace DF
open PySem PySem.Spec PyProof.Rows L2 TL NumText
variable [TbC]
theorem units65 {A : Around} {k : Nat} (hr : Room k A) : A.units + 65 < cLine := by have := hr.un; omega
/-! ### != of lists and tuples whose items are equal by an own == -/
section
open PySem.SeqAt AutoSeq1 MeetsSeq MeetsSeq2 MeetsSeq3 SeqRoads2
variable {prog : Program} {w : World} {A : Around} {R : Result → Shared → Prop}
end
section
open PySem.SeqAt AutoSeq1 MeetsSeq MeetsSeq2 MeetsSeq3 SeqRoads2
variable {prog : Program} {w : World} {A : Around} {E : Value → Shared → Prop} {s : Shared}
end
/-! ### data that is equal item by item, instances by their own == -/
def flatD : D → Option V
  | .non => some .non | .bl b => some (.bl b) | .int i => some (.int i) | .str z => some (.str z) | _ => none
def flatE (x y : D) : Bool := match flatD x, flatD y with
  | some a, some b => L2.flatV a && L2.flatV b && L2.eqV a b
  | _, _ => false
def insE (cn : Str) (F : FF) (x y : D) : Bool := match x, y with
  | .ins c gs, .ins c' gs' => decide (c = cn) && decide (c' = cn) && (match F [.val (.ins c gs), .val (.ins c' gs')] with
    | some (.ok (.val (.bl true)) none) => true
    | _ => false)
  | _, _ => false
def allE (f : D → D → Bool) : List D → List D → Bool
  | [], [] => true
  | x :: xs, y :: ys => f x y && allE f xs ys
  | _, _ => false
def deepS (f : D → D → Bool) (x y : D) : Bool := match x, y with
  | .lst xs, .lst ys => allE f xs ys
  | .tup xs, .tup ys => allE f xs ys
  | _, _ => false
def deepE (cn : Str) (F : FF) : Nat → D → D → Bool
  | 0, x, y => flatE x y || insE cn F x y
  | m + 1, x, y => deepE cn F m x y || deepS (deepE cn F m) x y
/-- == and != where all is equal -/
def eqS (cn : Str) (F : FF) (neg : Bool) (x y : D) : Option D := match x, y with
  | .lst xs, .lst ys => if allE (deepE cn F 2) xs ys = true then some (.bl !neg) else none
  | .tup xs, .tup ys => if allE (deepE cn F 2) xs ys = true then some (.bl !neg) else none
  | _, _ => none
section
variable {K : PySem.W.Frag} {G G' H H' H0 H1 G1 : Hp}
def insR (K : PySem.W.Frag) (cn : Str) (F : FF) (a b : Addr) (H : Hp) : Prop := ∃ G gs gs', Ext G H ∧ NoT G ∧ At K G (.ref a) (.ins cn gs) ∧ At K G (.ref b) (.ins cn gs') ∧ F [.val (.ins cn gs), .val (.ins cn gs')] = some (.ok (.val (.bl true)) none)
def EqvD (K : PySem.W.Frag) (C : Addr) (cn : Str) (F : FF) : Nat → Eqv
  | 0 => fun x y H => DFlat x y H ∨ DIns C (insR K cn F) x y H
  | m + 1 => fun x y H => EqvD K C cn F m x y H ∨ (DList (EqvD K C cn F m) x y H ∨ DTup K (EqvD K C cn F m) x y H)
abbrev rEqS (K : PySem.W.Frag) (C : Addr) (cn : Str) (F : FF) (neg : Bool) : R2 := fun x y H Q => (DList (EqvD K C cn F 2) x y H ∨ DTup K (EqvD K C cn F 2) x y H) ∧ ∀ H', Ext H H' → Q (.bl !neg) H'
end
section
variable {X : Cx} {n : Nat} {D' : Eqv}
theorem RcG.or {D1 D2 : Eqv} (h : RcG X n D1) (k : RcG X n D2) : RcG X n (fun x y H => D1 x y H ∨ D2 x y H) := fun A pins s σ H x y u v sb I rx ry d => by
  rcases d with d | d
  · exact h A pins s σ H x y u v sb I rx ry d
  · exact k A pins s σ H x y u v sb I rx ry d
/-- != gives False -/
def RnG (X : Cx) (n : Nat) (D : Eqv) : Prop :=
  ∀ (A : Around) (pins : List (Addr × Obj)) (s : Shared) (σ : L2.St) (H : Hp) (x y : V) (u v : Value), Sub X n A → Inv X pins σ H s → RelV x u → RelV y v → D x y H →
    wpAny (model X.prog X.w) A (richCompare .NotEq u v) (fun r s' => r = .bool false ∧ ∃ H', Inv X pins σ H' s' ∧ Ext H H') X.xe s
theorem RnG.or {D1 D2 : Eqv} (h : RnG X n D1) (k : RnG X n D2) : RnG X n (fun x y H => D1 x y H ∨ D2 x y H) := fun A pins s σ H x y u v sb I rx ry d => by
  rcases d with d | d
  · exact h A pins s σ H x y u v sb I rx ry d
  · exact k A pins s σ H x y u v sb I rx ry d
variable {C f : Addr} {fd : FuncData} {ps : List Str} {F : FF} {cn : Str}
end
end DF

set_option linter.all false
set_option maxRecDepth 100000
set_option maxHeartbeats 4000000
namespace DF
open PySem PySem.Spec PyProof.Rows L2 TL NumText
variable [TbC]
section
variable {K : PySem.W.Frag} {G G' H H' H0 H1 G1 : Hp} {P : List Addr} {σ σ' : L2.St} {Γ Γ' Γ1 : EnvF} {L L' L1 : List (Addr × OD)} {c c' c1 : Ow} {W : WX}
variable {t : TA} {fs : FA}
/-! ### x, y = a, [..]: the second one's own -/
def fParO (i j : Nat) (f : FA) : FS := FM.bind f fun vs Γ => match vs with
  | [.val x, .own o] => some (.ok .nx ((Γ.set i (.val x)).set j (.own 0 o)))
  | _ => none
theorem sim_parO {i j : Nat} (h : SimA K W t fs) : SimS K W (tPar i j t) (fParO i j fs) := fun P σ c G H Γ L s r e Dn post => by
  rcases FM.bind_some e with ⟨vs, Γ1, e1, e2⟩ | ⟨cn, f, d, Γ1, e1, er⟩
  · refine h P σ c G H Γ L s _ e1 _ ?_
    intro b c1 G1 H1 L1 g1 s1 e1' r1
    split at e2
    · rename_i x o
      cases e2
      cases r1 with
      | @cons u _ us _ h1 l =>
        cases l with
        | @cons v _ us _ h2 l =>
          cases l
          obtain ⟨La, sa, na⟩ := s1.val i h1
          obtain ⟨p, q1, q2, q3, q4⟩ := h2
          obtain ⟨L2, s2, n2⟩ := sa.put (H0 := H) (v := .own o) (i := j) ⟨p, q1, q2, fun z => q3 ((na.map _).subset z), q4⟩ (fun b hb => s.pa b (by simpa using hb)) rfl
          exact ⟨u, v, rfl, post.nx _ rfl _ c1 G1 H1 L2 g1 s2 fun x hx => (n2 x hx).elim (fun z => .inl (by
            have z : x.1 ∈ La.map (·.1) := z
            have := (na.map _).subset z
            unfold TL at *
            rwa [e1'] at this)) .inr⟩
    · cases e2
  · subst er
    exact h P σ c G H Γ L s _ e1 _ (post.ex cn f d Γ1 rfl)
/-! ### min of a list, sorted texts, find -/
def minL : List Int → Int
  | [] => 0
  | [a] => a
  | a :: b :: r => min a (minL (b :: r))
theorem minL_mem : ∀ {l : List Int}, l ≠ [] → minL l ∈ l
  | [], h => absurd rfl h
  | [a], _ => List.mem_singleton.mpr rfl
  | a :: b :: r, _ => by
    have ih := minL_mem (l := b :: r) (by simp)
    show min a (minL (b :: r)) ∈ a :: b :: r
    rw [Int.min_def]
    split
    · exact List.mem_cons_self
    · exact List.mem_cons_of_mem _ ih
theorem minL_le : ∀ {l : List Int} {y : Int}, y ∈ l → minL l ≤ y
  | [a], y, h => by rw [List.mem_singleton.mp h]; exact Int.le_refl _
  | a :: b :: r, y, h => by
    show min a (minL (b :: r)) ≤ y
    rcases List.mem_cons.mp h with rfl | h
    · exact Int.min_le_left _ _
    · exact Int.le_trans (Int.min_le_right _ _) (minL_le h)
def minOf : List D → Option D
  | [.lst ds] => (intsOf ds).bind fun bs => if bs = [] then none else some (.int (minL bs))
  | _ => none
theorem sim_minOf : SimC K (rMin K) minOf := by
  intro xs z e G H us i l Q q
  have bs := i
  have i := bs.i
  unfold minOf at e
  split at e
  · simp only [Option.bind_eq_some_iff] at e
    obtain ⟨bs, eb, ez⟩ := e
    split at ez
    · cases ez
    · rename_i hb
      cases ez
      obtain ⟨u, eu, h⟩ := atl1 l; subst eu
      cases h with
      | lst hp l =>
        have := ints_at l eb
        subst this
        refine ⟨_, bs, rfl, ext_lst i hp, List.length_pos_iff.mpr hb, fun m hm hle => ?_⟩
        have : m = minL bs := Int.le_antisymm (hle _ (minL_mem hb)) (minL_le hm)
        rw [this]
        exact q _ G H (PG.refl i) (.int _)
  · cases e
theorem min_K {X : Cx} (hK : X.K = K) (hc : X.calm = true) : CallR X (.builtin "min") (rMin K) := by subst hK; exact cr_min hc
/-- texts in order -/
def leS (a b : Str) : Bool := !(decide (b.cps.toList < a.cps.toList))
def sortS (l : List Str) : List Str := l.mergeSort leS
theorem leS_iff {a b : Str} : leS a b = true ↔ a.cps.toList ≤ b.cps.toList := by
  unfold leS
  rw [Bool.not_eq_true', decide_eq_false_iff_not, List.not_lt]
theorem str_ext {a b : Str} (h : a.cps.toList = b.cps.toList) : a = b := by
  cases a; cases b; simp at h; rw [h]
theorem leS_anti {a b : Str} (h : leS a b = true) (k : leS b a = true) : a = b := str_ext (List.le_antisymm (leS_iff.mp h) (leS_iff.mp k))
theorem leS_trans {a b c : Str} (h : leS a b = true) (k : leS b c = true) : leS a c = true := leS_iff.mpr (List.le_trans (leS_iff.mp h) (leS_iff.mp k))
theorem leS_total (a b : Str) : (leS a b || leS b a) = true := by
  rw [Bool.or_eq_true, leS_iff, leS_iff]
  exact List.le_total _ _
theorem rising_pair : ∀ {p : Str} {l : List Str}, risingS p l = true → List.Pairwise (fun a b => leS a b = true) (p :: l)
  | p, [], _ => List.pairwise_singleton _ _
  | p, x :: r, h => by
    rw [risingS.eq_2, Bool.and_eq_true, ltCps_eq] at h
    have ih := rising_pair h.2
    have h1 : leS p x = true := h.1
    refine List.pairwise_cons.mpr ⟨fun y hy => ?_, ih⟩
    rcases List.mem_cons.mp hy with rfl | hy
    · exact h1
    · exact leS_trans h1 ((List.pairwise_cons.mp ih).1 y hy)
theorem sorted_pair {l : List Str} (h : sortedS l = true) : List.Pairwise (fun a b => leS a b = true) l := by
  cases l with
  | nil => exact .nil
  | cons p r => exact rising_pair h
theorem sort_pair (l : List Str) : List.Pairwise (fun a b => leS a b = true) (sortS l) := List.pairwise_mergeSort (le := leS) (fun a b c => leS_trans) leS_total l
theorem sort_perm (l : List Str) : (sortS l).Perm l := List.mergeSort_perm l _
theorem sort_uniq {l m : List Str} (h : l.Perm m) (s : List.Pairwise (fun a b => leS a b = true) l) : l = sortS m :=
  List.Perm.eq_of_pairwise (fun a b _ _ => leS_anti) s (sort_pair m) (h.trans (sort_perm m).symm)
def sortSD : List D → Option D
  | [.lst ds] => (joinD.strsOf ds).bind fun bs => if bs.length < 64 then some (.lst ((sortS bs).map .str)) else none
  | _ => none
theorem sim_sortS : SimC K (rSortedS K) sortSD := by
  intro xs z e G H us i l Q q
  have bs := i
  have i := bs.i
  unfold sortSD at e
  split at e
  · simp only [Option.bind_eq_some_iff] at e
    obtain ⟨bs, eb, ez⟩ := e
    split at ez
    · rename_i hb
      cases ez
      obtain ⟨u, eu, h⟩ := atl1 l; subst eu
      cases h with
      | lst hp l =>
        have := strs_at l eb
        subst this
        refine ⟨_, bs, rfl, ext_lst i hp, hb, fun ys p h1 h2 hn => ?_⟩
        have : ys = sortS bs := sort_uniq h1 (sorted_pair h2)
        subst this
        have gn := PG.new (G := G) (o := .lst ((sortS bs).map V.str)) i hn
        exact q _ _ _ gn (.lst upd_same (atl_strs _))
    · cases ez
  · cases e
theorem sortS_K {X : Cx} (hK : X.K = K) : CallR X (.builtin "sorted") (rSortedS K) := by subst hK; exact cr_sortedS
def findD : D → List D → Option D := s1D fun a b => .int (Txt.find a b)
end
/-! ### texts in lists: equal, in -/
theorem okL_str : ∀ {L : List Str}, (∀ z ∈ L, ∀ c ∈ tl z, c < 1114112) → okL (L.map D.str)
  | [], _ => trivial
  | z :: L, h => ⟨h z List.mem_cons_self, okL_str fun x hx => h x (List.mem_cons_of_mem _ hx)⟩
theorem depL_str : ∀ L : List Str, depL (L.map D.str) = 0
  | [] => rfl
  | z :: L => by show max 0 (depL (L.map D.str)) = 0; rw [depL_str L]; rfl
theorem okEq_strs {L : List Str} (h : ∀ z ∈ L, ∀ c ∈ tl z, c < 1114112) : okEq (.lst (L.map D.str)) = true :=
  eq_okD (okL_str h : okD (.lst (L.map D.str))) (by show depL (L.map D.str) + 1 ≤ 64; rw [depL_str]; decide)
theorem okEq_str {z : Str} (h : ∀ c ∈ tl z, c < 1114112) : okEq (.str z) = true := eq_okD (x := .str z) h (by show 0 ≤ 64; decide)
theorem eqv_str {a b : Str} : PyData.eqv (.str a) (.str b) = decide (a = b) := by
  show (a == b) = _
  rw [Bool.eq_iff_iff, beq_iff_eq, decide_eq_true_iff]
theorem eqv_strs : ∀ {A B : List Str}, PyData.eqv (.list (pyL (A.map D.str))) (.list (pyL (B.map D.str))) = decide (A = B)
  | [], [] => rfl
  | [], _ :: _ => rfl
  | _ :: _, [] => rfl
  | a :: A, b :: B => by
    have ih := eqv_strs (A := A) (B := B)
    have e : PyData.eqv (.list (pyL ((a :: A).map D.str))) (.list (pyL ((b :: B).map D.str))) = (PyData.eqv (.str a) (.str b) && PyData.eqv (.list (pyL (A.map D.str))) (.list (pyL (B.map D.str)))) := rfl
    rw [e, ih, eqv_str]
    by_cases h : a = b <;> by_cases k : A = B <;> simp [h, k]
theorem r_eqStrs {A B : List Str} {Φ : D → Prop} (h : ∀ z ∈ A, ∀ c ∈ tl z, c < 1114112) (k : ∀ z ∈ B, ∀ c ∈ tl z, c < 1114112) (p : Φ (.bl (decide (A = B)))) : ∃ z, eqD (.lst (A.map D.str)) (.lst (B.map D.str)) = some z ∧ Φ z :=
  r_eq (okEq_strs h) (okEq_strs k) eqv_strs p
theorem any_strs {a : Str} {L : List Str} (ha : ∀ c ∈ tl a, c < 1114112) (h : ∀ z ∈ L, ∀ c ∈ tl z, c < 1114112) : anyIn (.str a) (L.map D.str) = some (decide (a ∈ L)) := by
  have e : ∀ L : List Str, ((pyL (L.map D.str)).any fun z => PyData.eqv z (py (.str a))) = decide (a ∈ L) := fun L => by
    induction L with
    | nil => rfl
    | cons x l ih =>
      show (PyData.eqv (.str x) (.str a) || (pyL (l.map D.str)).any fun z => PyData.eqv z (py (.str a))) = _
      rw [ih, eqv_str]
      by_cases h : x = a
      · subst h; simp
      · have : a ≠ x := fun z => h z.symm
        simp [h, this]
  unfold anyIn
  rw [if_pos ⟨okEq_str ha, okEq_strs h⟩, e L]
theorem r_notInStrs {a : Str} {L : List Str} {Φ : D → Prop} (ha : ∀ c ∈ tl a, c < 1114112) (h : ∀ z ∈ L, ∀ c ∈ tl z, c < 1114112) (p : Φ (.bl !(decide (a ∈ L)))) : ∃ z, notInLD (.str a) (.lst (L.map D.str)) = some z ∧ Φ z :=
  ⟨_, by show (anyIn _ _).map _ = _; rw [any_strs ha h]; rfl, p⟩
/-! ### steps -/
section
variable {Γ : EnvF} {fa : FE} {fs : FA} {fS : FS} {ΦS : Fl → EnvF → Prop} {Φ : D → Prop}
theorem x_parO {i j : Nat} (h : X fs Γ fun vs Γ' => ∃ x o, vs = [.val x, .own o] ∧ ∃ Γ2, (Γ'.set i (.val x)).set j (.own 0 o) = Γ2 ∧ ΦS .nx Γ2) : X (fParO i j fs) Γ ΦS := x_bind (h.imp fun d g p => by
  obtain ⟨x, y, e, Γ2, e2, p⟩ := p; subst e e2; exact ⟨_, _, rfl, p⟩)
theorem x_frz {i : Nat} {Γ' : EnvF} (e : frz i Γ = some Γ') (h : X fS Γ' ΦS) : X (fFrz i fS) Γ ΦS := by
  obtain ⟨v, g, e2, p⟩ := h
  exact ⟨v, g, by unfold fFrz; rw [e]; exact e2, p⟩
theorem ints_map : ∀ l : List Int, intsOf (l.map D.int) = some l
  | [] => rfl
  | i :: l => by show (intsOf (l.map D.int)).map (i :: ·) = _; rw [ints_map l]; rfl
theorem e_minOf {l : List Int} (h : l ≠ []) (p : Φ (.int (minL l))) : ∃ z, minOf [.lst (l.map D.int)] = some z ∧ Φ z :=
  ⟨_, by show (intsOf (l.map D.int)).bind _ = _; rw [ints_map]; exact if_neg h, p⟩
theorem strs_map : ∀ l : List Str, joinD.strsOf (l.map D.str) = some l
  | [] => rfl
  | i :: l => by show (joinD.strsOf (l.map D.str)).map (i :: ·) = _; rw [strs_map l]; rfl
theorem e_sortS {l : List Str} (h : l.length < 64) (p : Φ (.lst ((sortS l).map D.str))) : ∃ z, sortSD [.lst (l.map D.str)] = some z ∧ Φ z :=
  ⟨_, by show (joinD.strsOf (l.map D.str)).bind _ = _; rw [strs_map]; exact if_pos h, p⟩
end
end DF

set_option linter.all false
set_option maxRecDepth 100000
set_option maxHeartbeats 4000000
/-! except (A, B, ..) as e: clauses that name several classes, several such clauses -/
namespace TX
open PySem PySem.Spec PyProof.Rows L2
inductive EachX (K : PySem.W.Frag) (cls : Value) : List Value → List Bool → Prop
  | nil : EachX K cls [] []
  | cons {c : Value} {b : Bool} {cs : List Value} {bs : List Bool} : PySem.W.exmOne K cls c = some b → EachX K cls cs bs → EachX K cls (c :: cs) (b :: bs)
section
variable {M : Model} {A : Around} {E : Value → Shared → Prop} {s : Shared} {K : PySem.W.Frag} {h : Heap} {cls : Value}
end
/-- the expressions of clauses: a name, or a tuple of names -/
inductive NamesL (X : Cx) : List Expr → List Value → Prop
  | nil : NamesL X [] []
  | cons {x : Str} {c : Value} {np : Pos} {es : List Expr} {cs : List Value} : Names X x c → NamesL X es cs → NamesL X (.Name x np :: es) (c :: cs)
inductive ClsE (X : Cx) : Expr → List Value → Prop
  | one {x : Str} {c : Value} {np : Pos} : Names X x c → ClsE X (.Name x np) [c]
  | tup {es : List Expr} {cs : List Value} {k : Nat} {pos : Pos} : NamesL X es cs → cs.length ≤ 100 → ClsE X (.Tuple es k pos) cs
section
variable {X : Cx}
end
/-! ### clauses -/
abbrev Hd := List Value × Nat × (Addr → Value → Option Addr → TS)
def wHd (K : PySem.W.Frag) (Wout : WX) (D : Ends) : List Hd → WX
  | [] => Wout
  | (cs, i, ts) :: r => fun cls d σ H => ∃ bs, EachX K cls cs bs ∧
    (bs.any id = true → ∀ a, H a = none → ts a cls d { nx := fun σ' H' => D.nx (List.set σ' i none) H', rt := D.rt, bk := fun σ' H' => D.bk (List.set σ' i none) H', ct := fun σ' H' => D.ct (List.set σ' i none) H' } (List.set σ i (some (V.ref a))) H) ∧
    (bs.any id = false → wHd K Wout D r cls d σ H)
inductive HdT (X : Cx) : List ExceptHandler → List Hd → Prop
  | nil : HdT X [] []
  | cons {e : Expr} {cs : List Value} {n : Str} {i : Nat} {ts : Addr → Value → Option Addr → TS} {b₀ : Stmt} {suite : List Stmt} {pos' : Pos} {hds : List ExceptHandler} {l : List Hd} :
      ClsE X e cs → X.N[i]? = some n → X.env.kindOf n = some .local →
      (∀ (a : Addr) (oe : Obj) (cls : Value) (d : Option Addr) (pn : List (Addr × Obj)), Zc cls d oe → (∃ vs, oe.data = Data.fields vs) → X.base.get? a = none → PSs (X.suite a ((a, oe) :: pn)) (b₀ :: suite) (ts a cls d)) →
      HdT X hds l → HdT X (ExceptHandler.ExceptHandler (some e) (some n) (b₀ :: suite) pos' :: hds) ((cs, i, ts) :: l)
section
variable {X : Cx} {Wout : WX} {D : Ends} {pins : List (Addr × Obj)} {σ : L2.St} {H : Hp} {sI : Shared} {B : Heap} {a : Addr} {cls : Value} {d : Option Addr}
end
end TX

set_option linter.all false
set_option maxRecDepth 100000
set_option maxHeartbeats 4000000
namespace TX
open PySem PySem.Spec PyProof.Rows L2
section
variable {X : Cx}
end
end TX

set_option linter.all false
set_option maxRecDepth 100000
set_option maxHeartbeats 4000000
/-! exceptions of one's own over ValueError, LookupError or ArithmeticError, made with an __init__ that stores -/
namespace TX
open PySem PySem.Spec PyProof.Rows L2
/-- over which built-in class an exception stands -/
inductive TlE : String → String → String → List Value → Prop
  | ve : TlE "ValueError" "ValueError.__new__" "ValueError.__init__" [.type "ValueError", .type "Exception", .type "BaseException", .type "object"]
  | le : TlE "LookupError" "LookupError.__new__" "LookupError.__init__" [.type "LookupError", .type "Exception", .type "BaseException", .type "object"]
  | ae : TlE "ArithmeticError" "ArithmeticError.__new__" "ArithmeticError.__init__" [.type "ArithmeticError", .type "Exception", .type "BaseException", .type "object"]
section
variable {B n i : String} {tl : List Value}
theorem TlE.base (h : TlE B n i tl) : ExcBaseFacts B n i tl := match h with
  | .ve => F.excBase_ValueError
  | .le => F.excBase_LookupError
  | .ae => F.excBase_ArithmeticError
theorem TlE.store (h : TlE B n i tl) : StoreFacts B tl "object.__setattr__" "object" := match h with
  | .ve => F.store_ValueError
  | .le => F.store_LookupError
  | .ae => F.store_ArithmeticError
end
structure OexT (K : PySem.W.Frag) (C : Addr) : Prop where
  t : ∃ B n i tl, TlE B n i tl ∧ PySem.W.excInitIn K C tl n = true ∧ PySem.W.excOver K C tl = true
  dct : PySem.W.hasDictIn K C = true
  set : PySem.W.findIn K (.ref C) "__setattr__" = some (some (.builtin "object.__setattr__"))
  sub : PySem.W.subIn K (.ref C) (.type "BaseException") = some true
  typ : PySem.W.typeIn K (.ref C) = some (.type "type")
  kept : PySem.W.keepIn K (.ref C) = true
section
variable {X : Cx} {pins : List (Addr × Obj)} {σ : L2.St} {H : Hp} {s : Shared} {a C : Addr} {f : Str} {y : V} {u : Value} {Q : Unit → Shared → Prop} {E : Value → Shared → Prop} {A : Around}
/-- the abstract heap behind the first store into the exception at a -/
def xo1 (H : Hp) (a C dx : Addr) (f : Str) (y : V) : Hp := upd (upd H dx (exd dx [(f, y)])) a (exo a C (some dx))
end
/-- what an __init__ that stores its one argument under f does -/
def spIni (K : PySem.W.Frag) (f : Str) : Sp := fun vs H Q _ => ∃ a C y, vs = [.ref a, y] ∧ OexT K C ∧ PySem.W.takerIn K C f = some none ∧ H a = some (exo a C none) ∧ ∀ dx, H dx = none → dx ≠ a → Q .non (xo1 H a C dx f y)
/-- .. and the statement in it -/
def tOstT (K : PySem.W.Frag) (f : Str) (to te : TE) : TS := fun D σ H => te σ H fun y H1 => to σ H1 fun x H2 => ∃ a C : Addr, x = .ref a ∧ OexT K C ∧ PySem.W.takerIn K C f = some none ∧
  H2 a = some (exo a C none) ∧ ∀ dx, H2 dx = none → dx ≠ a → D.nx σ (xo1 H2 a C dx f y)
section
variable {X : Cx} {o e : Expr} {to te : TE} {f : Str} {p' pos : Pos}
end
/-- C(e), and what the exception then is -/
def tMkT (C : Addr) (f : Str) (te : TE) : L2.St → Hp → XK → Prop := fun σ H Q => te σ H fun y H1 => ∀ dx, H1 dx = none → Q (.ref C) (some dx) (upd H1 dx (.xd [(f, y)]))
section
variable {X : Cx} {x : Str} {C fI : Addr} {k : Nat} {fd : FuncData} {ps : List Str} {f : Str} {p pos : Pos} {e : Expr} {te : TE}
end
end TX

set_option linter.all false
set_option maxRecDepth 100000
set_option maxHeartbeats 4000000
/-! f(lambda: e), f a def of one parameter: what stays of the heap is told, tables too -/
namespace TX
open PySem PySem.Spec PyProof.Rows L2 LamX
/-- all stays; tables stay tables -/
def ExtY (H H1 : Hp) : Prop := ∀ b o, H b = some o → H1 b = some o ∨ ∃ ps more, o = .tbl ps ∧ H1 b = some (.tbl more)
abbrev lamQ (X : Cx) : Str := X.env.qual ++ "<lambda>"
abbrev lamO (X : Cx) (params : Arguments) (body : Expr) (scope : Scope) (pm : Value) (c' : Addr) (ctv : Value) : Obj := PySem.W.kla_obj "<lambda>" (lamQ X) params body scope (cloFrom X.env.cells scope.names []) pm c' ctv
section
variable {X : Cx} {pins : List (Addr × Obj)} {σ : L2.St} {H : Hp} {s : Shared} {T : List (Addr × Str)} {c P : Addr} {params : Arguments} {body : Expr} {scope : Scope} {pos : Pos} {E Q : Value → Shared → Prop}
end
/-- a def that is called with a lambda: its body, as a term of rules over what act() does, and its function -/
structure LamD (P : Program) (w : World) (K : PySem.W.Frag) (mg : Str → Option Value) (base : Heap) (gd : Bool) (k : Nat) (x : Str) (sg : Scope) (g : Addr) (cdg : Value) (Ng : List Str) (bg : List Stmt) (a : Str) (B : DF.FE → DF.FS) : Prop where
  run : ∀ (A : Around) (out : List Env) (s : Shared) (H : Hp) (actT : WX → TE), Room k (A.deeper (envOfC x sg s.heap.objs.size g cdg)) → (gd = true → A.guards = some []) →
    (∀ (W : WX) (pn : List (Addr × Obj)) (xe : Value → Shared → Prop) (p1 p2 : Pos), Takes ((cxOf C8.CX0 P w K mg base Ng x sg g cdg A out s H C8.E0).nox.tr pn xe) W → PE ((cxOf C8.CX0 P w K mg base Ng x sg g cdg A out s H C8.E0).nox.tr pn xe) (.Call (.Name a p1) [] [] p2) (actT W)) →
    ∃ t : TS, PSs (cxOf C8.CX0 P w K mg base Ng x sg g cdg A out s H C8.E0).nox bg t ∧ ∀ (t1 : DF.TbC) (act : DF.FE), (∀ W, @DF.SimE t1 K W (actT W) act) → @DF.SimS t1 K DF.W0 t (B act)
/-- what is wanted of an error, at slots of whatever content -/
def EL (n : Nat) (W : WX) : XK := fun cls d H => ∀ σ : L2.St, σ.length = n → W cls d σ H
def actT (Ng : List Str) (q : Str) (f c' : Addr) (tl : XK → Hp → VK → Prop) : WX → TE := fun W σ H Q => σ[0]? = some (some (.ref f)) ∧ H c' = some (CodeO c' q) ∧ tl (EL Ng.length W) H Q
def tLamY (K : PySem.W.Frag) (T : List (Addr × Str)) (B : DF.FE → DF.FS) (Ng : List Str) (q : Str) (t : XK → TE) : TE := fun σ H Q => Tabs T H ∧ ∀ H1 f c', ExtY H H1 → Tabs T H1 → H1 f = none → H1 c' = some (CodeO c' q) →
  ∀ tS : TS, (∀ (t1 : DF.TbC) (act : DF.FE), (∀ W, @DF.SimE t1 K W (actT Ng q f c' (fun E H' Q' => t E σ H' Q') W) act) → @DF.SimS t1 K DF.W0 tS (B act)) → tS { nx := fun _ H' => Q .non H', rt := Q } (L2.start Ng [.ref f]) H1
section
variable {X : Cx}
end
end TX

set_option linter.all false
set_option maxRecDepth 100000
set_option maxHeartbeats 4000000
/-! raise, try and f(lambda: e) as functions on data -/
namespace DF
open PySem PySem.Spec PyProof.Rows L2 TX
section
variable [TbC]
variable {K : PySem.W.Frag} {G G' H H' H0 H1 G1 : Hp} {P : List Addr} {σ σ' : L2.St} {Γ Γ' Γ1 : EnvF} {L L' L1 : List (Addr × OD)} {c c' c1 : Ow} {W : WX} {te : TE} {fa : FE}
/-! raise C(e) -/
def fRaise (cn f : Str) (a : FE) : FS := FM.bind (fV a) fun d Γ => some (.ex cn f d Γ)
end
/-! ### from one set of lasting facts to another -/
def unX : Sl → Sl
  | .exc => .no
  | x => x
section
variable {K : PySem.W.Frag} {G G' H H' H0 H1 G1 : Hp} {P : List Addr} {σ σ' : L2.St} {Γ Γ' Γ1 : EnvF} {L L' L1 : List (Addr × OD)} {c c' c1 : Ow} {W : WX} {T : Addr → Prop}
/-- the facts of an error that is caught: its object at a, its dict -/
@[reducible] def TbC.ex (t : TbC) (K : PySem.W.Frag) (a dd : Addr) (f : Str) (fv : V) (d : D) : TbC := ⟨t.T, a, fun G H => t.Z G H ∧ H dd = some (.xd [(f, fv)]) ∧ At K G fv d,
  fun h e k => ⟨t.zm h.1 e k, k _ _ trivial h.2.1, h.2.2.mono e⟩⟩
end
/-! ### try -/
/-- clauses: the classes' names, the slot of the error, the suite by the error's class, field and value -/
abbrev Hf := List Str × Nat × (Str → Str → D → FS)
def isX (tb : List (Str × Str × Bool)) (c : Str) (x : Str) : Option Bool := (tb.find? fun e => e.1 == c && e.2.1 == x).map (·.2.2)
def isXs (tb : List (Str × Str × Bool)) (c : Str) : List Str → Option (List Bool)
  | [] => some []
  | x :: xs => match isX tb c x, isXs tb c xs with | some b, some bs => some (b :: bs) | _, _ => none
def handF (tb : List (Str × Str × Bool)) : List Hf → Str → Str → D → FS
  | [], c, f, d => fun Γ => some (.ex c f d Γ)
  | (cs, i, g) :: r, c, f, d => match isXs tb c cs with
    | none => fFail
    | some bs => if bs.any id = true then (fun Γ => match g c f d ((Γ.map unX).set i .exc) with
        | some (.ok (.rt v) Γ') => some (.ok (.rt v) (Γ'.map unX))
        | some (.ok fl Γ') => some (.ok fl ((Γ'.map unX).set i .no))
        | _ => none) else handF tb r c f d
def fTry (tb : List (Str × Str × Bool)) (hs : List Hf) (b : FS) : FS := fun Γ => match b Γ with
  | some (.ex c f d Γ') => handF tb hs c f d Γ'
  | r => r
section
variable {K : PySem.W.Frag}
def XTab (K : PySem.W.Frag) (tb : List (Str × Str × Bool)) : Prop := ∀ e ∈ tb, ∀ C D, CT K e.1 C → CT K e.2.1 D → PySem.W.exmOne K (.ref C) (.ref D) = some e.2.2
inductive NamedL (K : PySem.W.Frag) : List Str → List Value → Prop
  | nil : NamedL K [] []
  | cons {x : Str} {D : Addr} {xs : List Str} {vs : List Value} : CT K x D → NamedL K xs vs → NamedL K (x :: xs) (.ref D :: vs)
/-- a suite and its function -/
def SimH (K : PySem.W.Frag) (ts : Addr → Value → Option Addr → TS) (g : Str → Str → D → FS) : Prop :=
  ∀ (t : TbC) (C dd : Addr) (cn f : Str) (fv : V) (d : D), CT K cn C → (∀ G H, t.Z G H → H dd = some (.xd [(f, fv)]) ∧ At K G fv d) → @SimS t K W0 (ts t.xa (.ref C) (some dd)) (g cn f d)
inductive SimHs (K : PySem.W.Frag) : List Hd → List Hf → Prop
  | nil : SimHs K [] []
  | cons {xs : List Str} {vs : List Value} {i : Nat} {ts : Addr → Value → Option Addr → TS} {g : Str → Str → D → FS} {l : List Hd} {hs : List Hf} : NamedL K xs vs → SimH K ts g → SimHs K l hs → SimHs K ((vs, i, ts) :: l) ((xs, i, g) :: hs)
end
end DF

set_option linter.all false
set_option maxRecDepth 100000
set_option maxHeartbeats 4000000
/-! f(lambda: e) as a function on data -/
namespace DF
open PySem PySem.Spec PyProof.Rows L2 TX LamX
def hideO : Sl → Sl
  | .val d => .val d
  | _ => .no
def hasX : EnvF → Bool
  | .exc :: _ => true
  | _ => false
/-- act(), by what the lambda's body gave -/
def fAct (n : Nat) (r : Option (Rt Vr)) : FE := fun Γ => if hasX Γ = true then (match r with
  | some (.ok (.val d) _) => some (.ok (.val d) Γ)
  | some (.ex c f d _) => some (.ex c f d (List.replicate n .no))
  | _ => none) else none
def fLam (B : FE → FS) (n : Nat) (e : FE) : FE := fun Γ => match B (fAct n (e (Γ.map hideO))) (.exc :: List.replicate (n - 1) .no) with
  | some (.ok (.rt (.val d)) _) => some (.ok (.val d) Γ)
  | some (.ok .nx _) => some (.ok (.val .non) Γ)
  | _ => none
section
variable {K : PySem.W.Frag} {G G' H H' H0 H1 G1 : Hp} {P : List Addr} {σ σ' : L2.St} {Γ Γ' Γ1 : EnvF} {L L' L1 : List (Addr × OD)} {c c' c1 : Ow} {W : WX} {T : Addr → Prop}
/-- the facts in the def that got the lambda -/
@[reducible] def TbC.lam (t : TbC) (K : PySem.W.Frag) (σ : L2.St) (Γ : EnvF) (f c' : Addr) (q : Str) : TbC := ⟨t.T, f, fun G H => t.Z G H ∧ H c' = some (CodeO c' q) ∧ @EnvR t K G [] σ Γ [],
  fun h e k => ⟨t.zm h.1 e k, k _ _ (by unfold CodeO; trivial) h.2.1, h.2.2.mono e⟩⟩
end
section
variable {K : PySem.W.Frag} {W : WX}
end
end DF

set_option linter.all false
set_option maxRecDepth 100000
set_option maxHeartbeats 4000000
/-! a caught error asked; defs that raise; defs that make lambdas -/
namespace TX
open PySem PySem.Spec PyProof.Rows L2 LamX
/-- isinstance(e, c) of the error that a suite holds -/
def rIsX (K : PySem.W.Frag) (a : Addr) (cls : Value) (d : Option Addr) : List V → Hp → VK → Prop := fun xs H Q => ∃ (D dd : Addr) (c : V) (cv : Value) (b : Bool) (fs : List (Str × V)), cls = .ref D ∧ d = some dd ∧ ExcC K D ∧ (PySem.W.clsIn K D).isSome = true ∧
  xs = [.ref a, c] ∧ (∀ u, L2.RelV c u → u = cv) ∧ PySem.W.kitOne K (.ref D) cv = some b ∧ H dd = some (.xd fs) ∧ Q (.bl b) H
/-- e.f of it -/
def tXfE (K : PySem.W.Frag) (a : Addr) (cls : Value) (d : Option Addr) (n : Str) (i : Nat) : TE := fun σ H Q => σ[i]? = some (some (.ref a)) ∧ ∃ (C dd : Addr) (fs : List (Str × V)) (v : V), cls = .ref C ∧ XfC K C ∧ PySem.W.findIn K (.ref C) n = some none ∧ d = some dd ∧ H dd = some (.xd fs) ∧ fs.lookup n = some v ∧ Q v H
/-! what reaches whom -/
section
variable {P : Program} {w : World} {K : PySem.W.Frag} {mg : Str → Option Value} {base : Heap} {N : List Str} {q : Str} {sc : Scope} {f : Addr} {cd : Value} {A : Around} {out : List Env} {s : Shared} {H : Hp} {E : XK}
end
/-! defs whose code object is known -/
structure FunC (K : PySem.W.Frag) (x qual : Str) (st : Stmt) (f : Addr) (fd : FuncData) (c : Addr) : Prop where
  ex : ∃ (oc : Value) (od : Option Addr) (kV doc pm : Value) (an : Option Addr) (ct : Value) (osl : Array (Option Value)),
    fd = PySem.W.fnOf x qual (defArgs st) (defBody st) (defScope st) .none kV doc pm an (.ref c) ct ∧ K.lookup f = some ⟨oc, od, .func fd, osl⟩ ∧ PySem.W.codeIn K (.ref c) qual = true
  kp : PySem.W.keepIn K (.ref f) = true
theorem FunC.fun {K : PySem.W.Frag} {x qual : Str} {st : Stmt} {f : Addr} {fd : FuncData} {c : Addr} (F : FunC K x qual st f fd c) : Fun K x qual st f fd := by
  obtain ⟨oc, od, kV, doc, pm, an, ct, osl, e1, e2, e3⟩ := F.ex
  exact ⟨⟨oc, od, kV, doc, pm, an, .ref c, ct, osl, e1, e2, e3⟩, F.kp⟩
section
variable {P : Program} {w : World} {K : PySem.W.Frag} {mg : Str → Option Value} {base : Heap}
theorem FunC.ok {x qual : Str} {st : Stmt} {f c : Addr} {fd : FuncData} {N ps : List Str} {k : Nat} {sp : Sp} (F : FunC K x qual st f fd c) (S : FnScope N ps (defScope st)) (len : ∀ vs H Q E, sp vs H Q E → vs.length = ps.length)
    (body : ∀ (A : Around) (out : List Env) (s : Shared) (H : Hp) (vs : List V) (Q : VK) (E : XK), Room k (A.deeper (envOfC qual (defScope st) s.heap.objs.size f (.ref c))) → sp vs H Q E →
      ∃ t, PSs (cxOf CX0 P w K mg base N qual (defScope st) f (.ref c) A out s H E).nox (defBody st) t ∧ t { nx := fun _ H' => Q .non H', rt := Q } (start N vs) H) : FnOk P w K mg base CX0 (k + 1) f fd ps sp := by
  obtain ⟨oc, od, kV, doc, pm, an, ct, osl, rfl, at_f, code⟩ := F.ex
  refine fn_of at_f code S len fun A out s H vs Q E room want => ?_
  obtain ⟨t, rules, reading⟩ := body A out s H vs Q E room want
  exact ⟨t, rules.nox, reading⟩
end
end TX
namespace DF
open PySem PySem.Spec PyProof.Rows L2 TX LamX
section
variable {P : Program} {w : World} {K : PySem.W.Frag} {mg : Str → Option Value} {base : Heap} [TbC]
/-! the error that a suite holds -/
def KTab (K : PySem.W.Frag) (tb : List (Str × Str × Bool)) : Prop := ∀ e ∈ tb, ∀ C D, CT K e.1 C → CT K e.2.1 D → PySem.W.kitOne K (.ref C) (.ref D) = some e.2.2
structure ExF (K : PySem.W.Frag) (C : Addr) (f : Str) : Prop where
  ec : ExcC K C
  ci : (PySem.W.clsIn K C).isSome = true
  xf : XfC K C
  no : PySem.W.findIn K (.ref C) f = some none
/-- classes of errors and their fields -/
def LTab (K : PySem.W.Frag) (lv : List (Str × Str)) : Prop := ∀ e ∈ lv, ∀ C, CT K e.1 C → ExF K C e.2
def atX (i : Nat) (Γ : EnvF) : Bool := match Γ[i]? with
  | some .exc => true
  | _ => false
def isC (tb : List (Str × Str × Bool)) (lv : List (Str × Str)) (c f x : Str) (i : Nat) : FE := fun Γ => if (c, f) ∈ lv ∧ atX i Γ = true then (isX tb c x).map fun b => .ok (.val (.bl b)) Γ else none
def gvC (lv : List (Str × Str)) (c f n : Str) (d : D) (i : Nat) : FE := fun Γ => if (c, f) ∈ lv ∧ n = f ∧ atX i Γ = true then some (.ok (.val d) Γ) else none
variable {W : WX} {tb : List (Str × Str × Bool)} {lv : List (Str × Str)} {cn f x n : Str} {C D0 dd : Addr} {i : Nat} {fv : V} {d : D}
end
end DF
namespace TX
open PySem PySem.Spec PyProof.Rows L2 LamX
theorem LamD.mono {P : Program} {w : World} {K : PySem.W.Frag} {mg : Str → Option Value} {base : Heap} {gd : Bool} {k k' : Nat} {x : Str} {sg : Scope} {g : Addr} {cdg : Value} {Ng : List Str} {bg : List Stmt} {a : Str} {B : DF.FE → DF.FS}
    (h : LamD P w K mg base gd k x sg g cdg Ng bg a B) (le : k ≤ k') : LamD P w K mg base gd k' x sg g cdg Ng bg a B := ⟨fun A out s H aT room => h.run A out s H aT (room.mono le)⟩
end TX

set_option linter.all false
set_option maxRecDepth 100000
set_option maxHeartbeats 4000000
/-! the end of a law whose defs make lambdas: their tables are told -/
namespace DF
open PySem PySem.Spec PyProof.Rows L2 TX LamX
section
variable {P : Program} {w : World} {K : PySem.W.Frag} {mg mb : Str → Option Value} {k : Nat} {fa a : Addr} {fd : FuncData} {x : Str} {s : Shared} {vs : List Value} {ns : List Int} {cs : List (Addr × Addr)} {T : List (Addr × Str)}
@[reducible] def TbC.tabs (T : List (Addr × Str)) : TbC := ⟨T, 0, fun _ _ => True, fun _ _ _ => trivial⟩
theorem start_tabs (hT : ∀ p ∈ T, p.1 ∈ cs.map (·.2)) (KX : K.In s.heap) (hns : s.heap.Ns mainGlobals mg) (hb : s.heap.Ns builtinsNs mb) (hbb : ∀ x : Str, x ≠ "__name__" → mb x = bootBuiltins x) (hlim : s.heap.NoLimit) (hg : s.gens = #[])
    (empty : ∀ p ∈ cs, s.heap.get? p.2 = some (PySem.W.tabObj #[])) (new : ∀ p ∈ cs, K.lookup p.2 = none) (codes : ∀ p ∈ cs, PySem.W.CodeHd s.heap p.1 p.2)
    (blt : ∃ (bm : Addr) (ob : Obj), mg "__builtins__" = some (.ref bm) ∧ bm ≠ builtinsNs ∧ s.heap.get? bm = some ob ∧ ob.cls = .type "module" ∧ ob.dict = some builtinsNs ∧ ob.data = .plain)
    (ha : s.heap.get? a = some { cls := .type "list", data := .seq vs.toArray }) (hl : ns.length ≤ 63) (hr : Room k callerA)
    {FF0 : FF} (hF0 : ∀ ns : List Int, ns.length ≤ 63 → FF0 [.val (.scr ns)] = some (.ok (.val (.bl true)) none)) (F : ∀ base : Heap, K.In base → base.Ns mainGlobals mg → (∀ p ∈ cs, TabB base mg p.1 p.2) → FnG P w K mg base CX0 k fa fd [x] (@spF (TbC.tabs T) K FF0)) (hbind : ∀ (s : Shared) (u : Value), BindsTo s fd ⟨[u], []⟩ [(x, u)])
    (H : Hp) (hok : HOk P w H s.heap) (tabH : ∀ p ∈ cs, H p.2 = some (.tbl #[])) (hA : ∀ b, H b ≠ none → b = a ∨ b ∈ cs.map (·.2)) (hK : H a ≠ none → K.lookup a = none) (hf : ∀ o, H a = some o → ∃ ob, o = .frz ob (.lst (ns.map V.int))) (hS : Sc K (fun b => if b = a then H a else none) a ns) :
    codeAny (model P w) callerA (.call (.ref fa) ⟨[.ref a], []⟩) (fun r s' => r = .ok (.ret (.bool true)) ∧ OldK s.heap s'.heap ∧ s'.os = s.os ∧ AllBare s'.gens) s := by
  have tabAt : ∀ {b : Addr}, b ∈ cs.map (·.2) → s.heap.get? b = some (PySem.W.tabObj #[]) ∧ H b = some (.tbl #[]) := fun {b} hb => by
    obtain ⟨p, hp, rfl⟩ := List.mem_map.mp hb
    exact ⟨empty p hp, tabH p hp⟩
  -- what is neither the script nor a table is not told
  have kept : ∀ {b : Addr} {o : Obj}, s.heap.get? b = some o → (b = a → H a = none) → b ∉ cs.map (·.2) → (hidT s.heap H).get? b = some o := fun {b o} e z n => by
    refine hidT_get e ?_
    cases q : H b with
    | none => rfl
    | some u =>
      rcases hA b (by rw [q]; simp) with y | y
      · have := z y
        rw [y, this] at q; cases q
      · exact absurd y n
  have apart : ∀ {b : Addr} {o : Obj}, s.heap.get? b = some o → (∀ l n, o.data ≠ .seq l n) → o.data ≠ .fields #[] → (hidT s.heap H).get? b = some o := fun {b o} e n1 n2 => by
    refine kept e (fun z => ?_) fun z => ?_
    · rw [z, ha] at e
      cases Option.some.inj e
      exact absurd rfl (n1 _ _)
    · rw [(tabAt z).1] at e
      cases Option.some.inj e
      exact n2 rfl
  have dictK : ∀ {b : Addr} {m : Str → Option Value}, s.heap.Ns b m → (hidT s.heap H).Ns b m := fun {b m} hN => by
    obtain ⟨o, es, ep, e, d, rest⟩ := hN
    exact ⟨o, es, ep, apart e (fun _ _ z => by rw [d] at z; cases z) (fun z => by rw [d] at z; cases z), d, rest⟩
  have inB : K.In (hidT s.heap H) := fun b o e => by
    refine kept (KX b o e) (fun z => Classical.byContradiction fun y => ?_) fun z => ?_
    · rw [z, hK y] at e; cases e
    · obtain ⟨p, hp, rfl⟩ := List.mem_map.mp z
      rw [new p hp] at e; cases e
  have md : Mod K mg (hidT s.heap H) := ⟨inB, dictK hns, ⟨mb, dictK hb, hbb⟩, by obtain ⟨mc, q1, q2⟩ := hlim; exact ⟨mc, dictK q1, q2⟩⟩
  have tabB : ∀ p ∈ cs, TabB (hidT s.heap H) mg p.1 p.2 := fun p hp => by
    constructor
    · obtain ⟨o, us, fi, t1, fl, t2, b0, tx, t3, e1, e2, e3, e4, rest⟩ := codes p hp
      exact ⟨o, us, fi, t1, fl, t2, b0, tx, t3, apart e1 (fun _ _ z => by rw [e3] at z; cases z) (fun z => by rw [e3] at z; cases z; simp at e4), e2, e3, e4, rest⟩
    · obtain ⟨bm, ob, b1, b2, b3, b4, b5, b6⟩ := blt
      refine ⟨bm, ob, b1, b2, fun z => ?_, fun z => ?_, apart b3 (fun _ _ z => by rw [b6] at z; cases z) (fun z => by rw [b6] at z; cases z), b4, b5, b6⟩
      · obtain ⟨o, es, ep, e, d, _⟩ := hns
        rw [← z, b3] at e
        cases e
        rw [b6] at d; cases d
      · rw [z, empty p hp] at b3
        cases b3; cases b6
    · intro z
      obtain ⟨o, es, ep, e, d, _⟩ := hns
      rw [z, empty p hp] at e
      cases e; cases d
  have e0 : Env0 P w K mg (hidT s.heap H) callerA [] s H :=
    ⟨rfl, md, fun _ _ e => of_hidT e, Nat.le_of_eq (hidT_size _ _), trivial, fun _ hb => (List.not_mem_nil hb).elim, hok, .of_eq hg⟩
  have told : ∀ b o, (if b = a then H a else none) = some o → H b = some o := fun b o e => by
    split at e
    · rename_i z; rw [z]; exact e
    · cases e
  have iv : @Iv (TbC.tabs T) K (fun _ => none) (fun b => if b = a then H a else none) H := by
    refine @Bs.iv _ _ _ (TbC.tabs T) (@Bs.mk (TbC.tabs T) _ _ told (fun b ps e => ?_) (fun p hp => ?_) trivial)
    · have e : (if b = a then H a else none) = some (HO.tbl ps) := e
      split at e
      · obtain ⟨ob, z⟩ := hf _ e; cases z
      · cases e
    · exact TabS.nil (tabAt (hT p hp)).2
  have prom : @spF (TbC.tabs T) K FF0 [.ref a] H (fun v _ => v = .bl true) (fun _ _ _ => False) :=
    ⟨_, _, [.val (.scr ns)], [], _, iv, @ArgR.val (TbC.tabs T) K _ _ _ _ _ _ (.scr hS) (@ArgR.nil (TbC.tabs T) K _), fun e he => (List.not_mem_nil he).elim, hF0 ns hl, fun u c' G' H' _ _ _ t => by cases t; rfl⟩
  refine codeAny_mono ((F _ inB (dictK hns) tabB).run callerA [] s H ⟨[.ref a], []⟩ [.ref a] [.ref a] _ _ hr rfl e0 (hbind s (.ref a)) (.cons rfl .nil) prom) fun r s' z => ?_
  match r, z with
  | .error e, z => exact z.elim
  | .ok (.ret u), z =>
    obtain ⟨v, H', os, bare, un, hok', rv, q⟩ := z
    subst q
    cases (show u = Value.bool true from rv)
    -- tables grow, all else stays
    have stays : ∀ b o, b ∉ cs.map (·.2) → s.heap.get? b = some o → s'.heap.get? b = some o := fun b o nb e => by
      cases q : H b with
      | none => exact un.keep b o e q (fun y => (List.not_mem_nil y).elim) (List.not_mem_nil)
      | some u =>
        rcases hA b (by rw [q]; simp) with y | y
        · rw [y] at q e
          obtain ⟨ob, eu⟩ := hf u q
          subst eu
          have after := hok' a _ (un.frzs a ob _ q)
          have before := hok a _ q
          cases (show some o = some ob from e.symm.trans before.1)
          rw [y]; exact after.1
        · exact absurd y nb
    have grown : ∀ p ∈ cs, ∃ more : Array Value, s'.heap.get? p.2 = some (PySem.W.tabObj more) := fun p hp => by
      obtain ⟨more, z⟩ := un.tbls p.2 #[] (tabH p hp)
      exact ⟨_, hok' p.2 _ z⟩
    refine ⟨rfl, ⟨fun b o e => ?_, fun b o e => ?_⟩, os, bare⟩
    · by_cases nb : b ∈ cs.map (·.2)
      · obtain ⟨p, hp, rfl⟩ := List.mem_map.mp nb
        obtain ⟨bigger, hm⟩ := grown p hp
        cases (show some o = some (PySem.W.tabObj #[]) from e.symm.trans (empty p hp))
        exact .inr (.inl ⟨((codes p hp).tab (empty p hp)).isCodeTable, rfl, #[], bigger, rfl, by rw [Array.empty_append]; exact hm⟩)
      · exact .inl (stays b o nb e)
    · by_cases nb : b ∈ cs.map (·.2)
      · obtain ⟨p, hp, rfl⟩ := List.mem_map.mp nb
        obtain ⟨bigger, hm⟩ := grown p hp
        exact ⟨_, hm⟩
      · exact ⟨o, stays b o nb e⟩
end
end DF

set_option linter.all false
set_option maxRecDepth 100000
set_option maxHeartbeats 4000000
/-! functions that end with an error; what a lambda gave -/
namespace DF
open PySem PySem.Spec PyProof.Rows L2 TX LamX
theorem FnG.of {P : Program} {w : World} {K : PySem.W.Frag} {mg : Str → Option Value} {base : Heap} {CX : CXT} {k : Nat} {f : Addr} {fd : FuncData} {ps : List Str} {sp : Sp} (h : FnOk P w K mg base CX k f fd ps sp) : FnG P w K mg base CX k f fd ps sp :=
  ⟨h.len, fun A out s H ar us vs Q E room _ e0 bind vals want => h.run A out s H ar us vs Q E room e0 bind vals want⟩
/-- f ends with this error -/
def Er {α : Type} (x : FM α) (Γ : EnvF) (c f : Str) (d : D) : Prop := ∃ Γ', x Γ = some (.ex c f d Γ')
section
variable [TbC] {α β : Type} {Γ : EnvF} {c f : Str} {d : D} {fa fb : FE} {fs fr : FA} {ft : FT} {a b : FS}
end
end DF

set_option linter.all false
set_option maxRecDepth 100000
set_option maxHeartbeats 4000000
/-! a def held in a local name: told as the datum `.cls` of its name -/
namespace DF
open PySem PySem.Spec PyProof.Rows L2 TX LamX
variable [TbC]
section
variable {X : Cx}
def tCallL (i : Nat) (f : Addr) (sp : Sp) (E : XK) (t : TA) : TE := fun σ H Q => σ[i]? = some (some (.ref f)) ∧ tCall sp [] E t σ H Q
end
section
variable {K : PySem.W.Frag} {P : List Addr} {Γ Γ' : EnvF} {W : WX} {t : TA} {fs : FA} {E : XK} {Φ : D → EnvF → Prop}
def fCallL (fn : Str) (F : FF) (i : Nat) (a : FA) : FE := fun Γ => match Γ[i]? with
  | some (.val (.cls x)) => if x = fn then fCall F a Γ else none
  | _ => none
end
end DF

set_option linter.all false
set_option maxRecDepth 100000
set_option maxHeartbeats 4000000
/-! list.index of plain values; str.partition -/
namespace DF
open PySem PySem.Spec PyProof.Rows L2 TX LamX
section
variable {X : Cx} {K : PySem.W.Frag}
end
def flatL : List D → Option (List V)
  | [] => some []
  | x :: xs => (flatD x).bind fun v => (flatL xs).map (v :: ·)
def firstAt (y : V) : List V → Option Nat
  | [] => none
  | v :: vs => if eqV v y = true then some 0 else (firstAt y vs).map (· + 1)
def indexD : D → List D → Option D
  | .lst ds, [y] => (flatD y).bind fun v => (flatL ds).bind fun vs => (firstAt v vs).map fun j => .int (j : Nat)
  | _, _ => none
section
variable [TbC] {K : PySem.W.Frag} {G : Hp}
/-! str.partition -/
abbrev rPartn : V → List V → Hp → VK → Prop := fun x xs H Q => ∃ a b, x = .str a ∧ xs = [.str b] ∧ (b.length == 0) = false ∧ a.length ≤ sizeLine ∧
    ∀ p, H p = none → Q (.ref p) (upd H p (.tup [.str (Txt.partition a b).1, .str (Txt.partition a b).2.1, .str (Txt.partition a b).2.2]))
def partnD : D → List D → Option D
  | .str a, [.str b] => if b.length ≠ 0 ∧ a.length ≤ 16777216 then some (.tup [.str (Txt.partition a b).1, .str (Txt.partition a b).2.1, .str (Txt.partition a b).2.2]) else none
  | _, _ => none
end
end DF

set_option linter.all false
set_option maxRecDepth 100000
set_option maxHeartbeats 4000000
/-! {} as a value: the datum .dct [] -/
namespace DF
open PySem PySem.Spec PyProof.Rows L2 TX LamX
variable [TbC] {K : PySem.W.Frag} {W : WX}
end DF

set_option linter.all false
set_option maxRecDepth 100000
set_option maxHeartbeats 4000000
/-! x.pop(i) of a list of one's own -/
namespace DF
open PySem PySem.Spec PyProof.Rows L2 TX LamX
variable [TbC] {K : PySem.W.Frag} {W : WX} {G : Hp} {Γ : EnvF} {tb : TE} {fb : FE} {Φ : D → EnvF → Prop}
theorem AtL.erase : ∀ {us : List V} {ds : List D} (_ : AtL K G us ds) (n : Nat), AtL K G (us.eraseIdx n) (ds.eraseIdx n)
  | _, _, .nil, _ => .nil
  | _, _, .cons h t, 0 => t
  | _, _, .cons h t, n + 1 => .cons h (AtL.erase t n)
def fPopAt (i : Nat) (b : FE) : FE := hasLst i (FM.bind (fV b) fun y Γ => match lstAt i Γ, y with
  | some (k, ds), .int j => if -(2 ^ 63) ≤ j ∧ j < 2 ^ 63 then (seqIndex? j ds.length).bind fun n => (ds[n]?).map fun d => .ok (.val d) (Γ.set i (.own k (.lst (ds.eraseIdx n)))) else none
  | _, _ => none)
end DF

set_option linter.all false
set_option maxRecDepth 100000
set_option maxHeartbeats 4000000
/-! an error that is told: for defs that are handed a caught error -/
namespace TX
open PySem PySem.Spec PyProof.Rows L2
/-- at a: an error of the class at C, its dict at dd -/
def exa (a C dd : Addr) : HO := .ext fun h => ∃ (o : Obj) (vs : Array Value), h.get? a = some o ∧ o.cls = .ref C ∧ o.dict = some dd ∧ o.data = Data.fields vs
section
variable {X : Cx} {pins : List (Addr × Obj)} {σ : L2.St} {H : Hp} {s : Shared}
def rIsT (K : PySem.W.Frag) : List V → Hp → VK → Prop := fun xs H Q => ∃ (a D dd : Addr) (c : V) (cv : Value) (b : Bool) (fs : List (Str × V)), ExcC K D ∧ (PySem.W.clsIn K D).isSome = true ∧ xs = [.ref a, c] ∧ (∀ u, L2.RelV c u → u = cv) ∧ PySem.W.kitOne K (.ref D) cv = some b ∧ H a = some (exa a D dd) ∧ H dd = some (.xd fs) ∧ Q (.bl b) H
def tXfT (K : PySem.W.Frag) (n : Str) (te : TE) : TE := fun σ H Q => te σ H fun x H1 => ∃ (a C dd : Addr) (fs : List (Str × V)) (v : V), x = .ref a ∧ XfC K C ∧ PySem.W.findIn K (.ref C) n = some none ∧ H1 a = some (exa a C dd) ∧ H1 dd = some (.xd fs) ∧ fs.lookup n = some v ∧ Q v H1
end
end TX

set_option linter.all false
set_option maxRecDepth 100000
set_option maxHeartbeats 4000000
/-! list.count of plain values -/
namespace DF
open PySem PySem.Spec PyProof.Rows L2 TX LamX
section
variable {X : Cx} {K : PySem.W.Frag}
def rCntF (K : PySem.W.Frag) : V → List V → Hp → VK → Prop := fun x xs H Q => ∃ (a : Addr) (ys : List V) (y : V), x = V.ref a ∧ xs = [y] ∧ SqL K H a ys ∧ flatV y = true ∧ ys.all flatV = true ∧ Q (.int (ys.countP (fun z => eqV z y) : Nat)) H
end
def lcountD : D → List D → Option D
  | .lst ds, [y] => (flatD y).bind fun v => (flatL ds).map fun vs => .int (vs.countP (fun z => eqV z v) : Nat)
  | _, _ => none
end DF

set_option linter.all false
set_option maxRecDepth 100000
set_option maxHeartbeats 4000000
/-! a def called from a suite, that is handed the caught error: the error is pinned in its body -/
namespace TX
open PySem PySem.Spec PyProof.Rows L2 LamX
structure FnQ (P : Program) (w : World) (K : PySem.W.Frag) (mg : Str → Option Value) (base : Heap) (k : Nat) (f : Addr) (fd : FuncData) (ps : List Str) (a : Addr) (oe : Obj) (sp : Sp) : Prop where
  len : ∀ vs H Q E, sp vs H Q E → vs.length = ps.length
  run : ∀ (A : Around) (out : List Env) (s : Shared) (H : Hp) (ar : Args) (us : List Value) (vs : List V) (Q : VK) (E : XK), L2H.RoomH k A → A.guards = some [] → L2H.PinOk out H s (a, oe) → Env0 P w K mg base A out s H → BindsTo s fd ar (ps.zip us) → Vals vs us → sp vs H Q E →
    codeAny (model P w) A (.call (.ref f) ar) (CR CX0 out P w H s Q E) s
section
variable {P : Program} {w : World} {K : PySem.W.Frag} {mg : Str → Option Value} {base : Heap} {a : Addr} {oe : Obj}
end
section
variable {X : Cx} {pins : List (Addr × Obj)} {σ : L2.St} {H : Hp} {s : Shared} {a : Addr} {oe : Obj}
end
end TX
namespace DF
open PySem PySem.Spec PyProof.Rows L2 TX LamX
/-- the promise of such a def -/
def spZ (K : PySem.W.Frag) (a : Addr) (cls : Value) (d : Option Addr) (FX : Str → Str → D → FF) : Sp := fun vs H Q E => ∃ (t : TbC) (C dd : Addr) (cn f : Str) (fv : V) (dt : D), cls = .ref C ∧ d = some dd ∧ CT K cn C ∧ t.xa = a ∧
  (∀ G H, t.Z G H → H dd = some (.xd [(f, fv)]) ∧ At K G fv dt) ∧ @spF t K (FX cn f dt) vs H Q E
def fCallX (F : FF) (i : Nat) : FE := fun Γ => if atX i Γ = true then (match F [.exc] with
  | some (.ok (.val d) none) => some (.ok (.val d) Γ)
  | _ => none) else none
end DF
namespace DF
open PySem PySem.Spec PyProof.Rows L2 TX LamX
variable [TbC] {K : PySem.W.Frag} {W : WX} {G : Hp} {Γ : EnvF} {t : TA} {fs : FA} {Φ : Vr → EnvF → Prop}
/-- x + [..], x a list of one's own: a new one -/
def fAddO (i : Nat) (a : FA) : FE := hasLst i (FM.bind (fVs a) fun ys Γ => match lstAt i Γ with
  | some (_, ds) => if ds.length + ys.length ≤ 16777216 then some (.ok (.own (.lst (ds ++ ys))) Γ) else none
  | none => none)
end DF
namespace DF
open PySem PySem.Spec PyProof.Rows L2
end DF

set_option linter.all false
set_option maxRecDepth 100000
set_option maxHeartbeats 4000000
/-! a dict of the module whose keys are ints; repr of {} -/
namespace DF
open PySem PySem.Spec PyProof.Rows L2
def KeysI : List DictEntry → Prop
  | [] => True
  | e :: r => (∃ i t, e.key = .int i t ∧ e.hash = hashInt i) ∧ KeysI r
theorem KeysI.each : ∀ {l : List DictEntry}, KeysI l → ∀ e ∈ l, ∃ i t, e.key = .int i t ∧ e.hash = hashInt i
  | _ :: _, ⟨h, _⟩, _, .head _ => h
  | _ :: _, ⟨_, r⟩, _, .tail _ m => r.each _ m
def KDcI (K : PySem.W.Frag) (a : Addr) (i : Int) (v : V) : Prop :=
  ∃ es n u, K.lookup a = some ⟨.type "dict", none, .dict es n, #[]⟩ ∧ KeysI es.toList ∧ findBy keyIs es (Sum.inl i) = some u ∧ RelV v u
def rIxI (K : PySem.W.Frag) : R2 := fun x y H Q => ∃ p i v, x = .ref p ∧ y = .int i ∧ KDcI K p i v ∧ Q v H
section
variable [TbC] {K : PySem.W.Frag}
def ixKI (nm : Str) (tb : List (Int × D)) : D → D → Option D
  | .cls n, .int z => if n = nm then tb.lookup z else none
  | _, _ => none
/-- repr({}) -/
def rRepr0 : List V → Hp → VK → Prop := fun xs H Q => ∃ p, xs = [.ref p] ∧ H p = some (.dK []) ∧ Q (.str "{}") H
def repr0D : List D → Option D
  | [.dct []] => some (.str "{}")
  | _ => none
abbrev reprZ : List D → Option D := orC reprD repr0D
end
end DF

set_option linter.all false
set_option maxRecDepth 100000
set_option maxHeartbeats 4000000
/-! x not in a text -/
namespace DF
open PySem PySem.Spec PyProof.Rows L2
variable [TbC] {K : PySem.W.Frag}
def notInSD : D → D → Option D
  | .str i, .str j => some (.bl (!(!(Builtin.Str.occurrences j i 0 j.length 1).isEmpty)))
  | _, _ => none
/-! x in a tuple or list of plain items -/
def flF : D → Bool
  | .non | .bl _ | .int _ | .str _ => true
  | _ => false
def fvD : D → V
  | .bl b => .bl b
  | .int i => .int i
  | .str z => .str z
  | _ => .non
def inFL (neg : Bool) (x : D) (ds : List D) : Option D := if flF x = true ∧ ds.all flF = true then some (.bl (if neg then !inV (fvD x) (ds.map fvD) else inV (fvD x) (ds.map fvD))) else none
def inFD (neg : Bool) : D → D → Option D
  | x, .tup ds => inFL neg x ds
  | x, .lst ds => inFL neg x ds
  | _, _ => none
end DF
namespace DF
open PySem PySem.Spec PyProof.Rows L2
end DF
namespace TX
open PySem PySem.Spec PyProof.Rows L2 LamX
section
variable {P : Program} {w : World} {K : PySem.W.Frag} {mg : Str → Option Value} {base : Heap}
end
end TX

set_option linter.all false
set_option maxRecDepth 100000
set_option maxHeartbeats 4000000
/-! x in a dict of the module, also where it isn't -/
namespace DF
open PySem PySem.Spec PyProof.Rows L2
def KeysAre : List DictEntry → List Str → Prop
  | [], [] => True
  | e :: r, k :: ks => (∃ t, e.key = .str k t) ∧ KeysAre r ks
  | _, _ => False
def rInKB (d : Addr) (es : Array DictEntry) : R2 := fun x y H Q => ∃ z : Str, x = .str z ∧ y = .ref d ∧ Q (.bl (findBy Value.isStrOf es z).isSome) H
section
variable [TbC] {K : PySem.W.Frag}
def inKB (nm : Str) (ks : List Str) : D → D → Option D
  | .str z, .cls n => if n = nm then some (.bl (decide (z ∈ ks))) else none
  | _, _ => none
end
end DF

set_option linter.all false
set_option maxRecDepth 100000
set_option maxHeartbeats 4000000
/-! calls from a def that is handed the error; isinstance against the interpreter's own classes -/
namespace TX
open PySem PySem.Spec PyProof.Rows L2 LamX
end TX
namespace DF
open PySem PySem.Spec PyProof.Rows L2 TX LamX
def KTabT (K : PySem.W.Frag) (tb : List (Str × String × Bool)) : Prop := ∀ e ∈ tb, ∀ C, CT K e.1 C → PySem.W.kitOne K (.ref C) (.type e.2.1) = some e.2.2
def isXT (tb : List (Str × String × Bool)) (c : Str) (x : String) : Option Bool := (tb.find? fun e => e.1 == c && e.2.1 == x).map (·.2.2)
def isCT (tb : List (Str × String × Bool)) (lv : List (Str × Str)) (c f : Str) (x : String) (i : Nat) : FE := fun Γ => if (c, f) ∈ lv ∧ atX i Γ = true then (isXT tb c x).map fun b => .ok (.val (.bl b)) Γ else none
section
variable {K : PySem.W.Frag} [TbC] {W : WX} {tb : List (Str × String × Bool)} {lv : List (Str × Str)} {cn f : Str} {x : String} {C dd : Addr} {i : Nat} {fv : V} {d : D}
end
end DF

set_option linter.all false
set_option maxRecDepth 100000
set_option maxHeartbeats 4000000
/-! bool of an instance that has __len__ alone -/
namespace DF
open PySem PySem.Spec PyProof.Rows L2 TL NumText
variable [TbC]
open PySem.Sem (wp)
section
variable {X : Cx}
def rBoL (C : Addr) (sp : Sp) : List V → Hp → VK → Prop := fun xs H Q => ∃ a dx fs, xs = [.ref a] ∧ H a = some (.ins C dx fs) ∧ sp [.ref a] H (fun v H' => ∃ n : Int, v = .int n ∧ (0 ≤ n ∧ n < 2 ^ 63) ∧ Q (.bl (n != 0)) H') fun _ _ _ => False
end
section
variable {K : PySem.W.Frag}
def boolL (cn : Str) (F : FF) : List D → Option D
  | [.ins c gs] => if c = cn then (match F [.val (.ins c gs)] with
    | some (.ok (.val (.int n)) none) => if 0 ≤ n ∧ n < 2 ^ 63 then some (.bl (n != 0)) else none
    | _ => none) else none
  | _ => none
end
end DF

set_option linter.all false
set_option maxRecDepth 100000
set_option maxHeartbeats 4000000
/-! a def called from a def that is handed a lambda -/
namespace DF
open PySem PySem.Spec PyProof.Rows L2 TX LamX
def spA (K : PySem.W.Frag) (F : FF) : Sp := fun vs H Q E => ∃ t : TbC, @spF t K F vs H Q E
section
variable {K : PySem.W.Frag} [TbC] {W : WX} {E : XK} {t : TA} {fs : FA}
end
end DF

set_option linter.all false
set_option maxRecDepth 100000
set_option maxHeartbeats 4000000
/-! sorted(xs, key=lambda r: abs(r[c])) over rows of whole numbers -/
namespace TX
open PySem PySem.Spec PyProof.Rows L2 LamX
section
variable {X : Cx} {pins : List (Addr × Obj)} {σ : L2.St} {H : Hp} {s : Shared} {params : Arguments} {body : Expr} {scope : Scope}
abbrev lamE (X : Cx) (scope : Scope) (L f c' : Addr) : Env := PySem.W.envX (lamQ X) scope L f (.ref c') (cloFrom X.env.cells scope.names [])
end
end TX
namespace TX
open PySem PySem.Spec PyProof.Rows L2 LamX
section
variable {X : Cx} {pins : List (Addr × Obj)} {σ : L2.St} {H : Hp} {s : Shared} {params : Arguments} {scope : Scope}
theorem vals_at : ∀ {xs : List V} {us : List Value}, Vals xs us → ∀ {i : Nat} {v : V}, xs[i]? = some v → ∃ u, us[i]? = some u ∧ RelV v u
  | _, _, .nil, i, v, e => by simp at e
  | _, _, .cons r _, 0, v, e => by simp at e; subst e; exact ⟨_, by simp, r⟩
  | _, _, .cons _ l, i + 1, v, e => by simpa using vals_at l (i := i) (v := v) (by simpa using e)
end
end TX
namespace TX
open PySem PySem.Spec PyProof.Rows L2 LamX
def absI (m : Int) : Int := if m < 0 then -m else m
def keyLe {α : Type} (a b : α × Int) : Bool := decide (absI a.2 ≤ absI b.2)
def sortK {α : Type} (xs : List α) (ks : List Int) : List α := ((xs.zip ks).mergeSort keyLe).map (·.1)
def RowK (H : Hp) (c : Nat) (x : V) (k : Int) : Prop := ∃ p zs, x = V.ref p ∧ H p = some (.lst zs) ∧ zs[c]? = some (.int k)
theorem ExtY.lst {H H1 : Hp} (e : ExtY H H1) {p : Addr} {zs : List V} (h : H p = some (.lst zs)) : H1 p = some (.lst zs) := (e p _ h).elim id fun ⟨_, _, w, _⟩ => by cases w
theorem RowK.ext {H H1 : Hp} (e : ExtY H H1) {c : Nat} {x : V} {k : Int} (h : RowK H c x k) : RowK H1 c x k := by
  obtain ⟨p, zs, e1, e2, e3⟩ := h
  exact ⟨p, zs, e1, e.lst e2, e3⟩
def tSortK (T : List (Addr × Str)) (i : Nat) (te : TE) : TE := fun σ H Q => te σ H fun x H1 => Tabs T H1 ∧ ∃ (a : Addr) (xs : List V) (ks : List Int) (c : Nat), x = .ref a ∧ H1 a = some (.lst xs) ∧ σ[i]? = some (some (.int c)) ∧ (c : Int) < 2 ^ 63 ∧
  PySem.W.EachIs (RowK H1 c) xs ks ∧ ∀ H2 p, ExtY H1 H2 → Tabs T H2 → H2 p = none → Q (.ref p) (upd H2 p (.lst (sortK xs ks)))
section
variable {X : Cx} {params : Arguments} {scope : Scope}
end
end TX
namespace DF
open PySem PySem.Spec PyProof.Rows L2 TX LamX
def keysD (c : Nat) : List D → Option (List Int)
  | [] => some []
  | .lst zs :: r => match zs[c]? with
    | some (.int k) => (keysD c r).map (k :: ·)
    | _ => none
  | _ => none
def sortKD (sl : Option Sl) (x : D) : Option D := match sl, x with
  | some (.val (.int c)), .lst ds => if 0 ≤ c ∧ c < 2 ^ 63 then (keysD c.toNat ds).map fun ks => .lst (sortK ds ks) else none
  | _, _ => none
def fSortK (i : Nat) (fe : FE) : FE := fR (FM.bind (fV fe) fun x Γ => fOf (sortKD Γ[i]? x) Γ)
section
variable [t : TbC] {K : PySem.W.Frag} {W : WX} {te : TE} {fe : FE}
/-- three lists in step -/
def zip3 : List V → List D → List Int → List (V × D × Int)
  | v :: vs, d :: ds, k :: ks => (v, d, k) :: zip3 vs ds ks
  | _, _, _ => []
end
end DF
namespace DF
section
variable [TbC] {Γ : EnvF} {Φ : D → EnvF → Prop} {fe : FE}
end
end DF
/-! // by any divisor -/
namespace DF
open PySem PySem.Spec PyProof.Rows L2 TX LamX
def CDivX (_ j : Int) : Prop := j ≠ 0 ∧ j.natAbs.log2 < 9000
def fdivN : D → D → Option D := intC (fun _ j => decide (j ≠ 0) && decide (j.natAbs.log2 < 9000)) fun i j => .int (i.fdiv j)
end DF

set_option linter.all false
set_option maxRecDepth 100000
set_option maxHeartbeats 4000000
/-! sorted(set(texts)) -/
namespace TX
open PySem PySem.Spec L2
section
variable {P : Program} {w : World} {A : Around} {E : Value → Shared → Prop} {s : Shared}
/-- the payload D holds the texts l, each once; what its walk wants -/
structure TxR (P : Program) (w : World) (D : Froz.SD) (l : List Str) : Prop where
  ok : Froz.TxOk P w D l
  ris : Ris D.2.2.place.toList
  led : w.params.followText "set-order" = true ∨ D.2.2.led = true
  nd : l.Nodup
theorem txR_nil : TxR P w (#[], 0, .fresh 0 0 (!w.params.followText "set-order")) [] :=
  ⟨Froz.TxOk.nil rfl, List.Pairwise.nil, by
    show _ ∨ (!w.params.followText "set-order") = true
    cases w.params.followText "set-order"
    · exact .inr rfl
    · exact .inl rfl, List.nodup_nil⟩
theorem tail_rl {ep : Nat} {es : Array (Int × Value)} {t : SetTable} {b : Bool} (r : Ris t.place.toList) : Ris (Froz.tailTx ep es t b).2.2.place.toList ∧ (Froz.tailTx ep es t b).2.2.led = t.led := by
  unfold Froz.tailTx
  split
  · exact ⟨relayAll_ris .., relayAll_led ..⟩
  · exact ⟨r, rfl⟩
theorem txR_add {D : Froz.SD} {l : List Str} {k : Str} (u : Tok) (F : TxR P w D l) (hk : k ∉ l) : TxR P w (Froz.addTx (hashStr w k) (.str k u) D) (k :: l) := by
  obtain ⟨h1, h2, h3, h4⟩ := F
  have q1 := Froz.add_ok u h1 (k := k)
  obtain ⟨es, ep, t⟩ := D
  have a := layNew_ris t es (hashStr w k) (.str k u) h2
  have b := layNew_led t es (hashStr w k) (.str k u)
  have c : ∀ t' : SetTable, t'.place = (layNew t es (hashStr w k) (.str k u)).2.1.place → t'.led = t.led → ∀ ep es1 d, Ris (Froz.tailTx ep es1 t' d).2.2.place.toList ∧ (Froz.tailTx ep es1 t' d).2.2.led = t.led := fun t' e1 e2 ep es1 d => by
    have z := tail_rl (ep := ep) (es := es1) (t := t') (b := d) (by rw [e1]; exact a)
    exact ⟨z.1, z.2.trans e2⟩
  have d := c (if (layNew t es (hashStr w k) (.str k u)).2.1.plain = true then { (layNew t es (hashStr w k) (.str k u)).2.1 with plain := false } else (layNew t es (hashStr w k) (.str k u)).2.1)
    (by split <;> rfl) (by split <;> exact b) ep (layNew t es (hashStr w k) (.str k u)).1 (layNew t es (hashStr w k) (.str k u)).2.2.1
  exact ⟨q1, d.1, h3.imp id fun z => d.2.trans z, List.nodup_cons.mpr ⟨hk, h4⟩⟩
/-- a text that is in it -/
theorem had_x {a : Addr} {T : String} {D : Froz.SD} {l : List Str} {k : Str} {u : Tok} {Q : Bool → Shared → Prop} (ho : s.heap.get? a = some (Froz.sObj T D)) (F : Froz.TxOk P w D l) (hk : k ∈ l) (hb : l.length < scanBound) (q : Q false s) :
    wpAny (model P w) A (setAddHashed a (.str k u) (hashStr w k)) Q E s := by
  obtain ⟨es, ep, t⟩ := D
  have dat : (Froz.sObj T (es, ep, t)).data = .set es ep t := rfl
  have hf : t.fits es.size = true := F.fit
  have hel : ElemsOf (PySem.strKind P w) es.toList := F.el
  have small : es.size < scanBound := by
    have : es.size = l.length := F.sz
    omega
  have iskey : (PySem.strKind P w).is k (.str k u) = true := Froz.is_str k u
  unfold setAddHashed setAddHashedIn
  refine wpAny_holding ?_
  refine wpAny_bind (wpAny_setState_of ho dat hf ?_)
  dsimp only
  rw [byScan_of (knd := PySem.strKind P w) rfl small hel, if_pos rfl]
  unfold setAddByScan
  refine wpAny_bind (wpAny_bind (wpAny_rule ?_))
  refine wpAny_bind (wpAny_setScan_of (knd := PySem.strKind P w) (k := k) iskey ho dat hf hel ?_)
  cases hr : List.findIdx? (fun e => (PySem.strKind P w).is k e.2) es.toList with
  | some j => exact wpAny_pure (wpAny_pure q)
  | none =>
    obtain ⟨e, he, hp⟩ := (F.mem k).mp hk
    have := List.findIdx?_eq_none_iff.mp hr e he
    rw [hp] at this
    cases this
def ins (k : Str) (l : List Str) : List Str := if k ∈ l then l else k :: l
theorem mem_ins {k z : Str} {l : List Str} : z ∈ ins k l ↔ z = k ∨ z ∈ l := by
  unfold ins
  split
  · exact ⟨.inr, fun h => h.elim (fun e => e ▸ ‹k ∈ l›) id⟩
  · exact List.mem_cons
theorem len_ins {k : Str} {l : List Str} : (ins k l).length ≤ l.length + 1 := by
  unfold ins
  split
  · exact Nat.le_succ _
  · exact Nat.le_refl _
theorem put_x {a : Addr} {D : Froz.SD} {l : List Str} {k : Str} {u : Tok} {Q : Bool → Shared → Prop} (ho : s.heap.get? a = some (Froz.sObj "set" D)) (F : TxR P w D l) (hb : l.length + 1 < scanBound)
    (q : ∀ b D' h', TxR P w D' (ins k l) → h'.get? a = some (Froz.sObj "set" D') → (∀ c o, c ≠ a → s.heap.get? c = some o → h'.get? c = some o) → Q b { s with heap := h' }) :
    wpAny (model P w) A (setAddHashed a (.str k u) (hashStr w k)) Q E s := by
  by_cases hk : k ∈ l
  · have e : ins k l = l := if_pos hk
    exact had_x ho F.ok hk (by omega) (q false D s.heap (by rw [e]; exact F) ho fun _ _ _ z => z)
  · have e : ins k l = k :: l := if_neg hk
    exact Froz.add_x ho F.ok hk hb (q true _ _ (by rw [e]; exact txR_add u F hk) (Froz.get_upd _ ho rfl) fun c o hc z => PySem.Heap.get?_update_of_ne _ (Ne.symm hc) z)

/-! the walk over the list -/
theorem set_loop {I : Addr} {fp wr : List Addr} {Gn : Array GenState → Array GenState → Prop} {n : Nat} {Pv : Nat → Value → Prop} {St : Nat → Shared → Prop} {R : Result → Shared → Prop}
    (W : WalksS P w A.in1 I fp wr Gn n Pv St) (S : Addr) (nS : ¬ S ∈ fp) (xs : List Str) (hn : xs.length = n) (hv : ∀ i v, Pv i v → ∃ z t, xs[i]? = some z ∧ v = .str z t) (hb : n + 1 < scanBound) :
    ∀ (k i : Nat) (s : Shared) (D : Froz.SD) (l : List Str), n - i = k → i ≤ n → St i s → s.heap.get? S = some (Froz.sObj "set" D) → TxR P w D l → l.length ≤ i → (∀ z, z ∈ l ↔ z ∈ xs.take i) →
      (∀ s' D' l', Moved (S :: wr) Gn s s' → s'.heap.get? S = some (Froz.sObj "set" D') → TxR P w D' l' → l'.length ≤ n → (∀ z, z ∈ l' ↔ z ∈ xs) → R (.ok (.ret .none)) s') →
      codeAny (model P w) A (.builtin "set.update.loop" ⟨[.ref S, .ref I], []⟩) R s := by
  have nw : ¬ S ∈ wr := fun h => nS (W.sub _ h)
  have more : ∀ b ∈ wr, b ∈ S :: wr := fun _ h => List.mem_cons_of_mem _ h
  intro k
  induction k with
  | zero =>
    intro i s D l hk hi st ho F len mem q
    obtain rfl : i = n := by omega
    refine codeAny_builtin PyProof.Rows.F.entry_set_update_loop ?_
    rw [Around.under_plainId PyProof.Rows.F.plain_set_update_loop]
    show wpAny _ A.in1 (pyNext _ >>= _) _ _ _
    refine wpAny_bind (W.done _ _ _ st fun s1 mv => ?_)
    show wpAny _ A.in1 (ret _) _ _ _
    refine wpAny_pure (q s1 D l (mv.mono more) (mv.heap S _ nw ho) F len fun z => ?_)
    rw [mem z, ← hn, List.take_length]
  | succ k ih =>
    intro i s D l hk hi st ho F len mem q
    have lt : i < n := by omega
    refine codeAny_builtin PyProof.Rows.F.entry_set_update_loop ?_
    rw [Around.under_plainId PyProof.Rows.F.plain_set_update_loop]
    show wpAny _ A.in1 (pyNext _ >>= _) _ _ _
    refine wpAny_bind (W.item i _ _ _ lt st fun v s1 hp st1 mv => ?_)
    obtain ⟨z, t, ez, rfl⟩ := hv i v hp
    have ho1 : s1.heap.get? S = some (Froz.sObj "set" D) := mv.heap S _ nw ho
    show wpAny _ A.in1 (holding _ (setAdd S (.str z t)) >>= _) _ _ _
    refine wpAny_bind (wpAny_holding ?_)
    unfold setAdd
    refine wpAny_holding (wpAny_bind ((PySem.strKind P w).pyHash (Froz.is_str z t) ?_))
    refine put_x (s := { s1 with toks := s1.toks + 1 }) ho1 F (by omega) fun b D1 h1 F1 ho2 kp => ?_
    have tk : xs.take (i + 1) = xs.take i ++ [z] := by rw [List.take_add_one, ez]; rfl
    refine wpAny_pure ⟨plainId_quiet PyProof.Rows.F.plain_set_update_loop _, ih (i + 1) _ D1 (ins z l) (by omega) lt (W.frame _ s1 _ _ st1 (Nat.le_succ _) fun c hc o e => kp c o (fun y => nS (y ▸ hc)) e) ho2 F1 (by have := len_ins (k := z) (l := l); omega) (fun y => ?_) fun s2 D2 l2 mv2 ho3 F2 len2 mem2 => ?_⟩
    · rw [mem_ins, tk, List.mem_append, List.mem_singleton, mem y]
      exact ⟨fun h => h.elim .inr .inl, fun h => h.elim .inr .inl⟩
    · exact q s2 D2 l2 (Moved.trans W.gtrans ((mv.mono more).then_heap (Nat.le_succ _) fun c o hc e => kp c o (fun y => hc (y ▸ List.mem_cons_self)) e) mv2) ho3 F2 len2 mem2
/-- a new set -/
abbrev set0 (w : World) : Obj := { cls := .type "set", dict := none, data := .set #[] 0 (.fresh 0 0 (!w.params.followText "set-order")) }
theorem val_at : ∀ {vs : List Value} {xs : List Str}, PyProof.Rows.StrsAre vs xs → ∀ (i : Nat) (v : Value), vs[i]? = some v → ∃ z t, xs[i]? = some z ∧ v = .str z t
  | _, _, .nil, _, _, h => by simp at h
  | _, _, .cons z t l, 0, v, h => ⟨z, t, rfl, by cases h; rfl⟩
  | _, _, .cons _ _ l, i + 1, v, h => val_at l i v (by simpa using h)
set_option maxHeartbeats 8000000 in
/-- set(l) -/
theorem set_of {l : Addr} {its : Array Value} {xs : List Str} {Q : Value → Shared → Prop} (calm : A.handled = none) (hl : s.heap.IsList l its) (hx : PyProof.Rows.StrsAre its.toList xs) (hb : xs.length + 1 < scanBound)
    (q : ∀ (h1 : Heap) (t1 : Nat) (D : Froz.SD) (m : List Str), h1.get? s.heap.objs.size = some (Froz.sObj "set" D) → TxR P w D m → m.length ≤ xs.length → (∀ z, z ∈ m ↔ z ∈ xs) → (∀ b o, s.heap.get? b = some o → h1.get? b = some o) → Q (.ref s.heap.objs.size) { s with heap := h1, toks := t1 }) :
    wpAny (model P w) A (call (.type "set") [.ref l]) Q E s := by
  obtain ⟨_, _, line⟩ := PySem.F.called_set.mro
  have f1 := PySem.F.called_set.made
  have f2 := PySem.F.called_set.sub
  have f3 := PySem.F.called_set.notType
  have f4 := PySem.F.called_set.canCreate
  have f5 := PySem.F.typeCall_set_1 (.ref l)
  refine wpAny_call (codeAny_of_tree (?_ : wpAny _ _ (callAny (.type "set") _) _ _ _))
  refine wpAny_pure ⟨Code.quiet_builtin _ (by decide +kernel), codeAny_builtin PySem.F.entry_type_call ?_⟩
  rw [Around.under_plain (weight_type_call_type "set" [.ref l] []) rfl]
  repeat (any_goals (first | assumption | wp_step))

  refine codeAny_mono (code_set_led1 (.ref l) (E := E) (Q₁ := fun ob s1 => ob = .ref s.heap.objs.size ∧ s1 = { s with heap := s.heap.push (set0 w) }) ⟨rfl, rfl⟩) fun r s1 hr => ?_
  rcases r with _ | _ | _ | _ | ob
  any_goals first | exact hr | exact hr.elim
  · obtain ⟨rfl, rfl⟩ := hr
    have at0 : (s.heap.push (set0 w)).get? s.heap.objs.size = some (set0 w) := Heap.get?_push_size _ rfl
    have ty0 : Shared.TypeIs { s with heap := s.heap.push (set0 w) } (.ref s.heap.objs.size) "set" := ⟨_, at0, rfl⟩
    have f6 := PySem.F.called_set.init.lookup
    have f7 := PySem.F.called_set.init.bind (.ref s.heap.objs.size)
    repeat (any_goals (first | assumption | wp_step))

    refine codeAny_mono (codeAny_call_builtin (R := wants (fun r s2 => r = .none ∧ ∃ h1 t1 D m, s2 = { s with heap := h1, toks := t1 } ∧ h1.get? s.heap.objs.size = some (Froz.sObj "set" D) ∧ TxR P w D m ∧ m.length ≤ xs.length ∧ (∀ z, z ∈ m ↔ z ∈ xs) ∧
        ∀ b o, s.heap.get? b = some o → h1.get? b = some o) E) PySem.F.called_set.init.plain PySem.F.entry_set_init (check_set_init_1 ty0 ?_)) fun r2 s2 hr2 => ?_
    · obtain ⟨⟨kl, dl, da, sl⟩, hol, ec, nl, ed⟩ := hl
      dsimp only at ec ed
      subst ec ed
      have below : l < s.heap.objs.size := Heap.lt_size hol
      have hol1 : (s.heap.push (set0 w)).get? l = some { cls := .type "list", dict := dl, data := .seq its nl, slots := sl } := Heap.get?_push_of_some _ hol
      have il : (s.heap.push (set0 w)).IsList l its := ⟨_, hol1, rfl, nl, rfl⟩
      have g1 := PySem.F.sub_list_set
      have g2 := PySem.F.sub_list_frozenset
      have g3 : (Value.type "list" == Value.type "dict") = false := by decide
      unfold Builtin.«set.__init__» noKeywords Builtin.Frozenset.updateFrom
      generalize hP : pyIter = PI
      wp_walk
      subst hP

      refine wpAny_pyIter_list il (wpAny_bind (wpAny_runValue ?_))
      have calm3 : A.in1.in1.in1.handled = none := by simp [calm]
      have z1 : (s.heap.push (set0 w)).objs.size = s.heap.objs.size + 1 := Heap.size_push ..
      have ne1 : l ≠ (s.heap.push (set0 w)).objs.size := Nat.ne_of_lt (by rw [z1]; exact Nat.lt_succ_of_lt below)
      have nin : ¬ s.heap.objs.size ∈ [(s.heap.push (set0 w)).objs.size, l] := by
        rw [z1]
        simp only [List.mem_cons, List.not_mem_nil, or_false]
        exact fun h => h.elim (fun y => absurd y (Nat.ne_of_lt (Nat.lt_succ_self _))) fun y => absurd y (Nat.ne_of_gt below)
      have hl2 : xs.length = its.size := by
        have : ∀ {vs : List Value} {xs : List Str}, PyProof.Rows.StrsAre vs xs → xs.length = vs.length := fun h => by induction h with | nil => rfl | cons _ _ _ ih => simp [ih]
        rw [this hx, Array.length_toList]
      refine set_loop ((Walks.list calm3 _ l ne1 its).toS) s.heap.objs.size nin xs hl2 (fun i v h => val_at hx i v (by rw [Array.getElem?_toList]; exact h)) (by omega) (its.size - 0) 0 _ (#[], 0, .fresh 0 0 (!w.params.followText "set-order")) [] rfl (Nat.zero_le _)
        ⟨⟨_, Heap.get?_push_size _ rfl, rfl, rfl⟩, il.push _⟩ ?_ txR_nil (Nat.le_refl _) (fun z => by simp) fun s2 D m mv a1 a2 a3 a4 => ?_
      · exact Heap.get?_push_of_some _ at0
      · obtain ⟨h2, gn2, dr2, tk2, os2⟩ := s2
        obtain rfl : gn2 = s.gens := mv.gens
        obtain rfl : dr2 = s.drawn := mv.drawn
        obtain rfl : os2 = s.os := mv.os
        show wpAny _ _ _ _ _ _
        refine wpAny_pure ?_
        show wpAny _ _ (ret Value.none) _ _ _
        refine wpAny_pure ⟨rfl, h2, tk2, D, m, rfl, a1, a2, by omega, a4, fun b o e => ?_⟩
        have hb := Heap.lt_size e
        refine mv.heap b o (fun hm => ?_) (Heap.get?_push_of_some _ (Heap.get?_push_of_some _ e))
        rcases List.mem_cons.mp hm with y | y
        · exact absurd y (Nat.ne_of_lt hb)
        · exact absurd (List.mem_singleton.mp y) (Nat.ne_of_lt (by rw [z1]; exact Nat.lt_succ_of_lt hb))
    · rcases r2 with _ | _ | _ | _ | r2
      any_goals first | exact hr2 | exact hr2.elim
      obtain ⟨rfl, h1, t1, D, m, rfl, a1, a2, a3, a4, a5⟩ := hr2
      repeat (any_goals (first | assumption | wp_step))
      exact q h1 t1 D m a1 a2 a3 a4 a5

/-! the texts of a set, sorted -/
theorem strs_vals : ∀ (vs : List Value), (∀ v ∈ vs, ∃ z t, v = .str z t) → ∃ zs, PyProof.Rows.StrsAre vs zs ∧ zs.length = vs.length ∧ ∀ z, z ∈ zs ↔ ∃ t, Value.str z t ∈ vs
  | [], _ => ⟨[], .nil, rfl, fun z => by simp⟩
  | v :: vs, h => by
    obtain ⟨z, t, rfl⟩ := h v List.mem_cons_self
    obtain ⟨zs, a, b, c⟩ := strs_vals vs fun u hu => h u (List.mem_cons_of_mem _ hu)
    refine ⟨z :: zs, .cons z t a, by simp [b], fun y => ?_⟩
    rw [List.mem_cons, c y]
    constructor
    · rintro (rfl | ⟨u, hu⟩)
      · exact ⟨t, List.mem_cons_self⟩
      · exact ⟨u, List.mem_cons_of_mem _ hu⟩
    · rintro ⟨u, hu⟩
      rcases List.mem_cons.mp hu with e | e
      · cases e; exact .inl rfl
      · exact .inr ⟨u, e⟩
theorem perm_in : ∀ {l zs : List Str}, l.Nodup → (∀ z ∈ l, z ∈ zs) → zs.length ≤ l.length → zs.Perm l
  | [], zs, _, _, h => by rw [List.length_eq_zero_iff.mp (Nat.le_zero.mp h)]
  | a :: l, zs, n, h, k => by
    obtain ⟨n1, n2⟩ := List.nodup_cons.mp n
    have ha := h a List.mem_cons_self
    have e := List.perm_cons_erase ha
    refine e.trans (List.Perm.cons a (perm_in n2 (fun z hz => ?_) ?_))
    · exact (List.mem_erase_of_ne (fun (y : z = a) => n1 (by rw [← y]; exact hz))).mpr (h z (List.mem_cons_of_mem _ hz))
    · rw [List.length_erase_of_mem ha]
      rw [List.length_cons] at k
      omega
theorem sorted_of {a : Addr} {D : Froz.SD} {l : List Str} {Q : Value → Shared → Prop} (calm : A.handled = none) (ho : s.heap.get? a = some (Froz.sObj "set" D)) (F : TxR P w D l) (few : l.length < 64)
    (q : ∀ s1 p (out : Array Value) c ys, (∀ b o, s.heap.get? b = some o → s1.heap.get? b = some o) → s1.gens = s.gens → s1.os = s.os → s.heap.objs.size ≤ p → s1.heap.get? p = some (PyProof.Rows.seqObj "list" out c) →
      PyProof.Rows.StrsAre out.toList ys → ys.Perm l → PyProof.Rows.sortedS ys = true → Q (.ref p) s1) : wpAny (model P w) A (call (.builtin "sorted") [.ref a]) Q E s := by
  obtain ⟨es, ep, t⟩ := D
  have size : es.size = l.length := F.ok.sz
  refine Calls.call_function_entry PyProof.Rows.kind_sorted PyProof.Rows.plain_sorted PyProof.Rows.entry_sorted (PyProof.Rows.args_sorted1 _) ?_
  unfold Builtin.«sorted»
  refine wpAny_bind (m := checkCount "sorted" 1 1 _) (wpAny_pure ?_)
  refine wpAny_bind (collect_set (A := A.in1) calm ⟨_, ho, rfl, rfl⟩ F.ok.fit (by show es.size < scanBound; unfold scanBound; omega) F.ris F.led fun s1 vs kp big g1 o1 pm => ?_)
  have each : ∀ v ∈ vs, ∃ z t, v = .str z t := fun v hv => by
    obtain ⟨e, he, rfl⟩ := List.mem_map.mp (pm.mem_iff.mp hv)
    obtain ⟨⟨k, hk, _⟩, _⟩ := F.ok.el e he
    obtain ⟨t, et⟩ := Value.isStrOf_shape hk
    exact ⟨k, t, et⟩
  obtain ⟨zs, hz, lz, mz⟩ := strs_vals vs each
  have lv : vs.length = l.length := by rw [pm.length_eq, List.length_map, Array.length_toList, size]
  have sub : ∀ z ∈ l, z ∈ zs := fun z hzl => by
    obtain ⟨e, he, hk⟩ := (F.ok.mem z).mp hzl
    obtain ⟨t, et⟩ := Value.isStrOf_shape hk
    exact (mz z).mpr ⟨t, pm.mem_iff.mpr (List.mem_map.mpr ⟨e, he, et⟩)⟩
  have pz : zs.Perm l := perm_in F.nd sub (by omega)
  refine wpAny_bind (wpAny_newList ?_ (by rw [sizeLine_eq]; omega))
  have hoL : (s1.heap.push (PyProof.Rows.seqObj "list" vs.toArray 0)).get? s1.heap.objs.size = some (PyProof.Rows.seqObj "list" vs.toArray 0) := Heap.get?_push_size _ rfl
  refine wpAny_bind (wpAny_holding (wpAny_call_entry PyProof.Rows.slot_list_sort ⟨_, hoL, rfl⟩ PyProof.Rows.entry_list_sort (PyProof.Rows.list_sort_treeK PyProof.Rows.strKind_oneLt hoL hz.keysOf (fun v1 v2 r e => PyProof.Rows.keyKind_strs (by rw [← e]; exact hz)) (by omega) fun st a1 a2 => ⟨_, rfl, ?_⟩) (PyProof.Rows.args_list_sort _)))
  obtain ⟨ys, b1, b2, b3⟩ := PyProof.Rows.sorted_out_str hz a1 a2
  obtain ⟨c, hc⟩ := PyProof.Rows.sortedHeap_at (vs := vs) (out := (PyProof.Rows.arrOf st).map (·.2)) hoL
  refine wpAny_pure ⟨_, rfl, q _ _ _ c ys (fun b o e => ?_) g1 o1 big hc b1 (b2.trans pz) b3⟩
  have e1 := kp b o e
  have lt := Heap.lt_size e1
  exact (PyProof.Rows.sortedHeap_old (Nat.ne_of_lt lt) (by rw [PyProof.Rows.size_push']; exact Nat.lt_succ_of_lt lt)).trans (Heap.get?_push_of_some _ e1)
end
/-- at a: a set of the texts l -/
def SetX (P : Program) (w : World) (a : Addr) (l : List Str) : HO := .ext fun h => ∃ D, h.get? a = some (Froz.sObj "set" D) ∧ TxR P w D l
theorem setX_ok {P : Program} {w : World} {H : Hp} {h : Heap} {a : Addr} {D : Froz.SD} {l : List Str} (e : h.get? a = some (Froz.sObj "set" D)) (F : TxR P w D l) : ObjOk P w H h a (SetX P w a l) :=
  ⟨⟨D, e, F⟩, ⟨_, e⟩, fun _ _ ⟨D, e, F⟩ k => ⟨D, k _ e, F⟩⟩
def rSetX (P : Program) (w : World) (K : PySem.W.Frag) : List V → Hp → VK → Prop := fun vs H Q => ∃ (a : Addr) (xs : List Str), vs = [V.ref a] ∧ SqL K H a (xs.map V.str) ∧ xs.length ≤ 4000 ∧
  ∀ (l : List Str) (p : Addr), l.Nodup → (∀ z, z ∈ l ↔ z ∈ xs) → H p = none → Q (.ref p) (upd H p (SetX P w p l))
def rSortX (P : Program) (w : World) : List V → Hp → VK → Prop := fun vs H Q => ∃ (a : Addr) (l : List Str), vs = [V.ref a] ∧ H a = some (SetX P w a l) ∧ l.length < 64 ∧
  ∀ (ys : List Str) (p : Addr), ys.Perm l → PyProof.Rows.sortedS ys = true → H p = none → Q (.ref p) (upd H p (.lst (ys.map V.str)))
theorem cr_setX {X : Cx} (calm : X.calm = true) : CallR X (.type "set") (rSetX X.prog X.w X.K) := by
  intro pins s σ H vs us Q I r h
  obtain ⟨a, xs, rfl, hs, hl, q⟩ := h
  obtain ⟨its, rv, il, _⟩ := I.list hs
  rw [Vals.ref1 r]
  refine set_of (I.ok.hd calm) il.isList (by simpa using rv.strs) (by unfold scanBound; omega) fun h1 t1 D m e1 F _ mem kp => ?_
  exact ⟨.ref _, _, I.laid (t' := t1) kp (Nat.le_refl _) (setX_ok e1 F), rfl, q m _ F.nd mem (I.hok.fresh (Nat.le_refl _))⟩
theorem cr_sortX {X : Cx} (calm : X.calm = true) : CallR X (.builtin "sorted") (rSortX X.prog X.w) := by
  intro pins s σ H vs us Q I r h
  obtain ⟨a, l, rfl, ha, few, q⟩ := h
  have z := I.hok a _ ha
  unfold SetX at z
  obtain ⟨D, e, F⟩ := z.1
  rw [Vals.ref1 r]
  refine sorted_of (I.ok.hd calm) e F few fun s1 p out c ys kp g1 o1 big hp hy pm so => ?_
  have ll : (ys.map V.str).length ≤ sizeLine := by rw [List.length_map, pm.length_eq, sizeLine_eq]; omega
  have fresh : H p = none := I.hok.fresh big
  obtain ⟨h1, gn1, dr1, tk1, os1⟩ := s1
  obtain ⟨h0, gn0, dr0, tk0, os0⟩ := s
  obtain rfl : gn1 = gn0 := g1
  obtain rfl : os1 = os0 := o1
  exact ⟨.ref p, upd H p (.lst (ys.map V.str)), I.call (ch := []) (Un.laid kp big fresh) (I.hok.laid kp big ⟨ll, out.toList, c, vals_of_strs hy, hp⟩) I.bare (fun _ z => nomatch z), rfl, q ys p pm so fresh⟩
theorem setX_K {P : Program} {w : World} {K : PySem.W.Frag} {X : Cx} (hP : X.prog = P) (hw : X.w = w) (hK : X.K = K) (calm : X.calm = true) : CallR X (.type "set") (rSetX P w K) := by subst hP hw hK; exact cr_setX calm
theorem sortX_K {P : Program} {w : World} {X : Cx} (hP : X.prog = P) (hw : X.w = w) (calm : X.calm = true) : CallR X (.builtin "sorted") (rSortX P w) := by subst hP hw; exact cr_sortX calm
end TX
namespace DF
open PySem PySem.Spec PyProof.Rows L2 TX
/-- each text once -/
def ddup (l : List Str) : List Str := l.foldr ins []
theorem mem_ddup : ∀ {l : List Str} {z : Str}, z ∈ ddup l ↔ z ∈ l
  | [], _ => Iff.rfl
  | a :: l, z => by
    show z ∈ ins a (ddup l) ↔ _
    rw [mem_ins, mem_ddup, List.mem_cons]
theorem nd_ddup : ∀ (l : List Str), (ddup l).Nodup
  | [] => List.nodup_nil
  | a :: l => by
    show (ins a (ddup l)).Nodup
    unfold ins
    split
    · exact nd_ddup l
    · exact List.nodup_cons.mpr ⟨‹_›, nd_ddup l⟩
theorem perm_nd {l m : List Str} (h1 : l.Nodup) (h2 : m.Nodup) (h : ∀ z, z ∈ l ↔ z ∈ m) : l.Perm m := (List.perm_ext_iff_of_nodup h1 h2).mpr h
def sortSetD : List D → Option D
  | [.lst ds] => (joinD.strsOf ds).bind fun bs => if bs.length ≤ 4000 ∧ (ddup bs).length < 64 then some (.lst ((sortS (ddup bs)).map .str)) else none
  | _ => none
variable [TbC] {K : PySem.W.Frag} {W : WX} {t : TA} {fs : FA} {P : Program} {w : World}
theorem sim_sortSet0 : SimC K (fun vs H Q => rSetX P w K vs H fun x H1 => rSortX P w [x] H1 Q) sortSetD := by
  intro xs z e G H us i l Q q
  unfold sortSetD at e
  split at e
  · simp only [Option.bind_eq_some_iff] at e
    obtain ⟨bs, eb, ez⟩ := e
    split at ez
    · rename_i hb
      cases ez
      obtain ⟨u, eu, h⟩ := atl1 l
      subst eu
      cases h with
      | lst hp l =>
        have := strs_at l eb
        subst this
        refine ⟨_, bs, rfl, ext_lst i.i hp, hb.1, fun m p nd mem hn => ?_⟩
        have pm : m.Perm (ddup bs) := perm_nd nd (nd_ddup bs) fun z => (mem z).trans mem_ddup.symm
        refine ⟨p, m, rfl, upd_same, by rw [pm.length_eq]; exact hb.2, fun ys p2 h1 h2 hn2 => ?_⟩
        have : ys = sortS (ddup bs) := sort_uniq (h1.trans pm) (sorted_pair h2)
        subst this
        have g1 := PG.hid (o := SetX P w p m) i.i hn
        have g2 := PG.new (G := G) (o := .lst ((sortS (ddup bs)).map V.str)) g1.i hn2
        exact q _ _ _ (g1.trans g2) (.lst upd_same (atl_strs _))
    · cases ez
  · cases e
theorem sim_sortSet (h : SimA K W t fs) : SimE K W (tCB (rSortX P w) (tCons (tCB (rSetX P w K) t) tNil)) (fCB sortSetD fs) := by
  have z : SimE K W (tCB (fun vs H Q => rSetX P w K vs H fun x H1 => rSortX P w [x] H1 Q) t) (fCB sortSetD fs) := sim_cb sim_sortSet0 h
  exact z
theorem e_sortSet {Φ : D → Prop} {l : List Str} (h1 : l.length ≤ 4000) (h : (ddup l).length < 64) (p : Φ (.lst ((sortS (ddup l)).map D.str))) : ∃ z, sortSetD [.lst (l.map D.str)] = some z ∧ Φ z := ⟨_, by
  show (joinD.strsOf (l.map D.str)).bind _ = _
  rw [strs_map]
  show (if l.length ≤ 4000 ∧ (ddup l).length < 64 then some (D.lst ((sortS (ddup l)).map .str)) else none) = _
  rw [if_pos ⟨h1, h⟩], p⟩
end DF

set_option linter.all false
set_option maxRecDepth 100000
set_option maxHeartbeats 4000000
/-! == and != of tuples whose items are all equal, by an own == -/
namespace TX
open PySem PySem.Spec
open AutoSeq1 (wpAny_loadPart')
open MeetsSeq MeetsSeq2 MeetsSeq3 SeqRoads2
section
variable {P : Program} {w : World} {A : Around} {R : Result → Shared → Prop} {E : Value → Shared → Prop} {s : Shared}
theorem ne_body (l b : Addr) (xs ys : Array Value) (n m : Nat) (dx dy : Option Addr) (sx sy : Array (Option Value)) (same : xs.size = ys.size) (J : Nat → Shared → Prop)
    (one : ∀ i (h1 : i < xs.size) (h2 : i < ys.size) s, J i s → wpAny (model P w) A.in1 (eqBool xs[i] ys[i]) (fun r s1 => r = true ∧ J (i + 1) s1) (fun e s1 => R (.error e) s1) s)
    (last : ∀ s, J xs.size s → R (.ok (.ret (.bool false))) s) {s : Shared} (hl : s.heap.get? l = some { cls := .type "tuple", dict := dx, data := .seq xs n, slots := sx })
    (hb : s.heap.get? b = some { cls := .type "tuple", dict := dy, data := .seq ys m, slots := sy }) (j0 : J 0 s) :
    wpAny (model P w) A.in1 (Builtin.«tuple.__ne__» ⟨[.ref l, .ref b], []⟩) (GQ.FinOf P w A R) (fun e s1 => R (.error e) s1) s := by
  have sub := AutoSeq1.sub_tuple_tuple
  have len : (xs.toList.zip ys.toList).length = xs.size := by simp [same]
  have j1 := j0
  obtain ⟨hp, g, d, tk, os⟩ := s
  wp_walk using wpAny_loadPart' hl, wpAny_loadPart' hb, wpAny_forIn_list _ (fun rest st s1 => st.1 = none ∧ ∃ i, rest = (xs.toList.zip ys.toList).drop i ∧ i ≤ xs.size ∧ J i s1) _
  case turn =>
    rintro ⟨y, x⟩ rest st s1 ⟨e0, i, er, le, j⟩
    have lt : i < (xs.toList.zip ys.toList).length := by
      rcases Nat.lt_or_ge i (xs.toList.zip ys.toList).length with z | z
      · exact z
      · rw [List.drop_of_length_le z] at er; cases er
    have h1 : i < xs.size := by rw [← len]; exact lt
    have h2 : i < ys.size := by rw [← same]; exact h1
    rw [List.drop_eq_getElem_cons lt] at er
    injection er with ep er
    have ey : y = xs[i] := by have := congrArg Prod.fst ep; simpa using this
    have ex : x = ys[i] := by have := congrArg Prod.snd ep; simpa using this
    subst ey ex
    refine wpAny_bind (wpAny_mono (one i h1 h2 s1 j) (fun r s2 q => ?_) fun _ _ z => z)
    obtain ⟨rfl, q⟩ := q
    wp_walk
    exact ⟨rfl, i + 1, er, h1, q⟩
  case fin =>
    rintro ⟨c1, c2⟩ s1 ⟨e0, i, er, le, j⟩
    simp only at e0
    subst e0
    have ge : xs.size ≤ i := by
      rcases Nat.lt_or_ge i (xs.toList.zip ys.toList).length with z | z
      · rw [List.drop_eq_getElem_cons z] at er; cases er
      · rw [← len]; exact z
    have ei : i = xs.size := by omega
    have fin := last s1 (ei ▸ j)
    wp_walk
    simpa [Builtin.Tuple.tupleCompareSizes, same] using fin
  case h => exact ⟨rfl, 0, rfl, Nat.zero_le _, j1⟩
theorem rc_neT {l b : Addr} {xs ys : Array Value} {Q : Value → Shared → Prop} (same : xs.size = ys.size) (room : A.units < cLine) (J : Nat → Shared → Prop) (hl : s.heap.IsTuple l xs) (hb : s.heap.IsTuple b ys)
    (one : ∀ i (h1 : i < xs.size) (h2 : i < ys.size) s, J i s → wpAny (model P w) A.in1 (eqBool xs[i] ys[i]) (fun r s1 => r = true ∧ J (i + 1) s1) E s) (last : ∀ s, J xs.size s → Q (.bool false) s) (j0 : J 0 s) :
    wpAny (model P w) A (richCompare .NotEq (.ref l) (.ref b)) Q E s := by
  obtain ⟨⟨c1, d1, t1, s1⟩, o1, e1, n1, g1⟩ := id hl
  obtain ⟨⟨c2, d2, t2, s2⟩, o2, e2, n2, g2⟩ := id hb
  dsimp only at e1 e2 g1 g2
  subst e1 e2 g1 g2
  refine wpAny_richCompare_same_room (op := .NotEq) ⟨_, o1, rfl⟩ ⟨_, o2, rfl⟩ F.slot_tuple_ne (GQ.call_here F.slot_tuple_ne ⟨_, o1, rfl⟩ F.entry_tuple_ne (F.args_tuple_ne_2 _ _) ?_) room
  exact ne_body (R := wants (fun v s1 => v ≠ .notImplemented ∧ Q v s1) E) l b xs ys n1 n2 d1 d2 _ _ same J one (fun s1 z => ⟨(fun y => nomatch y), last s1 z⟩) o1 o2 j0
end
end TX
namespace DF
open PySem PySem.Spec PyProof.Rows L2 TX
section
variable [TbC] {X : Cx} {n : Nat} {C f : Addr} {fd : FuncData} {ps : List Str} {sp : Sp}
/-- pair by pair: both instances, the left of the class at C, equal by its own == -/
def ChT (K : PySem.W.Frag) (C : Addr) (sp : Sp) (r : Bool) (Q : VK) : List V → List V → Hp → Prop
  | [], [], H => Q (.bl r) H
  | x :: xs, y :: ys, H => (∃ a dx fs b, x = .ref a ∧ y = .ref b ∧ H a = some (.ins C dx fs)) ∧ TyR K C H y ∧ (x = y → ChT K C sp r Q xs ys H) ∧ sp [x, y] H (fun v H' => ∃ c, v = .bl c ∧ (V.bl (false != c) = V.bl true ∧ ChT K C sp r Q xs ys H')) fun _ _ _ => False
  | _, _, _ => False
theorem one_T {A : Around} {pins : List (Addr × Obj)} {σ : L2.St} {H : Hp} {s : Shared} {r : Bool} {Q : VK} {x y : V} {xs ys : List V} {u v : Value} (T : EqC X.K C f) (F : FnOk X.prog X.w X.K X.mg X.base CX0 n f fd ps sp) (hb : Binds X.K fd ps []) (hr : Room n A) (hf : A.frames = X.A.frames)
    (I : Inv X pins σ H s) (rx : RelV x u) (ry : RelV y v) (h : ChT X.K C sp r Q (x :: xs) (y :: ys) H) : wpAny (model X.prog X.w) A (eqBool u v) (fun b s1 => b = true ∧ ∃ H', Inv X pins σ H' s1 ∧ ChT X.K C sp r Q xs ys H') X.xe s := by
  obtain ⟨⟨a, dx, fs, b, rfl, rfl, ha⟩, ty, id_, hsp⟩ := h
  obtain rfl : u = Value.ref a := rx
  obtain rfl : v = Value.ref b := ry
  by_cases e : a = b
  · subst e
    exact SeqAt.EqAt.same (A := A) (s := s) (.ref a) X.prog X.w X.xe _ ⟨rfl, H, I, id_ rfl⟩
  · refine GQ.eqBool_refG e ?_
    obtain ⟨mA, J, _⟩ := ins_get I.hok ha
    obtain ⟨od, J, _⟩ := J.look
    obtain ⟨m, hF⟩ := I.fr
    obtain ⟨tb, hn, hl⟩ := looks_tyR I (show RelV (V.ref b) (Value.ref b) from rfl) ty
    refine PySem.W.cmp_K (op := .Eq) (tb := tb) hr.units0 hF I.ok.mod.kin J hl hn T.eqF T.isF ?_
    refine own_run F hb hr hf I (.cons (show RelV (V.ref a) (Value.ref a) from rfl) (.cons (show RelV (V.ref b) (Value.ref b) from rfl) .nil)) hsp fun w' u' s' H' I' rz ⟨c, ew, ec, q⟩ => ?_
    subst ew
    cases rz
    cases c with
    | true => exact ⟨true, rfl, rfl, H', I', q⟩
    | false => cases ec
def rTup (K : PySem.W.Frag) (C : Addr) (sp : Sp) (r : Bool) : R2 := fun x y H Q => ∃ a b xs ys, x = .ref a ∧ y = .ref b ∧ SqT K H a xs ∧ SqT K H b ys ∧ xs.length = ys.length ∧ ChT K C sp r Q xs ys H
theorem step_T {A : Around} {pins : List (Addr × Obj)} {σ : L2.St} {r : Bool} {Q : VK} {xs ys : List V} {us vs : List Value} (T : EqC X.K C f) (F : FnOk X.prog X.w X.K X.mg X.base CX0 n f fd ps sp) (hb : Binds X.K fd ps []) (hr : Room n A) (hf : A.frames = X.A.frames)
    (rx : Vals xs us) (ry : Vals ys vs) (i : Nat) (h1 : i < us.toArray.size) (h2 : i < vs.toArray.size) (s : Shared) (j : ∃ H', Inv X pins σ H' s ∧ ChT X.K C sp r Q (xs.drop i) (ys.drop i) H') :
    wpAny (model X.prog X.w) A (eqBool us.toArray[i] vs.toArray[i]) (fun b s1 => b = true ∧ ∃ H', Inv X pins σ H' s1 ∧ ChT X.K C sp r Q (xs.drop (i + 1)) (ys.drop (i + 1)) H') X.xe s := by
  obtain ⟨H', I, ch⟩ := j
  have l1 : i < xs.length := by rw [rx.length]; simpa using h1
  have l2 : i < ys.length := by rw [ry.length]; simpa using h2
  obtain ⟨u, hu, ru⟩ := rx.get (List.getElem?_eq_getElem l1)
  obtain ⟨v, hv, rv⟩ := ry.get (List.getElem?_eq_getElem l2)
  have eu : us.toArray[i] = u := by
    have : us[i]? = some us.toArray[i] := by
      have h1' : i < us.length := by simpa using h1
      rw [List.getElem?_eq_getElem h1']; simp
    rw [hu] at this
    exact (Option.some.inj this).symm
  have ev : vs.toArray[i] = v := by
    have : vs[i]? = some vs.toArray[i] := by
      have h2' : i < vs.length := by simpa using h2
      rw [List.getElem?_eq_getElem h2']; simp
    rw [hv] at this
    exact (Option.some.inj this).symm
  rw [eu, ev]
  rw [List.drop_eq_getElem_cons l1, List.drop_eq_getElem_cons l2] at ch
  exact one_T T F hb hr hf I ru rv ch
theorem end_T {r : Bool} {Q : VK} {xs ys : List V} {H : Hp} {i j : Nat} (h : ChT X.K C sp r Q (xs.drop i) (ys.drop j) H) (hi : xs.length ≤ i) (hj : ys.length ≤ j) : Q (.bl r) H := by
  rw [List.drop_eq_nil_of_le hi, List.drop_eq_nil_of_le hj] at h
  exact h
theorem op_eqT (T : EqC X.K C f) (F : FnOk X.prog X.w X.K X.mg X.base CX0 n f fd ps sp) (hb : Binds X.K fd ps []) (hr : Room (n + 1) X.A) : OpR X (compareOp .Eq) (rTup X.K C sp true) := by
  intro pins s σ H x y v u Q I rx ry h
  obtain ⟨a, b, xs, ys, rfl, rfl, ha, hb', len, ch⟩ := h
  cases rx
  cases ry
  obtain ⟨us, r1, e1, z1⟩ := I.tuple ha
  obtain ⟨vs, r2, e2, z2⟩ := I.tuple hb'
  show wpAny (model X.prog X.w) X.A (richCompare .Eq (.ref a) (.ref b)) _ _ _
  refine GQ.rc_tupG (by rw [List.size_toArray, List.size_toArray, ← r1.length, ← r2.length]; exact len) (by have := hr.un; omega) (fun i s1 => ∃ H', Inv X pins σ H' s1 ∧ ChT X.K C sp true Q (xs.drop i) (ys.drop i) H') e1 e2
    (fun i h1 h2 s1 j => step_T T F hb hr.in1 rfl r1 r2 i h1 h2 s1 j) (fun s1 ⟨H', I', ch⟩ => ⟨.bl true, H', I', rfl, end_T ch (by rw [r1.length]; simp) (by rw [← len, r1.length]; simp)⟩) ⟨H, I, ch⟩
theorem op_neT (T : EqC X.K C f) (F : FnOk X.prog X.w X.K X.mg X.base CX0 n f fd ps sp) (hb : Binds X.K fd ps []) (hr : Room (n + 1) X.A) : OpR X (compareOp .NotEq) (rTup X.K C sp false) := by
  intro pins s σ H x y v u Q I rx ry h
  obtain ⟨a, b, xs, ys, rfl, rfl, ha, hb', len, ch⟩ := h
  cases rx
  cases ry
  obtain ⟨us, r1, e1, z1⟩ := I.tuple ha
  obtain ⟨vs, r2, e2, z2⟩ := I.tuple hb'
  show wpAny (model X.prog X.w) X.A (richCompare .NotEq (.ref a) (.ref b)) _ _ _
  refine rc_neT (by rw [List.size_toArray, List.size_toArray, ← r1.length, ← r2.length]; exact len) (by have := hr.un; omega) (fun i s1 => ∃ H', Inv X pins σ H' s1 ∧ ChT X.K C sp false Q (xs.drop i) (ys.drop i) H') e1 e2
    (fun i h1 h2 s1 j => step_T T F hb hr.in1 rfl r1 r2 i h1 h2 s1 j) (fun s1 ⟨H', I', ch⟩ => ⟨.bl false, H', I', rfl, end_T ch (by rw [r1.length]; simp) (by rw [← len, r1.length]; simp)⟩) ⟨H, I, ch⟩
end
theorem eqT_K {K : PySem.W.Frag} [TbC] {X : Cx} {n : Nat} {C f : Addr} {fd : FuncData} {ps : List Str} {sp : Sp} (hK : X.K = K) (T : EqC X.K C f) (F : FnOk X.prog X.w X.K X.mg X.base CX0 n f fd ps sp) (hb : Binds X.K fd ps []) (hr : Room (n + 1) X.A) : OpR X (compareOp .Eq) (rTup K C sp true) := by subst hK; exact op_eqT T F hb hr
theorem neT_K {K : PySem.W.Frag} [TbC] {X : Cx} {n : Nat} {C f : Addr} {fd : FuncData} {ps : List Str} {sp : Sp} (hK : X.K = K) (T : EqC X.K C f) (F : FnOk X.prog X.w X.K X.mg X.base CX0 n f fd ps sp) (hb : Binds X.K fd ps []) (hr : Room (n + 1) X.A) : OpR X (compareOp .NotEq) (rTup K C sp false) := by subst hK; exact op_neT T F hb hr
def sameI (cs : List Str) (tb : ITab) (cn : Str) (F : FF) : D → D → Bool
  | x, .ins c gs => match eqI cs tb cn F false x (.ins c gs) with
    | some (.bl true) => true
    | _ => false
  | _, _ => false
def allT (cs : List Str) (tb : ITab) (cn : Str) (F : FF) : List D → List D → Bool
  | [], [] => true
  | x :: xs, y :: ys => sameI cs tb cn F x y && allT cs tb cn F xs ys
  | _, _ => false
/-- == (r = true) and != (r = false) of tuples of instances that are equal pair by pair -/
def eqT (cs : List Str) (tb : ITab) (cn : Str) (F : FF) (r : Bool) : D → D → Option D
  | .tup xs, .tup ys => if allT cs tb cn F xs ys = true then some (.bl r) else none
  | _, _ => none
section
variable [TbC] {K : PySem.W.Frag} {cs : List Str} {tb : ITab} {cn : Str} {C : Addr} {F : FF} {r : Bool}
theorem sameI_at {x y : D} (h : sameI cs tb cn F x y = true) : eqI cs tb cn F false x y = some (.bl true) ∧ ∃ c gs, y = .ins c gs := by
  unfold sameI at h
  split at h
  · split at h
    · exact ⟨‹_›, _, _, rfl⟩
    · cases h
  · cases h
theorem chain_T (T : IsiT K cs tb) (ct : CT K cn C) {Q : VK} : ∀ {xs ys : List D} {us vs : List V} {G H : Hp}, Bs G H → AtL K G us xs → AtL K G vs ys → allT cs tb cn F xs ys = true → (∀ w G' H', PG G H G' H' → At K G' w (.bl r) → Q w H') → ChT K C (spF K F) r Q us vs H
  | [], [], _, _, G, H, bs, .nil, .nil, _, q => q _ G H (PG.refl bs.i) (.bl r)
  | [], _ :: _, _, _, _, _, _, _, _, h, _ => by cases h
  | _ :: _, [], _, _, _, _, _, _, _, h, _ => by cases h
  | x :: xs, y :: ys, u :: us, v :: vs, G, H, bs, .cons hu lu, .cons hv lv, h, q => by
    obtain ⟨h1, h2⟩ := Bool.and_eq_true_iff.mp (show (sameI cs tb cn F x y && allT cs tb cn F xs ys) = true from h)
    obtain ⟨e1, c, gs, rfl⟩ := sameI_at h1
    have z := sim_eqI T ct (F := F) x (.ins c gs) _ e1 G H u v bs hu hv (fun w H' => w = V.bl true ∧ ChT K C (spF K F) r Q us vs H') fun w G' H' pg aw => ⟨by cases aw; rfl, chain_T T ct ((pg.iv (K := K) bs.iv).bs) (lu.mono pg.g) (lv.mono pg.g) h2 fun w' G2 H2 pg2 a2 => q w' G2 H2 (pg.trans pg2) a2⟩
    obtain ⟨a, dx, fs, rfl, ha, ty, hsp⟩ := z
    obtain ⟨b, rfl⟩ : ∃ b, v = .ref b := by cases hv; exact ⟨_, rfl⟩
    exact ⟨⟨a, dx, fs, b, rfl, rfl, ha⟩, ty, fun _ => chain_T T ct bs lu lv h2 q, hsp⟩
theorem sim_eqT (T : IsiT K cs tb) (ct : CT K cn C) : SimR2 K (rTup K C (spF K F) r) (eqT cs tb cn F r) := by
  intro x y z e G H u v bs hu hv Q q
  unfold eqT at e
  split at e
  · split at e
    · cases e
      cases hu with
      | tup hp lx =>
        cases hv with
        | tup hq ly =>
          have len : ∀ {xs ys : List D}, allT cs tb cn F xs ys = true → xs.length = ys.length := by
            intro xs
            induction xs with
            | nil => intro ys h; cases ys with | nil => rfl | cons _ _ => cases h
            | cons x xs ih =>
              intro ys h
              cases ys with
              | nil => cases h
              | cons y ys => rw [List.length_cons, List.length_cons, ih (Bool.and_eq_true_iff.mp (show (sameI cs tb cn F x y && allT cs tb cn F xs ys) = true from h)).2]
          exact ⟨_, _, _, _, rfl, rfl, sqT_ext hp bs.i, sqT_ext hq bs.i, by rw [AtL.length lx, AtL.length ly]; exact len ‹_›, chain_T T ct bs lx ly ‹_› q⟩
    · cases e
  · cases e
theorem r_orT {f : D → D → Option D} {xs ys : List D} {Φ : D → Prop} (n : f (.tup xs) (.tup ys) = none) (h : allT cs tb cn F xs ys = true) (p : Φ (.bl r)) : ∃ z, orD f (eqT cs tb cn F r) (.tup xs) (.tup ys) = some z ∧ Φ z :=
  r_orR n ⟨_, if_pos h, p⟩
end
end DF

set_option linter.all false
set_option maxRecDepth 100000
set_option maxHeartbeats 4000000
/-! rules for proofs: loops over ranges and over written lists, enumerate, zip, small numbers against [] -/
namespace DF
open PySem PySem.Spec PyProof.Rows L2
variable [TbC]
section
variable {Γ : EnvF} {fs : FA} {Φ : List D → EnvF → Prop}
end
/-! ### loops over ranges -/
theorem lenR {l m : Int} : (rangeD l m).length = (m - l).toNat := by simp [rangeD]
theorem rngC {lo hi : Int} (h : lo < hi) : rangeD lo hi = .int lo :: rangeD (lo + 1) hi := by
  unfold rangeD
  have : (hi - lo).toNat = (hi - (lo + 1)).toNat + 1 := by omega
  rw [this, List.range_succ_eq_map, List.map_cons, List.map_map]
  congr 1
  · congr 1; omega
  · apply List.map_congr_left
    intro i _
    show D.int (lo + ((i + 1 : Nat) : Int)) = D.int (lo + 1 + (i : Int))
    congr 1
    omega
theorem rngN {lo hi : Int} (h : hi ≤ lo) : rangeD lo hi = [] := by
  unfold rangeD
  rw [show (hi - lo).toNat = 0 by omega]
  rfl
section
variable {Γ : EnvF}
theorem x_forI {g : D → FM Unit} {fS : FS} {ΦS : Fl → EnvF → Prop} {lo hi : Int} (I : Int → EnvF → Prop) (hl : lo ≤ hi) (h : I lo Γ)
    (step : ∀ i Γ, lo ≤ i → i < hi → I i Γ → X (g (.int i)) Γ fun _ Γ1 => X fS Γ1 (ForK (I (i + 1)) ΦS)) (fin : ∀ Γ, I hi Γ → ΦS .nx Γ) : X (forL g fS (rangeD lo hi)) Γ ΦS := by
  refine x_forL (fun ds Γ => ∃ i, lo ≤ i ∧ i ≤ hi ∧ ds = rangeD i hi ∧ I i Γ) ⟨lo, Int.le_refl _, hl, rfl, h⟩ ?_ ?_
  · rintro d ds Γ ⟨i, h1, h2, e, hi'⟩
    by_cases l : i < hi
    · rw [rngC l] at e
      cases e
      refine (step i Γ h1 l hi').imp fun _ _ p => p.imp fun v Γ' q => ?_
      cases v with
      | nx => exact ⟨i + 1, by omega, by omega, rfl, q⟩
      | ct => exact ⟨i + 1, by omega, by omega, rfl, q⟩
      | bk => exact q
      | rt v => exact q
    · rw [rngN (by omega)] at e
      cases e
  · rintro Γ ⟨i, h1, h2, e, hi'⟩
    by_cases l : i < hi
    · rw [rngC l] at e
      cases e
    · have : i = hi := by omega
      subst this
      exact fin _ hi'
theorem x_lcI {g : D → FM Unit} {ft : FT} {fa : FE} {ΦL : List D → EnvF → Prop} {vs : List Nat} {lo hi : Int} (I : Int → List D → EnvF → Prop) {acc : List D} (hl : lo ≤ hi) (h : I lo acc Γ)
    (step : ∀ i acc Γ, lo ≤ i → i < hi → I i acc Γ → ∃ Γw, wipeF Γ vs = Γw ∧ (vs.all fun v => !isOwn (Γ.getD v .no)) = true ∧ X (g (.int i)) Γw fun _ Γ1 => X ft Γ1 fun k Γ2 => (k = true → X (fV fa) Γ2 fun y Γ3 => (backF Γ Γ3 vs).map isOwn = Γ.map isOwn ∧ I (i + 1) (acc ++ [y]) (backF Γ Γ3 vs)) ∧ (k = false → (backF Γ Γ2 vs).map isOwn = Γ.map isOwn ∧ I (i + 1) acc (backF Γ Γ2 vs)))
    (fin : ∀ acc Γ, I hi acc Γ → ΦL acc Γ) : X (lcL g ft fa vs (rangeD lo hi) acc) Γ ΦL := by
  refine x_lcL (fun ds acc Γ => ∃ i, lo ≤ i ∧ i ≤ hi ∧ ds = rangeD i hi ∧ I i acc Γ) ⟨lo, Int.le_refl _, hl, rfl, h⟩ ?_ ?_
  · rintro d ds acc Γ ⟨i, h1, h2, e, hi'⟩
    by_cases l : i < hi
    · rw [rngC l] at e
      cases e
      obtain ⟨Γw, ew, ho, p⟩ := step i acc Γ h1 l hi'
      refine ⟨Γw, ew, ho, p.imp fun _ _ p => p.imp fun k _ p => ⟨fun hk => (p.1 hk).imp fun y _ q => ⟨q.1, i + 1, by omega, by omega, rfl, q.2⟩, fun hk => ⟨(p.2 hk).1, i + 1, by omega, by omega, rfl, (p.2 hk).2⟩⟩⟩
    · rw [rngN (by omega)] at e
      cases e
  · rintro acc Γ ⟨i, h1, h2, e, hi'⟩
    by_cases l : i < hi
    · rw [rngC l] at e
      cases e
    · have : i = hi := by omega
      subst this
      exact fin _ _ hi'
end
/-! ### lists of small numbers against the empty list; rows of three -/
def smI (d : D) : Prop := ∃ i : Int, d = .int i ∧ i.natAbs < 1000
end DF

set_option linter.all false
set_option maxRecDepth 100000
set_option maxHeartbeats 4000000
namespace Ks
open PySem PySem.Spec PyProof.Rows L2 DF

abbrev cs_ : List Str := ["Row"]
def xt_ : List (Str × Str × Bool) := []
def kt_ : List (Str × Str × Bool) := []
def kty_ : List (Str × String × Bool) := []
def lv_ : List (Str × Str) := []
def tb_ : ITab := [(.ty "NoneType", .ty "int", false), (.ty "NoneType", .ty "bool", false), (.ty "NoneType", .ty "str", false), (.ty "NoneType", .ty "tuple", false), (.ty "NoneType", .cls "Row", false), (.ty "bool", .ty "int", true), (.ty "bool", .ty "bool", true), (.ty "bool", .ty "str", false), (.ty "bool", .ty "tuple", false), (.ty "bool", .cls "Row", false), (.ty "int", .ty "int", true), (.ty "int", .ty "bool", false), (.ty "int", .ty "str", false), (.ty "int", .ty "tuple", false), (.ty "int", .cls "Row", false), (.ty "str", .ty "int", false), (.ty "str", .ty "bool", false), (.ty "str", .ty "str", true), (.ty "str", .ty "tuple", false), (.ty "str", .cls "Row", false), (.ty "tuple", .ty "int", false), (.ty "tuple", .ty "bool", false), (.ty "tuple", .ty "str", false), (.ty "tuple", .ty "tuple", true), (.ty "tuple", .cls "Row", false), (.ty "list", .ty "int", false), (.ty "list", .ty "bool", false), (.ty "list", .ty "str", false), (.ty "list", .ty "tuple", false), (.ty "list", .cls "Row", false), (.cls "Row", .ty "int", false), (.cls "Row", .ty "bool", false), (.cls "Row", .ty "str", false), (.cls "Row", .ty "tuple", false), (.cls "Row", .cls "Row", true)]
def B_l_wind : FS := (fSeq (fIfS (fTest (fOp gtD (fIxO 0 (fC (.int (0)))) (fC (.int (0))))) (fSeq (fAsgG (fCB divmodD (fCons (fIxO 0 (fC (.int (0)))) (fCons (fVar 1) fNil))) (pTup 2 (pCons (pSub 0 (fC (.int (0)))) (pCons (pName 2) pNil)))) (fRet (fVar 2))) fNx) (fSeq (fAsgG (fOp addD (fIxO 0 (fC (.int (2)))) (fC (.int (1)))) (pSub 0 (fC (.int (2))))) (fSeq (fAsgG (fOp modD (fCB intOf (fCons (fOp addD (fOp addD (fOp mulD (fIxO 0 (fC (.int (1)))) (fC (.int (48017)))) (fOp mulD (fOp mulD (fIxO 0 (fC (.int (2)))) (fIxO 0 (fC (.int (2))))) (fC (.int (1009))))) (fC (.int (77)))) fNil)) (fC (.int (2147480009)))) (pSub 0 (fC (.int (1))))) (fRet (fOp modD (fCB intOf (fCons (fOp fdivD (fIxO 0 (fC (.int (1)))) (fC (.int (211)))) fNil)) (fVar 1))))))
def F_l_wind : FF := okF (defF 2 3 B_l_wind)
def B_l_one_of : FS := (fRet (fOp ixD (fVar 1) (fCall F_l_wind (fCons (fVar 0) (fCons (fCB lenD (fCons (fVar 1) fNil)) fNil)))))
def F_l_one_of : FF := okF (defF 2 2 B_l_one_of)
def B_l_line : FS := (fSeq (fAsg 3 (fOp addD (fSl (fC (.str "abcd")) fNoPart (fPart (fVar 1))) (fSl (fC (.str "ABCD")) fNoPart (fPart (fVar 1))))) (fRet (fBM "str" joinD (fC (.str "")) (fCons (fLc (wRng1 (fCons (fCall F_l_wind (fCons (fVar 0) (fCons (fOp addD (fVar 2) (fC (.int (1)))) fNil))) fNil)) (pName 4) fYes (fCall F_l_one_of (fCons (fVar 0) (fCons (fVar 3) fNil))) [4]) fNil))))
def F_l_line : FF := okF (defF 3 5 B_l_line)
def B_l_struck : FS := (fSeq (fAsg 1 (fLstO fNil)) (fSeq (fFor (wAny (fVar 0)) (pName 2) (fIfS (fAnd (fPkT (fTest (fOp neD (fVar 1) (fLst fNil)))) (fAnd (fTest (fOp neD (fIxO 1 (fUn negD (fC (.int (1))))) (fVar 2))) (fTest (fOp eqD (fBM0 "str" lowerD (fIxO 1 (fUn negD (fC (.int (1)))))) (fBM0 "str" lowerD (fVar 2)))))) (fDrop (fPop 1)) (fDrop (fAppend 1 (fVar 2))))) (fRet (fPk (fBM "str" joinD (fC (.str "")) (fCons (fVar 1) fNil))))))
def F_l_struck : FF := okF (defF 1 3 B_l_struck)
def B_l_back : FS := (fRet (fBM "str" joinD (fC (.str "")) (fCons (fLc (wAny (fRevS (fVar 0))) (pName 1) fYes (fIf (fTru (fBM0 "str" islowD (fVar 1))) (fBM0 "str" upperD (fVar 1)) (fBM0 "str" lowerD (fVar 1))) [1]) fNil)))
def F_l_back : FF := okF (defF 1 2 B_l_back)
def B_l_shortest : FS := (fSeq (fParO 2 3 (fCons (fLst (fCons (fVar 1) fNil)) (fCons (fLstO (fCons (fVar 1) fNil)) fNil))) (fSeq (fFor (wRng1 (fCons (fC (.int (500))) fNil)) (pName 4) (fSeq (fAsg 6 (fLstO fNil)) (fSeq (fFor (wAny (fVar 2)) (pName 7) (fFor (wAny (fOp addD (fSl (fC (.str "abcd")) fNoPart (fPart (fVar 0))) (fSl (fC (.str "ABCD")) fNoPart (fPart (fVar 0))))) (pName 8) (fSeq (fAsg 9 (fCall F_l_struck (fCons (fOp addD (fOp addD (fVar 8) (fVar 7)) (fCall F_l_back (fCons (fVar 8) fNil))) fNil))) (fIfS (fAnd (fTest (fOp leD (fCB lenD (fCons (fVar 9) fNil)) (fCB lenD (fCons (fVar 7) fNil)))) (fPkT (fTest (fOp notInLD (fVar 9) (fVar 3))))) (fSeq (fDrop (fAppend 3 (fVar 9))) (fDrop (fAppend 6 (fVar 9)))) fNx)))) (fSeq (fFrz 6 (fAsg 2 (fVar 6))) (fIfS (fTest (fOp eqD (fVar 2) (fLst fNil))) fBrk fNx))))) (fSeq (fFrz 3 (fAsg 5 (fCB minOf (fCons (fLc (wAny (fVar 3)) (pName 10) fYes (fCB lenD (fCons (fVar 10) fNil)) [10]) fNil)))) (fRet (fCB sortSD (fCons (fLc (wAny (fVar 3)) (pName 10) (fTest (fOp eqD (fCB lenD (fCons (fVar 10) fNil)) (fVar 5))) (fVar 10) [10]) fNil))))))
def F_l_shortest : FF := okF (defF 2 11 B_l_shortest)
def B_is_integer : FS := (fRet (fAndV (fCB (isiD cs_ tb_) (fCons (fVar 0) (fCons (fC (.ty "int")) fNil))) (fNotV (fCB (isiD cs_ tb_) (fCons (fVar 0) (fCons (fC (.ty "bool")) fNil))))))
def F_is_integer : FF := okF (defF 1 1 B_is_integer)
def B_ways_of : FS := (fRet (fSl (fC (.str "aAbBcCdD")) fNoPart (fPart (fOp mulD (fC (.int (2))) (fVar 0)))))
def F_ways_of : FF := okF (defF 1 1 B_ways_of)
def B_is_word : FS := (fSeq (fIfS (fOr (fNot (fTru (fCB (isiD cs_ tb_) (fCons (fVar 1) (fCons (fC (.ty "str")) fNil))))) (fTest (fOp gtD (fCB lenD (fCons (fVar 1) fNil)) (fC (.int (400)))))) (fRet (fC (.bl false))) fNx) (fSeq (fAsg 2 (fCall F_ways_of (fCons (fVar 0) fNil))) (fRet (fCB allD (fCons (fLc (wAny (fVar 1)) (pName 3) fYes (fOp inSD (fVar 3) (fVar 2)) [3]) fNil)))))
def F_is_word : FF := okF (defF 2 4 B_is_word)
def B_word_reduced : FS := (fSeq (fAsg 1 (fLstO fNil)) (fSeq (fFor (wAny (fVar 0)) (pName 2) (fIfS (fAnd (fPkT (fTru (fVar 1))) (fTest (fOp eqD (fIxO 1 (fUn negD (fC (.int (1))))) (fBM0 "str" swapD (fVar 2))))) (fDrop (fPop 1)) (fDrop (fAppend 1 (fVar 2))))) (fRet (fPk (fBM "str" joinD (fC (.str "")) (fCons (fVar 1) fNil))))))
def F_word_reduced : FF := okF (defF 1 3 B_word_reduced)
def B_Row_init : FS := (fSeq (fIfS (fOr (fNot (fTru (fCall F_is_integer (fCons (fVar 1) fNil)))) (fOr (fTest (fOp ltD (fVar 1) (fC (.int (1))))) (fTest (fOp gtD (fVar 1) (fC (.int (4))))))) fNever fNx) (fSeq (fIfS (fNot (fTru (fCall F_is_word (fCons (fVar 1) (fCons (fVar 2) fNil))))) fNever fNx) (fSeq (fSetF "Row" "_letters" 0 (fVar 1)) (fSetF "Row" "_word" 0 (fCall F_word_reduced (fCons (fVar 2) fNil))))))
def F_Row_init : FF := okF (defF 3 3 B_Row_init)
def B_check_row : FS := (fIfS (fNot (fTru (fCB (isiD cs_ tb_) (fCons (fVar 0) (fCons (fC (.cls "Row")) fNil))))) fNever fNx)
def F_check_row : FF := okF (defF 1 1 B_check_row)
def B_neck_and_round : FS := (fSeq (fAsg 1 (fC (.int (0)))) (fSeq (fAsg 2 (fOp subD (fCB lenD (fCons (fVar 0) fNil)) (fC (.int (1))))) (fSeq (fWhile 1000000 (fAnd (fTest (fOp ltD (fVar 1) (fOp subD (fVar 2) (fVar 1)))) (fTest (fOp eqD (fOp ixD (fVar 0) (fVar 1)) (fBM0 "str" swapD (fOp ixD (fVar 0) (fOp subD (fVar 2) (fVar 1))))))) (fAug 1 (intD fun i j => .int (i + j)) (fC (.int (1))))) (fRet (fTup (fCons (fSl (fVar 0) fNoPart (fPart (fVar 1))) (fCons (fSl (fVar 0) (fPart (fVar 1)) (fPart (fOp subD (fCB lenD (fCons (fVar 0) fNil)) (fVar 1)))) fNil)))))))
def F_neck_and_round : FF := okF (defF 1 3 B_neck_and_round)
def B_Row_word : FS := (fRet (fFld "Row" "_word" (fVar 0)))
def F_Row_word : FF := okF (defF 1 1 B_Row_word)
def B_Row_letters : FS := (fRet (fFld "Row" "_letters" (fVar 0)))
def F_Row_letters : FF := okF (defF 1 1 B_Row_letters)
def B_turns_of : FS := (fRet (fCB sortSetD (fCons (fLc (wRng1 (fCons (fCB max2D (fCons (fC (.int (1))) (fCons (fCB lenD (fCons (fVar 0) fNil)) fNil))) fNil)) (pName 1) fYes (fOp addD (fSl (fVar 0) (fPart (fVar 1)) fNoPart) (fSl (fVar 0) fNoPart (fPart (fVar 1)))) [1]) fNil)))
def F_turns_of : FF := okF (defF 1 2 B_turns_of)
def B_row_turns : FS := (fSeq (fDrop (fCall F_check_row (fCons (fVar 0) fNil))) (fSeq (fAsg 1 (fOp ixD (fCall F_neck_and_round (fCons (fProp "Row" F_Row_word (fVar 0)) fNil)) (fC (.int (1))))) (fRet (fCB tupOf (fCons (fLc (wAny (fCall F_turns_of (fCons (fVar 1) fNil))) (pName 2) fYes (fMake "Row" F_Row_init (fCons (fProp "Row" F_Row_letters (fVar 0)) (fCons (fVar 2) fNil))) [2]) fNil)))))
def F_row_turns : FF := okF (defF 1 3 B_row_turns)
def B_Row_eq : FS := (fRet (fAndV (fCB (isiD cs_ tb_) (fCons (fVar 1) (fCons (fC (.cls "Row")) fNil))) (fAndV (fOp eqD (fFld "Row" "_letters" (fVar 0)) (fFld "Row" "_letters" (fVar 1))) (fOp eqD (fFld "Row" "_word" (fVar 0)) (fFld "Row" "_word" (fVar 1))))))
def F_Row_eq : FF := okF (defF 2 2 B_Row_eq)
def B_row_least : FS := (fRet (fOp ixD (fCall F_row_turns (fCons (fVar 0) fNil)) (fC (.int (0)))))
def F_row_least : FF := okF (defF 1 1 B_row_least)
def B_l_turns_right : FS := (fSeq (fAsg 3 (fMake "Row" F_Row_init (fCons (fVar 0) (fCons (fVar 1) fNil)))) (fSeq (fAsg 4 (fLst (fCons (fCall F_row_turns (fCons (fVar 3) fNil)) (fCons (fCallN F_row_turns 0 1 [0] fNil (fCons (fVar 3) fNil)) fNil)))) (fSeq (fIfS (fOr (fTest (fOp (orD neD (eqT cs_ tb_ "Row" F_Row_eq false)) (fLc (wAny (fVar 4)) (pName 5) (fNot (fTru (fCB (isiD cs_ tb_) (fCons (fVar 5) (fCons (fC (.ty "tuple")) fNil))))) (fVar 5) [5]) (fLst fNil))) (fTest (fOp (orD neD (eqT cs_ tb_ "Row" F_Row_eq false)) (fOp ixD (fVar 4) (fC (.int (0)))) (fOp ixD (fVar 4) (fC (.int (1))))))) (fRet (fC (.bl false))) fNx) (fSeq (fIfS (fOr (fTest (fOp (orD neD (eqT cs_ tb_ "Row" F_Row_eq false)) (fLc (wAny (fOp ixD (fVar 4) (fC (.int (0))))) (pName 5) fYes (fProp "Row" F_Row_word (fVar 5)) [5]) (fVar 2))) (fTest (fOp (orD neD (eqT cs_ tb_ "Row" F_Row_eq false)) (fLc (wAny (fOp ixD (fVar 4) (fC (.int (0))))) (pName 5) fYes (fProp "Row" F_Row_letters (fVar 5)) [5]) (fOp mulD (fLst (fCons (fVar 0) fNil)) (fCB lenD (fCons (fVar 2) fNil)))))) (fRet (fC (.bl false))) fNx) (fRet (fOp (orD eqD (eqT cs_ tb_ "Row" F_Row_eq true)) (fLst (fCons (fProp "Row" F_Row_word (fCall F_row_least (fCons (fVar 3) fNil))) (fCons (fProp "Row" F_Row_word (fCallN F_row_least 0 1 [0] fNil (fCons (fVar 3) fNil))) fNil))) (fLst (fCons (fOp ixD (fVar 2) (fC (.int (0)))) (fCons (fOp ixD (fVar 2) (fC (.int (0)))) fNil)))))))))
def F_l_turns_right : FF := okF (defF 3 6 B_l_turns_right)
def B_l_plain : FS := (fRet (fBM "str" joinD (fC (.str "")) (fCons (fLc (wRng1 (fCons (fVar 2) fNil)) (pName 3) fYes (fCall F_l_one_of (fCons (fVar 0) (fCons (fSl (fC (.str "abcd")) fNoPart (fPart (fVar 1))) fNil))) [3]) fNil)))
def F_l_plain : FF := okF (defF 3 4 B_l_plain)
def B_l_right : FS := (fSeq (fFor (wRng1 (fCons (fC (.int (4))) fNil)) (pName 1) (fSeq (fAsg 2 (fOp addD (fC (.int (1))) (fCall F_l_wind (fCons (fVar 0) (fCons (fC (.int (4))) fNil))))) (fSeq (fAsgG (fTup (fCons (fCall F_l_line (fCons (fVar 0) (fCons (fVar 2) (fCons (fC (.int (3))) fNil)))) (fCons (fCall F_l_line (fCons (fVar 0) (fCons (fVar 2) (fCons (fC (.int (8))) fNil)))) fNil))) (pTup 2 (pCons (pName 7) (pCons (pName 4) pNil)))) (fSeq (fAsg 4 (fCall F_l_struck (fCons (fOp addD (fOp addD (fVar 7) (fVar 4)) (fCall F_l_back (fCons (fVar 7) fNil))) fNil))) (fSeq (fAsg 6 (fCall F_l_shortest (fCons (fVar 2) (fCons (fVar 4) fNil)))) (fSeq (fIfS (fNot (fTru (fCall F_l_turns_right (fCons (fVar 2) (fCons (fVar 4) (fCons (fVar 6) fNil)))))) (fRet (fC (.bl false))) fNx) (fSeq (fAsg 8 (fCall F_l_line (fCons (fVar 0) (fCons (fVar 2) (fCons (fC (.int (4))) fNil))))) (fIfS (fNot (fTru (fCall F_l_turns_right (fCons (fVar 2) (fCons (fCall F_l_struck (fCons (fOp addD (fOp addD (fVar 8) (fVar 4)) (fCall F_l_back (fCons (fVar 8) fNil))) fNil)) (fCons (fVar 6) fNil)))))) (fRet (fC (.bl false))) fNx)))))))) (fSeq (fPar 2 3 (fCons (fOp addD (fC (.int (1))) (fCall F_l_wind (fCons (fVar 0) (fCons (fC (.int (4))) fNil)))) (fCons (fOp addD (fC (.int (1))) (fCall F_l_wind (fCons (fVar 0) (fCons (fC (.int (20))) fNil)))) fNil))) (fSeq (fAsg 4 (fOp mulSA (fCall F_l_plain (fCons (fVar 0) (fCons (fVar 2) (fCons (fVar 3) fNil)))) (fCall F_l_one_of (fCons (fVar 0) (fCons (fLst (fCons (fC (.int (1))) (fCons (fC (.int (1))) (fCons (fC (.int (2))) (fCons (fC (.int (20))) fNil))))) fNil))))) (fSeq (fAsg 5 (fLc (wRng1 (fCons (fCB lenD (fCons (fVar 4) fNil)) fNil)) (pName 9) fYes (fOp addD (fSl (fVar 4) (fPart (fVar 9)) fNoPart) (fSl (fVar 4) fNoPart (fPart (fVar 9)))) [9])) (fSeq (fAsg 6 (fCB sortSD (fCons (fLc (wRng1 (fCons (fCB lenD (fCons (fVar 4) fNil)) fNil)) (pName 9) (fTest (fOp notInLD (fOp ixD (fVar 5) (fVar 9)) (fSl (fVar 5) fNoPart (fPart (fVar 9))))) (fOp ixD (fVar 5) (fVar 9)) [9]) fNil))) (fRet (fAndV (fCall F_l_turns_right (fCons (fVar 2) (fCons (fVar 4) (fCons (fVar 6) fNil)))) (fOp (orD eqD (eqI cs_ tb_ "Row" F_Row_eq false)) (fCall F_row_least (fCons (fMake "Row" F_Row_init (fCons (fVar 2) (fCons (fC (.str "")) fNil))) fNil)) (fMake "Row" F_Row_init (fCons (fVar 2) (fCons (fC (.str "")) fNil)))))))))))
def F_l_right : FF := okF (defF 1 10 B_l_right)
def B_l_reel : FS := (fSeq (fAsg 2 (fIf (fTest (fOp ltD (fVar 1) (fCB lenD (fCons (fVar 0) fNil)))) (fOp ixD (fVar 0) (fVar 1)) (fOp addD (fOp mulD (fC (.int (211))) (fVar 1)) (fC (.int (37)))))) (fSeq (fAsg 3 (fOp addD (fC (.int (320009))) (fOp mulD (fC (.int (977))) (fVar 1)))) (fSeq (fFor (wAny (fOp addD (fSl (fVar 0) fNoPart (fPart (fC (.int (5))))) (fLst (fCons (fVar 2) fNil)))) (pName 4) (fAsg 3 (fOp modD (fCB intOf (fCons (fOp addD (fOp mulD (fVar 3) (fC (.int (52501)))) (fOp modD (fCB intOf (fCons (fVar 4) fNil)) (fC (.int (2147480009))))) fNil)) (fC (.int (2147480009)))))) (fRet (fLstO (fCons (fIf (fOr (fTest (fOp ltD (fVar 2) (fC (.int (0))))) (fTest (fOp geD (fVar 2) (fOp powD (fC (.int (10))) (fC (.int (16))))))) (fCB absD (fCons (fVar 2) fNil)) (fC (.int (0)))) (fCons (fVar 3) (fCons (fC (.int (1))) fNil))))))))
def F_l_reel : FF := okF (defF 2 5 B_l_reel)
def B_law : FS := (fRet (fCB allD (fCons (fLc (wRng1 (fCons (fC (.int (2))) fNil)) (pName 1) fYes (fCall F_l_right (fCons (fCall F_l_reel (fCons (fVar 0) (fCons (fVar 1) fNil))) fNil)) [1]) fNil)))
def F_law : FF := okF (defF 1 2 B_law)
end Ks

set_option linter.all false
set_option maxRecDepth 100000
set_option maxHeartbeats 4000000
namespace Ks
open PySem PySem.Spec PyProof.Rows L2 DF TX LamX
def top (i : Nat) : Stmt := PySem.Challenge.pw_pressworlds_k06_whole_turns_and_least_ro.main.body.getD i (.Pass ⟨0, 0, 0, 0⟩)

abbrev s_l_wind : Stmt := top 25
abbrev n_l_wind : List Str := ["_law_reel_here", "_law_many", "_law_figure"]
theorem sc_l_wind : FnScope n_l_wind ["_law_reel_here", "_law_many"] (defScope s_l_wind) := ⟨rfl, rfl, rfl, by decide +kernel, rfl, by decide +kernel, by decide +kernel⟩
abbrev s_l_one_of : Stmt := top 26
abbrev n_l_one_of : List Str := ["_law_reel_here", "_law_menu"]
theorem sc_l_one_of : FnScope n_l_one_of ["_law_reel_here", "_law_menu"] (defScope s_l_one_of) := ⟨rfl, rfl, rfl, by decide +kernel, rfl, by decide +kernel, by decide +kernel⟩
abbrev s_l_line : Stmt := top 27
abbrev n_l_line : List Str := ["_law_reel_here", "_law_many", "_law_most", "_law_signs_here", "_law_spot"]
theorem sc_l_line : FnScope n_l_line ["_law_reel_here", "_law_many", "_law_most"] (defScope s_l_line) := ⟨rfl, rfl, rfl, by decide +kernel, rfl, by decide +kernel, by decide +kernel⟩
abbrev s_l_struck : Stmt := top 28
abbrev n_l_struck : List Str := ["_law_line_here", "_law_found", "_law_sign"]
theorem sc_l_struck : FnScope n_l_struck ["_law_line_here"] (defScope s_l_struck) := ⟨rfl, rfl, rfl, by decide +kernel, rfl, by decide +kernel, by decide +kernel⟩
abbrev s_l_back : Stmt := top 29
abbrev n_l_back : List Str := ["_law_line_here", "_law_sign"]
theorem sc_l_back : FnScope n_l_back ["_law_line_here"] (defScope s_l_back) := ⟨rfl, rfl, rfl, by decide +kernel, rfl, by decide +kernel, by decide +kernel⟩
abbrev s_l_shortest : Stmt := top 31
abbrev n_l_shortest : List Str := ["_law_many", "_law_line_here", "_law_edge", "_law_found", "_law_turn", "_law_size", "_law_later", "_law_here", "_law_sign", "_law_there", "_law_each"]
theorem sc_l_shortest : FnScope n_l_shortest ["_law_many", "_law_line_here"] (defScope s_l_shortest) := ⟨rfl, rfl, rfl, by decide +kernel, rfl, by decide +kernel, by decide +kernel⟩
abbrev s_is_integer : Stmt := top 7
abbrev n_is_integer : List Str := ["value"]
theorem sc_is_integer : FnScope n_is_integer ["value"] (defScope s_is_integer) := ⟨rfl, rfl, rfl, by decide +kernel, rfl, by decide +kernel, by decide +kernel⟩
abbrev s_ways_of : Stmt := top 12
abbrev n_ways_of : List Str := ["letters"]
theorem sc_ways_of : FnScope n_ways_of ["letters"] (defScope s_ways_of) := ⟨rfl, rfl, rfl, by decide +kernel, rfl, by decide +kernel, by decide +kernel⟩
abbrev s_is_word : Stmt := top 13
abbrev n_is_word : List Str := ["letters", "word", "ways", "letter"]
theorem sc_is_word : FnScope n_is_word ["letters", "word"] (defScope s_is_word) := ⟨rfl, rfl, rfl, by decide +kernel, rfl, by decide +kernel, by decide +kernel⟩
abbrev s_word_reduced : Stmt := top 14
abbrev n_word_reduced : List Str := ["word", "left", "letter"]
theorem sc_word_reduced : FnScope n_word_reduced ["word"] (defScope s_word_reduced) := ⟨rfl, rfl, rfl, by decide +kernel, rfl, by decide +kernel, by decide +kernel⟩
abbrev s_Row_init : Stmt := inClass (top 19) 0
abbrev n_Row_init : List Str := ["self", "letters", "word"]
theorem sc_Row_init : FnScope n_Row_init ["self", "letters", "word"] (defScope s_Row_init) := ⟨rfl, rfl, rfl, by decide +kernel, rfl, by decide +kernel, by decide +kernel⟩
abbrev s_check_row : Stmt := top 20
abbrev n_check_row : List Str := ["value"]
theorem sc_check_row : FnScope n_check_row ["value"] (defScope s_check_row) := ⟨rfl, rfl, rfl, by decide +kernel, rfl, by decide +kernel, by decide +kernel⟩
abbrev s_neck_and_round : Stmt := top 15
abbrev n_neck_and_round : List Str := ["word", "deep", "last"]
theorem sc_neck_and_round : FnScope n_neck_and_round ["word"] (defScope s_neck_and_round) := ⟨rfl, rfl, rfl, by decide +kernel, rfl, by decide +kernel, by decide +kernel⟩
abbrev s_Row_word : Stmt := inClass (top 19) 3
abbrev n_Row_word : List Str := ["self"]
theorem sc_Row_word : FnScope n_Row_word ["self"] (defScope s_Row_word) := ⟨rfl, rfl, rfl, by decide +kernel, rfl, by decide +kernel, by decide +kernel⟩
abbrev s_Row_letters : Stmt := inClass (top 19) 2
abbrev n_Row_letters : List Str := ["self"]
theorem sc_Row_letters : FnScope n_Row_letters ["self"] (defScope s_Row_letters) := ⟨rfl, rfl, rfl, by decide +kernel, rfl, by decide +kernel, by decide +kernel⟩
abbrev s_turns_of : Stmt := top 16
abbrev n_turns_of : List Str := ["middle", "at"]
theorem sc_turns_of : FnScope n_turns_of ["middle"] (defScope s_turns_of) := ⟨rfl, rfl, rfl, by decide +kernel, rfl, by decide +kernel, by decide +kernel⟩
abbrev s_row_turns : Stmt := top 21
abbrev n_row_turns : List Str := ["row", "middle", "turn"]
theorem sc_row_turns : FnScope n_row_turns ["row"] (defScope s_row_turns) := ⟨rfl, rfl, rfl, by decide +kernel, rfl, by decide +kernel, by decide +kernel⟩
abbrev s_Row_eq : Stmt := inClass (top 19) 7
abbrev n_Row_eq : List Str := ["self", "other"]
theorem sc_Row_eq : FnScope n_Row_eq ["self", "other"] (defScope s_Row_eq) := ⟨rfl, rfl, rfl, by decide +kernel, rfl, by decide +kernel, by decide +kernel⟩
abbrev s_row_least : Stmt := top 22
abbrev n_row_least : List Str := ["row"]
theorem sc_row_least : FnScope n_row_least ["row"] (defScope s_row_least) := ⟨rfl, rfl, rfl, by decide +kernel, rfl, by decide +kernel, by decide +kernel⟩
abbrev s_l_turns_right : Stmt := top 32
abbrev n_l_turns_right : List Str := ["_law_many", "_law_line_here", "_law_due", "_law_made", "_law_told", "_law_each"]
theorem sc_l_turns_right : FnScope n_l_turns_right ["_law_many", "_law_line_here", "_law_due"] (defScope s_l_turns_right) := ⟨rfl, rfl, rfl, by decide +kernel, rfl, by decide +kernel, by decide +kernel⟩
abbrev s_l_plain : Stmt := top 30
abbrev n_l_plain : List Str := ["_law_reel_here", "_law_many", "_law_size", "_law_spot"]
theorem sc_l_plain : FnScope n_l_plain ["_law_reel_here", "_law_many", "_law_size"] (defScope s_l_plain) := ⟨rfl, rfl, rfl, by decide +kernel, rfl, by decide +kernel, by decide +kernel⟩
abbrev s_l_right : Stmt := top 33
abbrev n_l_right : List Str := ["_law_reel_here", "_law_turn", "_law_many", "_law_size", "_law_line_here", "_law_turns_here", "_law_due", "_law_neck", "_law_further", "_law_at"]
theorem sc_l_right : FnScope n_l_right ["_law_reel_here"] (defScope s_l_right) := ⟨rfl, rfl, rfl, by decide +kernel, rfl, by decide +kernel, by decide +kernel⟩
abbrev s_l_reel : Stmt := top 24
abbrev n_l_reel : List Str := ["_law_script", "_law_turn", "_law_own", "_law_mixed", "_law_entry"]
theorem sc_l_reel : FnScope n_l_reel ["_law_script", "_law_turn"] (defScope s_l_reel) := ⟨rfl, rfl, rfl, by decide +kernel, rfl, by decide +kernel, by decide +kernel⟩
abbrev s_law : Stmt := top 34
abbrev n_law : List Str := ["_law_script", "_law_turn"]
theorem sc_law : FnScope n_law ["_law_script"] (defScope s_law) := ⟨rfl, rfl, rfl, by decide +kernel, rfl, by decide +kernel, by decide +kernel⟩
structure Tx (w : World) (K : PySem.W.Frag) (mg : Str → Option Value) where
  f_l_wind : Addr
  d_l_wind : FuncData
  F_l_wind : Fun K "_law_wind" "_law_wind" s_l_wind f_l_wind d_l_wind
  b_l_wind : L2.Binds K d_l_wind ["_law_reel_here", "_law_many"] []
  mg_l_wind : mg "_law_wind" = some (.ref f_l_wind)
  f_l_one_of : Addr
  d_l_one_of : FuncData
  F_l_one_of : Fun K "_law_one_of" "_law_one_of" s_l_one_of f_l_one_of d_l_one_of
  b_l_one_of : L2.Binds K d_l_one_of ["_law_reel_here", "_law_menu"] []
  mg_l_one_of : mg "_law_one_of" = some (.ref f_l_one_of)
  f_l_line : Addr
  d_l_line : FuncData
  F_l_line : Fun K "_law_line" "_law_line" s_l_line f_l_line d_l_line
  b_l_line : L2.Binds K d_l_line ["_law_reel_here", "_law_many", "_law_most"] []
  mg_l_line : mg "_law_line" = some (.ref f_l_line)
  f_l_struck : Addr
  d_l_struck : FuncData
  F_l_struck : Fun K "_law_struck" "_law_struck" s_l_struck f_l_struck d_l_struck
  b_l_struck : L2.Binds K d_l_struck ["_law_line_here"] []
  mg_l_struck : mg "_law_struck" = some (.ref f_l_struck)
  f_l_back : Addr
  d_l_back : FuncData
  F_l_back : Fun K "_law_back" "_law_back" s_l_back f_l_back d_l_back
  b_l_back : L2.Binds K d_l_back ["_law_line_here"] []
  mg_l_back : mg "_law_back" = some (.ref f_l_back)
  f_l_shortest : Addr
  d_l_shortest : FuncData
  F_l_shortest : Fun K "_law_shortest" "_law_shortest" s_l_shortest f_l_shortest d_l_shortest
  b_l_shortest : L2.Binds K d_l_shortest ["_law_many", "_law_line_here"] []
  mg_l_shortest : mg "_law_shortest" = some (.ref f_l_shortest)
  f_is_integer : Addr
  d_is_integer : FuncData
  F_is_integer : Fun K "is_integer" "is_integer" s_is_integer f_is_integer d_is_integer
  b_is_integer : L2.Binds K d_is_integer ["value"] []
  mg_is_integer : mg "is_integer" = some (.ref f_is_integer)
  f_ways_of : Addr
  d_ways_of : FuncData
  F_ways_of : Fun K "ways_of" "ways_of" s_ways_of f_ways_of d_ways_of
  b_ways_of : L2.Binds K d_ways_of ["letters"] []
  mg_ways_of : mg "ways_of" = some (.ref f_ways_of)
  f_is_word : Addr
  d_is_word : FuncData
  F_is_word : Fun K "is_word" "is_word" s_is_word f_is_word d_is_word
  b_is_word : L2.Binds K d_is_word ["letters", "word"] []
  mg_is_word : mg "is_word" = some (.ref f_is_word)
  f_word_reduced : Addr
  d_word_reduced : FuncData
  F_word_reduced : Fun K "word_reduced" "word_reduced" s_word_reduced f_word_reduced d_word_reduced
  b_word_reduced : L2.Binds K d_word_reduced ["word"] []
  mg_word_reduced : mg "word_reduced" = some (.ref f_word_reduced)
  f_Row_init : Addr
  d_Row_init : FuncData
  F_Row_init : Fun K "__init__" "Row.__init__" s_Row_init f_Row_init d_Row_init
  b_Row_init : L2.Binds K d_Row_init ["self", "letters", "word"] []
  f_check_row : Addr
  d_check_row : FuncData
  F_check_row : Fun K "check_row" "check_row" s_check_row f_check_row d_check_row
  b_check_row : L2.Binds K d_check_row ["value"] []
  mg_check_row : mg "check_row" = some (.ref f_check_row)
  f_neck_and_round : Addr
  d_neck_and_round : FuncData
  F_neck_and_round : Fun K "neck_and_round" "neck_and_round" s_neck_and_round f_neck_and_round d_neck_and_round
  b_neck_and_round : L2.Binds K d_neck_and_round ["word"] []
  mg_neck_and_round : mg "neck_and_round" = some (.ref f_neck_and_round)
  f_Row_word : Addr
  d_Row_word : FuncData
  F_Row_word : Fun K "word" "Row.word" s_Row_word f_Row_word d_Row_word
  b_Row_word : L2.Binds K d_Row_word ["self"] []
  f_Row_letters : Addr
  d_Row_letters : FuncData
  F_Row_letters : Fun K "letters" "Row.letters" s_Row_letters f_Row_letters d_Row_letters
  b_Row_letters : L2.Binds K d_Row_letters ["self"] []
  f_turns_of : Addr
  d_turns_of : FuncData
  F_turns_of : Fun K "turns_of" "turns_of" s_turns_of f_turns_of d_turns_of
  b_turns_of : L2.Binds K d_turns_of ["middle"] []
  mg_turns_of : mg "turns_of" = some (.ref f_turns_of)
  f_row_turns : Addr
  d_row_turns : FuncData
  F_row_turns : Fun K "row_turns" "row_turns" s_row_turns f_row_turns d_row_turns
  b_row_turns : L2.Binds K d_row_turns ["row"] []
  mg_row_turns : mg "row_turns" = some (.ref f_row_turns)
  f_Row_eq : Addr
  d_Row_eq : FuncData
  F_Row_eq : Fun K "__eq__" "Row.__eq__" s_Row_eq f_Row_eq d_Row_eq
  b_Row_eq : L2.Binds K d_Row_eq ["self", "other"] []
  f_row_least : Addr
  d_row_least : FuncData
  F_row_least : Fun K "row_least" "row_least" s_row_least f_row_least d_row_least
  b_row_least : L2.Binds K d_row_least ["row"] []
  mg_row_least : mg "row_least" = some (.ref f_row_least)
  f_l_turns_right : Addr
  d_l_turns_right : FuncData
  F_l_turns_right : Fun K "_law_turns_right" "_law_turns_right" s_l_turns_right f_l_turns_right d_l_turns_right
  b_l_turns_right : L2.Binds K d_l_turns_right ["_law_many", "_law_line_here", "_law_due"] []
  mg_l_turns_right : mg "_law_turns_right" = some (.ref f_l_turns_right)
  f_l_plain : Addr
  d_l_plain : FuncData
  F_l_plain : Fun K "_law_plain" "_law_plain" s_l_plain f_l_plain d_l_plain
  b_l_plain : L2.Binds K d_l_plain ["_law_reel_here", "_law_many", "_law_size"] []
  mg_l_plain : mg "_law_plain" = some (.ref f_l_plain)
  f_l_right : Addr
  d_l_right : FuncData
  F_l_right : Fun K "_law_right" "_law_right" s_l_right f_l_right d_l_right
  b_l_right : L2.Binds K d_l_right ["_law_reel_here"] []
  mg_l_right : mg "_law_right" = some (.ref f_l_right)
  f_l_reel : Addr
  d_l_reel : FuncData
  F_l_reel : Fun K "_law_reel" "_law_reel" s_l_reel f_l_reel d_l_reel
  b_l_reel : L2.Binds K d_l_reel ["_law_script", "_law_turn"] []
  mg_l_reel : mg "_law_reel" = some (.ref f_l_reel)
  f_law : Addr
  d_law : FuncData
  F_law : Fun K "law" "law" s_law f_law d_law
  b_law : L2.Binds K d_law ["_law_script"] []
  mg_law : mg "law" = some (.ref f_law)
  C_Row : Addr
  mg_Row : mg "Row" = some (.ref C_Row)
  ct_Row : CT K "Row" C_Row
  cl_Row : Cls K C_Row
  mk_Row : Mk K C_Row f_Row_init
  pp_Row_word : Addr
  pr_Row_word : PropOf K C_Row "word" pp_Row_word f_Row_word
  pp_Row_letters : Addr
  pr_Row_letters : PropOf K C_Row "letters" pp_Row_letters f_Row_letters
  eqC_Row : EqC K C_Row f_Row_eq
  na_Row__letters : NoAttr K C_Row "_letters"
  na_Row__word : NoAttr K C_Row "_word"
  isi_Row : IsiC K C_Row
  it_0 : PySem.W.kitOne K (.type "NoneType") (.type "int") = some false
  it_1 : PySem.W.kitOne K (.type "NoneType") (.type "bool") = some false
  it_2 : PySem.W.kitOne K (.type "NoneType") (.type "str") = some false
  it_3 : PySem.W.kitOne K (.type "NoneType") (.type "tuple") = some false
  it_4 : PySem.W.kitOne K (.type "NoneType") (.ref C_Row) = some false
  it_5 : PySem.W.kitOne K (.type "bool") (.type "int") = some true
  it_6 : PySem.W.kitOne K (.type "bool") (.type "bool") = some true
  it_7 : PySem.W.kitOne K (.type "bool") (.type "str") = some false
  it_8 : PySem.W.kitOne K (.type "bool") (.type "tuple") = some false
  it_9 : PySem.W.kitOne K (.type "bool") (.ref C_Row) = some false
  it_10 : PySem.W.kitOne K (.type "int") (.type "int") = some true
  it_11 : PySem.W.kitOne K (.type "int") (.type "bool") = some false
  it_12 : PySem.W.kitOne K (.type "int") (.type "str") = some false
  it_13 : PySem.W.kitOne K (.type "int") (.type "tuple") = some false
  it_14 : PySem.W.kitOne K (.type "int") (.ref C_Row) = some false
  it_15 : PySem.W.kitOne K (.type "str") (.type "int") = some false
  it_16 : PySem.W.kitOne K (.type "str") (.type "bool") = some false
  it_17 : PySem.W.kitOne K (.type "str") (.type "str") = some true
  it_18 : PySem.W.kitOne K (.type "str") (.type "tuple") = some false
  it_19 : PySem.W.kitOne K (.type "str") (.ref C_Row) = some false
  it_20 : PySem.W.kitOne K (.type "tuple") (.type "int") = some false
  it_21 : PySem.W.kitOne K (.type "tuple") (.type "bool") = some false
  it_22 : PySem.W.kitOne K (.type "tuple") (.type "str") = some false
  it_23 : PySem.W.kitOne K (.type "tuple") (.type "tuple") = some true
  it_24 : PySem.W.kitOne K (.type "tuple") (.ref C_Row) = some false
  it_25 : PySem.W.kitOne K (.type "list") (.type "int") = some false
  it_26 : PySem.W.kitOne K (.type "list") (.type "bool") = some false
  it_27 : PySem.W.kitOne K (.type "list") (.type "str") = some false
  it_28 : PySem.W.kitOne K (.type "list") (.type "tuple") = some false
  it_29 : PySem.W.kitOne K (.type "list") (.ref C_Row) = some false
  it_30 : PySem.W.kitOne K (.ref C_Row) (.type "int") = some false
  it_31 : PySem.W.kitOne K (.ref C_Row) (.type "bool") = some false
  it_32 : PySem.W.kitOne K (.ref C_Row) (.type "str") = some false
  it_33 : PySem.W.kitOne K (.ref C_Row) (.type "tuple") = some false
  it_34 : PySem.W.kitOne K (.ref C_Row) (.ref C_Row) = some true
  t_MOST_LETTERS : Tok
  c_MOST_LETTERS : mg "MOST_LETTERS" = some (.int (4) t_MOST_LETTERS)
  t_MOST_ROW : Tok
  c_MOST_ROW : mg "MOST_ROW" = some (.int (400) t_MOST_ROW)
  t_WAYS : Tok
  c_WAYS : mg "WAYS" = some (.str "aAbBcCdD" t_WAYS)
  n_int : mg "int" = none
  n_bool : mg "bool" = none
  n_str : mg "str" = none
  n_tuple : mg "tuple" = none
  n_isinstance : mg "isinstance" = none
  n_len : mg "len" = none
  n_abs : mg "abs" = none
  n_all : mg "all" = none
  n_range : mg "range" = none
  n_divmod : mg "divmod" = none
  n_min : mg "min" = none
  n_max : mg "max" = none
  n_sorted : mg "sorted" = none
  n_set : mg "set" = none
section
variable {P : Program} {w : World} {K : PySem.W.Frag} {mg : Str → Option Value} {base : Heap} [TbC]
omit [TbC] in
theorem Tx.xt (T : Tx w K mg) : XTab K xt_ := by
  intro e he C D c1 c2
  simp only [xt_, List.mem_cons, List.not_mem_nil, or_false] at he
omit [TbC] in
theorem Tx.kt (T : Tx w K mg) : KTab K kt_ := by
  intro e he C D c1 c2
  simp only [kt_, List.mem_cons, List.not_mem_nil, or_false] at he
omit [TbC] in
theorem Tx.lv (T : Tx w K mg) : LTab K lv_ := by
  intro e he C c1
  simp only [lv_, List.mem_cons, List.not_mem_nil, or_false] at he
omit [TbC] in
theorem isiT (T : Tx w K mg) : IsiT K cs_ tb_ := by
  refine ⟨fun c hc C ct => ?_, fun e he tv cv h1 h2 => ?_⟩
  · simp only [cs_, List.mem_cons, List.not_mem_nil, or_false] at hc
    rcases hc with rfl
    · cases ct.one T.ct_Row; exact T.isi_Row
  · simp only [tb_, List.mem_cons, List.not_mem_nil, or_false] at he
    rcases he with he | he | he | he | he | he | he | he | he | he | he | he | he | he | he | he | he | he | he | he | he | he | he | he | he | he | he | he | he | he | he | he | he | he | he
    · subst he; cases h1; cases h2; exact T.it_0
    · subst he; cases h1; cases h2; exact T.it_1
    · subst he; cases h1; cases h2; exact T.it_2
    · subst he; cases h1; cases h2; exact T.it_3
    · subst he; cases h1; obtain ⟨C2, c2, e2⟩ := h2; subst e2; cases c2.one T.ct_Row; exact T.it_4
    · subst he; cases h1; cases h2; exact T.it_5
    · subst he; cases h1; cases h2; exact T.it_6
    · subst he; cases h1; cases h2; exact T.it_7
    · subst he; cases h1; cases h2; exact T.it_8
    · subst he; cases h1; obtain ⟨C2, c2, e2⟩ := h2; subst e2; cases c2.one T.ct_Row; exact T.it_9
    · subst he; cases h1; cases h2; exact T.it_10
    · subst he; cases h1; cases h2; exact T.it_11
    · subst he; cases h1; cases h2; exact T.it_12
    · subst he; cases h1; cases h2; exact T.it_13
    · subst he; cases h1; obtain ⟨C2, c2, e2⟩ := h2; subst e2; cases c2.one T.ct_Row; exact T.it_14
    · subst he; cases h1; cases h2; exact T.it_15
    · subst he; cases h1; cases h2; exact T.it_16
    · subst he; cases h1; cases h2; exact T.it_17
    · subst he; cases h1; cases h2; exact T.it_18
    · subst he; cases h1; obtain ⟨C2, c2, e2⟩ := h2; subst e2; cases c2.one T.ct_Row; exact T.it_19
    · subst he; cases h1; cases h2; exact T.it_20
    · subst he; cases h1; cases h2; exact T.it_21
    · subst he; cases h1; cases h2; exact T.it_22
    · subst he; cases h1; cases h2; exact T.it_23
    · subst he; cases h1; obtain ⟨C2, c2, e2⟩ := h2; subst e2; cases c2.one T.ct_Row; exact T.it_24
    · subst he; cases h1; cases h2; exact T.it_25
    · subst he; cases h1; cases h2; exact T.it_26
    · subst he; cases h1; cases h2; exact T.it_27
    · subst he; cases h1; cases h2; exact T.it_28
    · subst he; cases h1; obtain ⟨C2, c2, e2⟩ := h2; subst e2; cases c2.one T.ct_Row; exact T.it_29
    · subst he; obtain ⟨C1, c1, e1⟩ := h1; subst e1; cases c1.one T.ct_Row; cases h2; exact T.it_30
    · subst he; obtain ⟨C1, c1, e1⟩ := h1; subst e1; cases c1.one T.ct_Row; cases h2; exact T.it_31
    · subst he; obtain ⟨C1, c1, e1⟩ := h1; subst e1; cases c1.one T.ct_Row; cases h2; exact T.it_32
    · subst he; obtain ⟨C1, c1, e1⟩ := h1; subst e1; cases c1.one T.ct_Row; cases h2; exact T.it_33
    · subst he; obtain ⟨C1, c1, e1⟩ := h1; subst e1; cases c1.one T.ct_Row; obtain ⟨C2, c2, e2⟩ := h2; subst e2; cases c2.one T.ct_Row; exact T.it_34

theorem ok_l_wind (T : Tx w K mg) : FnOk P w K mg base CX0 1 T.f_l_wind T.d_l_wind ["_law_reel_here", "_law_many"] (spF K F_l_wind) := by
  refine T.F_l_wind.ok sc_l_wind (fun vs H Q E h => len_O (n := 3) (fS := B_l_wind) h) (fun cdv A outer s H vs Q E hr h => ?_)
  refine ⟨_, (pss_cons (ps_if (pt_cmpR op_gt (pe_ix (r := rIx K) (ix_K (K := K) rfl) (pv 0) pe_int (fun _ _ => rfl)) pe_int (nomark _)) (pss_cons (ps_asg (pe_callB call_divmod rfl T.n_divmod boot_divmod (pa_cons (pe_ix (r := rIx K) (ix_K (K := K) rfl) (pv 0) pe_int (fun _ _ => rfl)) (pa_cons (pv 1) pa_nil))) (pg_tup rfl (pgs_cons (pg_sub (pv 0) pe_int set_list) (pgs_cons (pg_name (i := 2) sc_l_wind.nd rfl (by first | exact Or.inl rfl | exact Or.inr rfl)) pgs_nil)))) (pss_one (ps_ret (pv 2)))) pss_nil) (pss_cons (ps_asg (pe_op (add_K (K := K) rfl) (pe_ix (r := rIx K) (ix_K (K := K) rfl) (pv 0) pe_int (fun _ _ => rfl)) pe_int) (pg_sub (pv 0) pe_int set_list)) (pss_cons (ps_asg (pe_op op_mod (pe_callTy call_int rfl T.n_int boot_int (pa_cons (pe_op (add_K (K := K) rfl) (pe_op (add_K (K := K) rfl) (pe_op (mul_K (K := K) rfl) (pe_ix (r := rIx K) (ix_K (K := K) rfl) (pv 0) pe_int (fun _ _ => rfl)) pe_int) (pe_op (mul_K (K := K) rfl) (pe_op (mul_K (K := K) rfl) (pe_ix (r := rIx K) (ix_K (K := K) rfl) (pv 0) pe_int (fun _ _ => rfl)) (pe_ix (r := rIx K) (ix_K (K := K) rfl) (pv 0) pe_int (fun _ _ => rfl))) pe_int)) pe_int) pa_nil)) pe_int) (pg_sub (pv 0) pe_int set_list)) (pss_one (ps_ret (pe_op op_mod (pe_callTy call_int rfl T.n_int boot_int (pa_cons (pe_op op_fdivW (pe_ix (r := rIx K) (ix_K (K := K) rfl) (pv 0) pe_int (fun _ _ => rfl)) pe_int) pa_nil)) (pv 1))))))), ?_⟩
  exact body_O (Ns := n_l_wind) (fS := B_l_wind) h (sim_seq (sim_ifS (sim_test (sim_op sim_gt (sim_ixO sim_int) sim_int)) (sim_seq (sim_asgG (sim_cb sim_divmod (sim_cons (sim_ixO sim_int) (sim_cons sim_var sim_nil))) (sim_gtup (sim_gcons (sim_gsub sim_int) (sim_gcons sim_gname sim_gnil)))) (sim_ret sim_var)) sim_next) (sim_seq (sim_asgG (sim_op sim_add (sim_ixO sim_int) sim_int) (sim_gsub sim_int)) (sim_seq (sim_asgG (sim_op sim_mod (sim_cb sim_int1 (sim_cons (sim_op sim_add (sim_op sim_add (sim_op sim_mul (sim_ixO sim_int) sim_int) (sim_op sim_mul (sim_op sim_mul (sim_ixO sim_int) (sim_ixO sim_int)) sim_int)) sim_int) sim_nil)) sim_int) (sim_gsub sim_int)) (sim_ret (sim_op sim_mod (sim_cb sim_int1 (sim_cons (sim_op sim_fdiv (sim_ixO sim_int) sim_int) sim_nil)) sim_var)))))
theorem ok_l_one_of (T : Tx w K mg) : FnOk P w K mg base CX0 2 T.f_l_one_of T.d_l_one_of ["_law_reel_here", "_law_menu"] (spF K F_l_one_of) := by
  refine T.F_l_one_of.ok sc_l_one_of (fun vs H Q E h => len_O (n := 2) (fS := B_l_one_of) h) (fun cdv A outer s H vs Q E hr h => ?_)
  refine ⟨_, (pss_one (ps_ret (pe_ix (r := rIx K) (ix_K (K := K) rfl) (pv 1) (pe_call (ok_l_wind T) (hr.mono (by decide)) rfl T.mg_l_wind T.F_l_wind.kp T.b_l_wind .nil pass0 (pa_cons (pv 0) (pa_cons (pe_callB (r := DF.rLen K) (len_K rfl) rfl T.n_len boot_len (pa_cons (pv 1) pa_nil)) pa_nil))) (fun _ _ => rfl)))), ?_⟩
  exact body_O (Ns := n_l_one_of) (fS := B_l_one_of) h (sim_ret (sim_op sim_ix sim_var (sim_call hE0 (sim_cons sim_var (sim_cons (sim_cb sim_len (sim_cons sim_var sim_nil)) sim_nil)))))
theorem ok_l_line (T : Tx w K mg) : FnOk P w K mg base CX0 3 T.f_l_line T.d_l_line ["_law_reel_here", "_law_many", "_law_most"] (spF K F_l_line) := by
  refine T.F_l_line.ok sc_l_line (fun vs H Q E h => len_O (n := 5) (fS := B_l_line) h) (fun cdv A outer s H vs Q E hr h => ?_)
  refine ⟨_, (pss_cons (ps_set (i := 3) sc_l_line.nd rfl (by first | exact Or.inl rfl | exact Or.inr rfl) (pe_op (add_K (K := K) rfl) (pe_slice (sl_K (K := K) rfl) pe_str po_none (po_some (pv 1))) (pe_slice (sl_K (K := K) rfl) pe_str po_none (po_some (pv 1))))) (pss_one (ps_ret (pe_bmK (K := K) rfl PySem.F.plainAttrs_str PySem.F.slot_str_join PySem.F.type_str_join (join_K (K := K) rfl) pe_str (pa_cons (pe_lc (own := [("_law_spot", 4)]) (g := gName 4) (tt := tYes) rfl sc_l_line.nd (pi_range1 rfl T.n_range (pa_cons (pe_call (ok_l_wind T) (hr.mono (by decide)) rfl T.mg_l_wind T.F_l_wind.kp T.b_l_wind .nil pass0 (pa_cons (pv 0) (pa_cons (pe_op (add_K (K := K) rfl) (pv 2) pe_int) pa_nil))) pa_nil)) (blkOk_by (N := n_l_line) (sc := defScope s_l_line) (by decide +kernel)) (fun _ _ _ _ _ => pg_name (i := 4) sc_l_line.nd rfl (by first | exact Or.inl rfl | exact Or.inr rfl)) (fun _ _ _ _ _ => pts_nil) (fun _ _ _ _ _ => (pe_call (ok_l_one_of T) (hr.mono (by decide)) rfl T.mg_l_one_of T.F_l_one_of.kp T.b_l_one_of .nil pass0 (pa_cons (pv 0) (pa_cons (pv 3) pa_nil))))) pa_nil))))), ?_⟩
  exact body_O (Ns := n_l_line) (fS := B_l_line) h (sim_seq (sim_asg (sim_op sim_add (sim_sl sim_str sim_noPart (sim_part sim_var)) (sim_sl sim_str sim_noPart (sim_part sim_var)))) (sim_ret (sim_bm sim_join sim_str (sim_cons (sim_lc (sim_rng1 (sim_cons (sim_call hE0 (sim_cons sim_var (sim_cons (sim_op sim_add sim_var sim_int) sim_nil))) sim_nil)) sim_gname sim_yes (sim_call hE0 (sim_cons sim_var (sim_cons sim_var sim_nil)))) sim_nil))))
theorem ok_l_struck (T : Tx w K mg) : FnOk P w K mg base CX0 1 T.f_l_struck T.d_l_struck ["_law_line_here"] (spF K F_l_struck) := by
  refine T.F_l_struck.ok sc_l_struck (fun vs H Q E h => len_O (n := 3) (fS := B_l_struck) h) (fun cdv A outer s H vs Q E hr h => ?_)
  refine ⟨_, (pss_cons (ps_set (i := 1) sc_l_struck.nd rfl (by first | exact Or.inl rfl | exact Or.inr rfl) (pe_lst pa_nil)) (pss_cons (ps_for PassesOwn.never rfl (pi_anyK (K := K) rfl (pv 0)) (pg_name (i := 2) sc_l_struck.nd rfl (by first | exact Or.inl rfl | exact Or.inr rfl)) (pss_one (ps_if (PW.pt (pw_and (pt_cmpR (ne_K (K := K) rfl (units64 hr)) (pv 1) (pe_lst pa_nil) (nomark _)) (pw_and (pt_cmpR (ne_K (K := K) rfl (units64 hr)) (pe_ix (r := rIx K) (ix_K (K := K) rfl) (pv 1) (pe_un un_neg pe_int) (fun _ _ => rfl)) (pv 2) (nomark _)) (pw_and1 (pt_cmpR (eq_K (K := K) rfl (units64 hr)) (pe_bm0K (K := K) rfl PySem.F.plainAttrs_str PySem.F.slot_str_lower PySem.F.type_str_lower mt_lower (pe_ix (r := rIx K) (ix_K (K := K) rfl) (pv 1) (pe_un un_neg pe_int) (fun _ _ => rfl))) (pe_bm0K (K := K) rfl PySem.F.plainAttrs_str PySem.F.slot_str_lower PySem.F.type_str_lower mt_lower (pv 2)) (nomark _)))))) (pss_one (ps_expr (pe_bm0K (K := K) rfl PySem.F.plainAttrs_list PySem.F.slot_list_pop PySem.F.type_list_pop mt_pop (pv 1)))) (pss_one (ps_expr (pe_bmK (K := K) rfl (r := rAppend) PySem.F.plainAttrs_list PySem.F.slot_list_append PySem.F.type_list_append mt_append (pv 1) (pa_cons (pv 2) pa_nil))))))) (pss_one (ps_ret (pe_bmK (K := K) rfl PySem.F.plainAttrs_str PySem.F.slot_str_join PySem.F.type_str_join (join_K (K := K) rfl) pe_str (pa_cons (pv 1) pa_nil)))))), ?_⟩
  exact body_O (Ns := n_l_struck) (fS := B_l_struck) h (sim_seq (sim_asg (sim_lstO sim_nil)) (sim_seq (sim_for (sim_wAny sim_var) sim_gname (sim_ifS (sim_and (sim_pkT (sim_test (sim_op sim_ne sim_var (sim_lst sim_nil)))) (sim_and (sim_test (sim_op sim_ne (sim_ixO (sim_un sim_neg sim_int)) sim_var)) (sim_test (sim_op sim_eq (sim_bm0 sim_lower (sim_ixO (sim_un sim_neg sim_int))) (sim_bm0 sim_lower sim_var))))) (sim_drop sim_pop) (sim_drop (sim_append sim_var)))) (sim_ret (sim_pk (sim_bm sim_join sim_str (sim_cons sim_var sim_nil))))))
theorem ok_l_back (T : Tx w K mg) : FnOk P w K mg base CX0 1 T.f_l_back T.d_l_back ["_law_line_here"] (spF K F_l_back) := by
  refine T.F_l_back.ok sc_l_back (fun vs H Q E h => len_O (n := 2) (fS := B_l_back) h) (fun cdv A outer s H vs Q E hr h => ?_)
  refine ⟨_, (pss_one (ps_ret (pe_bmK (K := K) rfl PySem.F.plainAttrs_str PySem.F.slot_str_join PySem.F.type_str_join (join_K (K := K) rfl) pe_str (pa_cons (pe_lc (own := [("_law_sign", 1)]) (g := gName 1) (tt := tYes) rfl sc_l_back.nd (pi_anyK (K := K) rfl (pe_revS (pv 0))) (blkOk_by (N := n_l_back) (sc := defScope s_l_back) (by decide +kernel)) (fun _ _ _ _ _ => pg_name (i := 1) sc_l_back.nd rfl (by first | exact Or.inl rfl | exact Or.inr rfl)) (fun _ _ _ _ _ => pts_nil) (fun _ _ _ _ _ => (pe_ifExp (pt_truthK (K := K) rfl (pe_bm0K (K := K) rfl PySem.F.plainAttrs_str PySem.F.slot_str_islower PySem.F.type_str_islower mt_islower (pv 1)) (fun _ => rfl)) (pe_bm0K (K := K) rfl PySem.F.plainAttrs_str PySem.F.slot_str_upper PySem.F.type_str_upper mt_upper (pv 1)) (pe_bm0K (K := K) rfl PySem.F.plainAttrs_str PySem.F.slot_str_lower PySem.F.type_str_lower mt_lower (pv 1))))) pa_nil)))), ?_⟩
  exact body_O (Ns := n_l_back) (fS := B_l_back) h (sim_ret (sim_bm sim_join sim_str (sim_cons (sim_lc (sim_wAny (sim_revS sim_var)) sim_gname sim_yes (sim_if (sim_tru (sim_bm0 sim_islow sim_var)) (sim_bm0 sim_upper sim_var) (sim_bm0 sim_lower sim_var))) sim_nil)))
theorem ok_l_shortest (T : Tx w K mg) : FnOk P w K mg base CX0 2 T.f_l_shortest T.d_l_shortest ["_law_many", "_law_line_here"] (spF K F_l_shortest) := by
  refine T.F_l_shortest.ok sc_l_shortest (fun vs H Q E h => len_O (n := 11) (fS := B_l_shortest) h) (fun cdv A outer s H vs Q E hr h => ?_)
  refine ⟨_, (pss_cons (ps_par (i := 2) (j := 3) rfl sc_l_shortest.nd rfl rfl (by decide) rfl rfl (pa_cons (pe_lst (pa_cons (pv 1) pa_nil)) (pa_cons (pe_lst (pa_cons (pv 1) pa_nil)) pa_nil)) rfl) (pss_cons (ps_for PassesOwn.never rfl (pi_range1 rfl T.n_range (pa_cons pe_int pa_nil)) (pg_name (i := 4) sc_l_shortest.nd rfl (by first | exact Or.inl rfl | exact Or.inr rfl)) (pss_cons (ps_set (i := 6) sc_l_shortest.nd rfl (by first | exact Or.inl rfl | exact Or.inr rfl) (pe_lst pa_nil)) (pss_cons (ps_for PassesOwn.never rfl (pi_anyK (K := K) rfl (pv 2)) (pg_name (i := 7) sc_l_shortest.nd rfl (by first | exact Or.inl rfl | exact Or.inr rfl)) (pss_one (ps_for PassesOwn.never rfl (pi_anyK (K := K) rfl (pe_op (add_K (K := K) rfl) (pe_slice (sl_K (K := K) rfl) pe_str po_none (po_some (pv 0))) (pe_slice (sl_K (K := K) rfl) pe_str po_none (po_some (pv 0))))) (pg_name (i := 8) sc_l_shortest.nd rfl (by first | exact Or.inl rfl | exact Or.inr rfl)) (pss_cons (ps_set (i := 9) sc_l_shortest.nd rfl (by first | exact Or.inl rfl | exact Or.inr rfl) (pe_call (ok_l_struck T) (hr.mono (by decide)) rfl T.mg_l_struck T.F_l_struck.kp T.b_l_struck .nil pass0 (pa_cons (pe_op (add_K (K := K) rfl) (pe_op (add_K (K := K) rfl) (pv 8) (pv 7)) (pe_call (ok_l_back T) (hr.mono (by decide)) rfl T.mg_l_back T.F_l_back.kp T.b_l_back .nil pass0 (pa_cons (pv 8) pa_nil))) pa_nil))) (pss_one (ps_if (PW.pt (pw_and (pt_cmpR op_le (pe_callB (r := DF.rLen K) (len_K rfl) rfl T.n_len boot_len (pa_cons (pv 9) pa_nil)) (pe_callB (r := DF.rLen K) (len_K rfl) rfl T.n_len boot_len (pa_cons (pv 7) pa_nil)) (nomark _)) (pw_and1 (pt_cmpR (notInD_K (K := K) rfl (units65 hr)) (pv 9) (pv 3) (by with_unfolding_all rfl))))) (pss_cons (ps_expr (pe_bmK (K := K) rfl (r := rAppend) PySem.F.plainAttrs_list PySem.F.slot_list_append PySem.F.type_list_append mt_append (pv 3) (pa_cons (pv 9) pa_nil))) (pss_one (ps_expr (pe_bmK (K := K) rfl (r := rAppend) PySem.F.plainAttrs_list PySem.F.slot_list_append PySem.F.type_list_append mt_append (pv 6) (pa_cons (pv 9) pa_nil))))) pss_nil)))))) (pss_cons (ps_set (i := 2) sc_l_shortest.nd rfl (by first | exact Or.inl rfl | exact Or.inr rfl) (pv 6)) (pss_one (ps_if (pt_cmpR (eq_K (K := K) rfl (units64 hr)) (pv 2) (pe_lst pa_nil) (nomark _)) (pss_one ps_break) pss_nil)))))) (pss_cons (ps_set (i := 5) sc_l_shortest.nd rfl (by first | exact Or.inl rfl | exact Or.inr rfl) (pe_callB (min_K (K := K) rfl rfl) rfl T.n_min boot_min (pa_cons (pe_lc (own := [("_law_each", 10)]) (g := gName 10) (tt := tYes) rfl sc_l_shortest.nd (pi_anyK (K := K) rfl (pv 3)) (blkOk_by (N := n_l_shortest) (sc := defScope s_l_shortest) (by decide +kernel)) (fun _ _ _ _ _ => pg_name (i := 10) sc_l_shortest.nd rfl (by first | exact Or.inl rfl | exact Or.inr rfl)) (fun _ _ _ _ _ => pts_nil) (fun _ _ _ _ _ => (pe_callB (r := DF.rLen K) (len_K rfl) rfl T.n_len boot_len (pa_cons (pv 10) pa_nil)))) pa_nil))) (pss_one (ps_ret (pe_callB (sortS_K (K := K) rfl) rfl T.n_sorted boot_sorted (pa_cons (pe_lc (own := [("_law_each", 10)]) (g := gName 10) (tt := _) rfl sc_l_shortest.nd (pi_anyK (K := K) rfl (pv 3)) (blkOk_by (N := n_l_shortest) (sc := defScope s_l_shortest) (by decide +kernel)) (fun _ _ _ _ _ => pg_name (i := 10) sc_l_shortest.nd rfl (by first | exact Or.inl rfl | exact Or.inr rfl)) (fun _ _ _ _ _ => pts_one (pt_cmpR (eq_K (K := K) rfl (units64 hr)) (pe_callB (r := DF.rLen K) (len_K rfl) rfl T.n_len boot_len (pa_cons (pv 10) pa_nil)) (pv 5) (nomark _))) (fun _ _ _ _ _ => (pv 10))) pa_nil))))))), ?_⟩
  exact body_O (Ns := n_l_shortest) (fS := B_l_shortest) h (sim_seq (sim_parO (sim_cons (sim_lst (sim_cons sim_var sim_nil)) (sim_cons (sim_lstO (sim_cons sim_var sim_nil)) sim_nil))) (sim_seq (sim_for (sim_rng1 (sim_cons sim_int sim_nil)) sim_gname (sim_seq (sim_asg (sim_lstO sim_nil)) (sim_seq (sim_for (sim_wAny sim_var) sim_gname (sim_for (sim_wAny (sim_op sim_add (sim_sl sim_str sim_noPart (sim_part sim_var)) (sim_sl sim_str sim_noPart (sim_part sim_var)))) sim_gname (sim_seq (sim_asg (sim_call hE0 (sim_cons (sim_op sim_add (sim_op sim_add sim_var sim_var) (sim_call hE0 (sim_cons sim_var sim_nil))) sim_nil))) (sim_ifS (sim_and (sim_test (sim_op sim_le (sim_cb sim_len (sim_cons sim_var sim_nil)) (sim_cb sim_len (sim_cons sim_var sim_nil)))) (sim_pkT (sim_test (sim_op sim_notInL sim_var sim_var)))) (sim_seq (sim_drop (sim_append sim_var)) (sim_drop (sim_append sim_var))) sim_next)))) (sim_seq (sim_frz (sim_asg sim_var)) (sim_ifS (sim_test (sim_op sim_eq sim_var (sim_lst sim_nil))) sim_brk sim_next))))) (sim_seq (sim_frz (sim_asg (sim_cb sim_minOf (sim_cons (sim_lc (sim_wAny sim_var) sim_gname sim_yes (sim_cb sim_len (sim_cons sim_var sim_nil))) sim_nil)))) (sim_ret (sim_cb sim_sortS (sim_cons (sim_lc (sim_wAny sim_var) sim_gname (sim_test (sim_op sim_eq (sim_cb sim_len (sim_cons sim_var sim_nil)) sim_var)) sim_var) sim_nil))))))
theorem ok_is_integer (T : Tx w K mg) : FnOk P w K mg base CX0 1 T.f_is_integer T.d_is_integer ["value"] (spF K F_is_integer) := by
  refine T.F_is_integer.ok sc_is_integer (fun vs H Q E h => len_O (n := 1) (fS := B_is_integer) h) (fun cdv A outer s H vs Q E hr h => ?_)
  refine ⟨_, (pss_one (ps_ret (pe_and (pe_callB (r := rIsi K) (isi_K rfl) rfl T.n_isinstance boot_isinstance (pa_cons (pv 0) (pa_cons (pe_bltn (v := .ty "int") rfl T.n_int boot_int rfl) pa_nil))) (pe_one (pe_not (pe_callB (r := rIsi K) (isi_K rfl) rfl T.n_isinstance boot_isinstance (pa_cons (pv 0) (pa_cons (pe_bltn (v := .ty "bool") rfl T.n_bool boot_bool rfl) pa_nil)))))))), ?_⟩
  exact body_O (Ns := n_is_integer) (fS := B_is_integer) h (sim_ret (sim_andV (sim_cb (sim_isi (isiT T)) (sim_cons sim_var (sim_cons sim_ty sim_nil))) (sim_notV (sim_cb (sim_isi (isiT T)) (sim_cons sim_var (sim_cons sim_ty sim_nil))))))
theorem ok_ways_of (T : Tx w K mg) : FnOk P w K mg base CX0 1 T.f_ways_of T.d_ways_of ["letters"] (spF K F_ways_of) := by
  refine T.F_ways_of.ok sc_ways_of (fun vs H Q E h => len_O (n := 1) (fS := B_ways_of) h) (fun cdv A outer s H vs Q E hr h => ?_)
  refine ⟨_, (pss_one (ps_ret (pe_slice (sl_K (K := K) rfl) (pe_glob (v := .str "aAbBcCdD") rfl T.c_WAYS ⟨_, rfl⟩) po_none (po_some (pe_op (mul_K (K := K) rfl) pe_int (pv 0)))))), ?_⟩
  exact body_O (Ns := n_ways_of) (fS := B_ways_of) h (sim_ret (sim_sl sim_str sim_noPart (sim_part (sim_op sim_mul sim_int sim_var))))
theorem ok_is_word (T : Tx w K mg) : FnOk P w K mg base CX0 2 T.f_is_word T.d_is_word ["letters", "word"] (spF K F_is_word) := by
  refine T.F_is_word.ok sc_is_word (fun vs H Q E h => len_O (n := 4) (fS := B_is_word) h) (fun cdv A outer s H vs Q E hr h => ?_)
  refine ⟨_, (pss_cons (ps_if (PW.pt (pw_or (pt_not (pt_truthK (K := K) rfl (pe_callB (r := rIsi K) (isi_K rfl) rfl T.n_isinstance boot_isinstance (pa_cons (pv 1) (pa_cons (pe_bltn (v := .ty "str") rfl T.n_str boot_str rfl) pa_nil))) (fun _ => rfl))) (pw_or1 (pt_cmpR op_gt (pe_callB (r := DF.rLen K) (len_K rfl) rfl T.n_len boot_len (pa_cons (pv 1) pa_nil)) (pe_glob (v := .int (400)) rfl T.c_MOST_ROW ⟨_, rfl⟩) (nomark _))))) (pss_one (ps_ret pe_bl)) pss_nil) (pss_cons (ps_set (i := 2) sc_is_word.nd rfl (by first | exact Or.inl rfl | exact Or.inr rfl) (pe_call (ok_ways_of T) (hr.mono (by decide)) rfl T.mg_ways_of T.F_ways_of.kp T.b_ways_of .nil pass0 (pa_cons (pv 0) pa_nil))) (pss_one (ps_ret (pe_callB (r := rAll K) (all_K rfl rfl) rfl T.n_all boot_all (pa_cons (pe_lc (own := [("letter", 3)]) (g := gName 3) (tt := tYes) rfl sc_is_word.nd (pi_anyK (K := K) rfl (pv 1)) (blkOk_by (N := n_is_word) (sc := defScope s_is_word) (by decide +kernel)) (fun _ _ _ _ _ => pg_name (i := 3) sc_is_word.nd rfl (by first | exact Or.inl rfl | exact Or.inr rfl)) (fun _ _ _ _ _ => pts_nil) (fun _ _ _ _ _ => (pe_cmpR op_in_str (pv 3) (pv 2) (by with_unfolding_all rfl)))) pa_nil)))))), ?_⟩
  exact body_O (Ns := n_is_word) (fS := B_is_word) h (sim_seq (sim_ifS (sim_or (sim_not (sim_tru (sim_cb (sim_isi (isiT T)) (sim_cons sim_var (sim_cons sim_ty sim_nil))))) (sim_test (sim_op sim_gt (sim_cb sim_len (sim_cons sim_var sim_nil)) sim_int))) (sim_ret sim_bl) sim_next) (sim_seq (sim_asg (sim_call hE0 (sim_cons sim_var sim_nil))) (sim_ret (sim_cb sim_all (sim_cons (sim_lc (sim_wAny sim_var) sim_gname sim_yes (sim_op sim_inS sim_var sim_var)) sim_nil)))))
theorem ok_word_reduced (T : Tx w K mg) : FnOk P w K mg base CX0 1 T.f_word_reduced T.d_word_reduced ["word"] (spF K F_word_reduced) := by
  refine T.F_word_reduced.ok sc_word_reduced (fun vs H Q E h => len_O (n := 3) (fS := B_word_reduced) h) (fun cdv A outer s H vs Q E hr h => ?_)
  refine ⟨_, (pss_cons (ps_set (i := 1) sc_word_reduced.nd rfl (by first | exact Or.inl rfl | exact Or.inr rfl) (pe_lst pa_nil)) (pss_cons (ps_for PassesOwn.never rfl (pi_anyK (K := K) rfl (pv 0)) (pg_name (i := 2) sc_word_reduced.nd rfl (by first | exact Or.inl rfl | exact Or.inr rfl)) (pss_one (ps_if (PW.pt (pw_and (pt_truthK (K := K) rfl (pv 1) (fun _ => rfl)) (pw_and1 (pt_cmpR (eq_K (K := K) rfl (units64 hr)) (pe_ix (r := rIx K) (ix_K (K := K) rfl) (pv 1) (pe_un un_neg pe_int) (fun _ _ => rfl)) (pe_bm0K (K := K) rfl PySem.F.plainAttrs_str PySem.F.slot_str_swapcase PySem.F.type_str_swapcase mt_swapcase (pv 2)) (nomark _))))) (pss_one (ps_expr (pe_bm0K (K := K) rfl PySem.F.plainAttrs_list PySem.F.slot_list_pop PySem.F.type_list_pop mt_pop (pv 1)))) (pss_one (ps_expr (pe_bmK (K := K) rfl (r := rAppend) PySem.F.plainAttrs_list PySem.F.slot_list_append PySem.F.type_list_append mt_append (pv 1) (pa_cons (pv 2) pa_nil))))))) (pss_one (ps_ret (pe_bmK (K := K) rfl PySem.F.plainAttrs_str PySem.F.slot_str_join PySem.F.type_str_join (join_K (K := K) rfl) pe_str (pa_cons (pv 1) pa_nil)))))), ?_⟩
  exact body_O (Ns := n_word_reduced) (fS := B_word_reduced) h (sim_seq (sim_asg (sim_lstO sim_nil)) (sim_seq (sim_for (sim_wAny sim_var) sim_gname (sim_ifS (sim_and (sim_pkT (sim_tru sim_var)) (sim_test (sim_op sim_eq (sim_ixO (sim_un sim_neg sim_int)) (sim_bm0 sim_swap sim_var)))) (sim_drop sim_pop) (sim_drop (sim_append sim_var)))) (sim_ret (sim_pk (sim_bm sim_join sim_str (sim_cons sim_var sim_nil))))))
theorem ok_Row_init (T : Tx w K mg) : FnOk P w K mg base CX0 3 T.f_Row_init T.d_Row_init ["self", "letters", "word"] (spF K F_Row_init) := by
  refine T.F_Row_init.ok sc_Row_init (fun vs H Q E h => len_O (n := 3) (fS := B_Row_init) h) (fun cdv A outer s H vs Q E hr h => ?_)
  refine ⟨_, (pss_cons (ps_if (PW.pt (pw_or (pt_not (pt_truthK (K := K) rfl (pe_call (ok_is_integer T) (hr.mono (by decide)) rfl T.mg_is_integer T.F_is_integer.kp T.b_is_integer .nil pass0 (pa_cons (pv 1) pa_nil)) (fun _ => rfl))) (pw_or (pt_cmpR op_ltU (pv 1) pe_int (nomark _)) (pw_or1 (pt_cmpR op_gt (pv 1) (pe_glob (v := .int (4)) rfl T.c_MOST_LETTERS ⟨_, rfl⟩) (nomark _)))))) (pss_one ps_never) pss_nil) (pss_cons (ps_if (pt_not (pt_truthK (K := K) rfl (pe_call (ok_is_word T) (hr.mono (by decide)) rfl T.mg_is_word T.F_is_word.kp T.b_is_word .nil pass0 (pa_cons (pv 1) (pa_cons (pv 2) pa_nil))) (fun _ => rfl))) (pss_one ps_never) pss_nil) (pss_cons (ps_fld (pv 0) (pv 1) rfl) (pss_one (ps_fld (pv 0) (pe_call (ok_word_reduced T) (hr.mono (by decide)) rfl T.mg_word_reduced T.F_word_reduced.kp T.b_word_reduced .nil pass0 (pa_cons (pv 2) pa_nil)) rfl))))), ?_⟩
  exact body_O (Ns := n_Row_init) (fS := B_Row_init) h (sim_seq (sim_ifS (sim_or (sim_not (sim_tru (sim_call hE0 (sim_cons sim_var sim_nil)))) (sim_or (sim_test (sim_op sim_lt sim_var sim_int)) (sim_test (sim_op sim_gt sim_var sim_int)))) sim_never sim_next) (sim_seq (sim_ifS (sim_not (sim_tru (sim_call hE0 (sim_cons sim_var (sim_cons sim_var sim_nil))))) sim_never sim_next) (sim_seq (sim_setF T.ct_Row T.cl_Row T.na_Row__letters sim_var) (sim_setF T.ct_Row T.cl_Row T.na_Row__word (sim_call hE0 (sim_cons sim_var sim_nil))))))
theorem ok_check_row (T : Tx w K mg) : FnOk P w K mg base CX0 1 T.f_check_row T.d_check_row ["value"] (spF K F_check_row) := by
  refine T.F_check_row.ok sc_check_row (fun vs H Q E h => len_O (n := 1) (fS := B_check_row) h) (fun cdv A outer s H vs Q E hr h => ?_)
  refine ⟨_, (pss_one (ps_if (pt_not (pt_truthK (K := K) rfl (pe_callB (r := rIsi K) (isi_K rfl) rfl T.n_isinstance boot_isinstance (pa_cons (pv 0) (pa_cons (pe_glob (v := .ref T.C_Row) rfl T.mg_Row rfl) pa_nil))) (fun _ => rfl))) (pss_one ps_never) pss_nil)), ?_⟩
  exact body_O (Ns := n_check_row) (fS := B_check_row) h (sim_ifS (sim_not (sim_tru (sim_cb (sim_isi (isiT T)) (sim_cons sim_var (sim_cons (sim_cls T.ct_Row) sim_nil))))) sim_never sim_next)
theorem ok_neck_and_round (T : Tx w K mg) : FnOk P w K mg base CX0 1 T.f_neck_and_round T.d_neck_and_round ["word"] (spF K F_neck_and_round) := by
  refine T.F_neck_and_round.ok sc_neck_and_round (fun vs H Q E h => len_O (n := 3) (fS := B_neck_and_round) h) (fun cdv A outer s H vs Q E hr h => ?_)
  refine ⟨_, (pss_cons (ps_set (i := 1) sc_neck_and_round.nd rfl (by first | exact Or.inl rfl | exact Or.inr rfl) pe_int) (pss_cons (ps_set (i := 2) sc_neck_and_round.nd rfl (by first | exact Or.inl rfl | exact Or.inr rfl) (pe_op op_sub (pe_callB (r := DF.rLen K) (len_K rfl) rfl T.n_len boot_len (pa_cons (pv 0) pa_nil)) pe_int)) (pss_cons (ps_while PassesOwn.never (PW.pt (pw_and (pt_cmpR op_ltU (pv 1) (pe_op op_sub (pv 2) (pv 1)) (nomark _)) (pw_and1 (pt_cmpR (eq_K (K := K) rfl (units64 hr)) (pe_ix (r := rIx K) (ix_K (K := K) rfl) (pv 0) (pv 1) (fun _ _ => rfl)) (pe_bm0K (K := K) rfl PySem.F.plainAttrs_str PySem.F.slot_str_swapcase PySem.F.type_str_swapcase mt_swapcase (pe_ix (r := rIx K) (ix_K (K := K) rfl) (pv 0) (pe_op op_sub (pv 2) (pv 1)) (fun _ _ => rfl))) (nomark _))))) (pss_one (ps_aug (i := 1) sc_neck_and_round.nd rfl (by first | exact Or.inl rfl | exact Or.inr rfl) pe_int ip_add))) (pss_one (ps_ret (pe_tup (pa_cons (pe_slice (sl_K (K := K) rfl) (pv 0) po_none (po_some (pv 1))) (pa_cons (pe_slice (sl_K (K := K) rfl) (pv 0) (po_some (pv 1)) (po_some (pe_op op_sub (pe_callB (r := DF.rLen K) (len_K rfl) rfl T.n_len boot_len (pa_cons (pv 0) pa_nil)) (pv 1)))) pa_nil)))))))), ?_⟩
  exact body_O (Ns := n_neck_and_round) (fS := B_neck_and_round) h (sim_seq (sim_asg sim_int) (sim_seq (sim_asg (sim_op sim_sub (sim_cb sim_len (sim_cons sim_var sim_nil)) sim_int)) (sim_seq (sim_while (sim_and (sim_test (sim_op sim_lt sim_var (sim_op sim_sub sim_var sim_var))) (sim_test (sim_op sim_eq (sim_op sim_ix sim_var sim_var) (sim_bm0 sim_swap (sim_op sim_ix sim_var (sim_op sim_sub sim_var sim_var)))))) (sim_aug sim_ip sim_int)) (sim_ret (sim_tup (sim_cons (sim_sl sim_var sim_noPart (sim_part sim_var)) (sim_cons (sim_sl sim_var (sim_part sim_var) (sim_part (sim_op sim_sub (sim_cb sim_len (sim_cons sim_var sim_nil)) sim_var))) sim_nil)))))))
theorem ok_Row_word (T : Tx w K mg) : FnOk P w K mg base CX0 1 T.f_Row_word T.d_Row_word ["self"] (spF K F_Row_word) := by
  refine T.F_Row_word.ok sc_Row_word (fun vs H Q E h => len_O (n := 1) (fS := B_Row_word) h) (fun cdv A outer s H vs Q E hr h => ?_)
  refine ⟨_, (pss_one (ps_ret (pe_fldK (K := K) rfl (pv 0) rfl))), ?_⟩
  exact body_O (Ns := n_Row_word) (fS := B_Row_word) h (sim_ret (sim_fld T.ct_Row T.cl_Row T.na_Row__word sim_var))
theorem ok_Row_letters (T : Tx w K mg) : FnOk P w K mg base CX0 1 T.f_Row_letters T.d_Row_letters ["self"] (spF K F_Row_letters) := by
  refine T.F_Row_letters.ok sc_Row_letters (fun vs H Q E h => len_O (n := 1) (fS := B_Row_letters) h) (fun cdv A outer s H vs Q E hr h => ?_)
  refine ⟨_, (pss_one (ps_ret (pe_fldK (K := K) rfl (pv 0) rfl))), ?_⟩
  exact body_O (Ns := n_Row_letters) (fS := B_Row_letters) h (sim_ret (sim_fld T.ct_Row T.cl_Row T.na_Row__letters sim_var))
theorem ok_turns_of (T : Tx w K mg) : FnOk P w K mg base CX0 1 T.f_turns_of T.d_turns_of ["middle"] (spF K F_turns_of) := by
  refine T.F_turns_of.ok sc_turns_of (fun vs H Q E h => len_O (n := 2) (fS := B_turns_of) h) (fun cdv A outer s H vs Q E hr h => ?_)
  refine ⟨_, (pss_one (ps_ret (pe_callB (sortX_K (P := P) (w := w) rfl rfl rfl) rfl T.n_sorted boot_sorted (pa_cons (pe_callTy (setX_K (P := P) (w := w) (K := K) rfl rfl rfl rfl) rfl T.n_set boot_set (pa_cons (pe_lc (own := [("at", 1)]) (g := gName 1) (tt := tYes) rfl sc_turns_of.nd (pi_range1 rfl T.n_range (pa_cons (pe_callB (call_max2 rfl) rfl T.n_max boot_max (pa_cons pe_int (pa_cons (pe_callB (r := DF.rLen K) (len_K rfl) rfl T.n_len boot_len (pa_cons (pv 0) pa_nil)) pa_nil))) pa_nil)) (blkOk_by (N := n_turns_of) (sc := defScope s_turns_of) (by decide +kernel)) (fun _ _ _ _ _ => pg_name (i := 1) sc_turns_of.nd rfl (by first | exact Or.inl rfl | exact Or.inr rfl)) (fun _ _ _ _ _ => pts_nil) (fun _ _ _ _ _ => (pe_op (add_K (K := K) rfl) (pe_slice (sl_K (K := K) rfl) (pv 0) (po_some (pv 1)) po_none) (pe_slice (sl_K (K := K) rfl) (pv 0) po_none (po_some (pv 1)))))) pa_nil)) pa_nil)))), ?_⟩
  exact body_O (Ns := n_turns_of) (fS := B_turns_of) h (sim_ret (sim_sortSet (sim_cons (sim_lc (sim_rng1 (sim_cons (sim_cb sim_max2 (sim_cons sim_int (sim_cons (sim_cb sim_len (sim_cons sim_var sim_nil)) sim_nil))) sim_nil)) sim_gname sim_yes (sim_op sim_add (sim_sl sim_var (sim_part sim_var) sim_noPart) (sim_sl sim_var sim_noPart (sim_part sim_var)))) sim_nil)))
theorem ok_row_turns (T : Tx w K mg) : FnOk P w K mg base CX0 5 T.f_row_turns T.d_row_turns ["row"] (spF K F_row_turns) := by
  refine T.F_row_turns.ok sc_row_turns (fun vs H Q E h => len_O (n := 3) (fS := B_row_turns) h) (fun cdv A outer s H vs Q E hr h => ?_)
  refine ⟨_, (pss_cons (ps_expr (pe_call (ok_check_row T) (hr.mono (by decide)) rfl T.mg_check_row T.F_check_row.kp T.b_check_row .nil pass0 (pa_cons (pv 0) pa_nil))) (pss_cons (ps_set (i := 1) sc_row_turns.nd rfl (by first | exact Or.inl rfl | exact Or.inr rfl) (pe_ix (r := rIx K) (ix_K (K := K) rfl) (pe_call (ok_neck_and_round T) (hr.mono (by decide)) rfl T.mg_neck_and_round T.F_neck_and_round.kp T.b_neck_and_round .nil pass0 (pa_cons (pe_prop (pv 0) T.cl_Row T.pr_Row_word (ok_Row_word T) (hr.mono (by decide)) T.b_Row_word .nil pass0 rfl) pa_nil)) pe_int (fun _ _ => rfl))) (pss_one (ps_ret (pe_callTy (tupOf_K (K := K) rfl) rfl T.n_tuple boot_tuple (pa_cons (pe_lc (own := [("turn", 2)]) (g := gName 2) (tt := tYes) rfl sc_row_turns.nd (pi_anyK (K := K) rfl (pe_call (ok_turns_of T) (hr.mono (by decide)) rfl T.mg_turns_of T.F_turns_of.kp T.b_turns_of .nil pass0 (pa_cons (pv 1) pa_nil))) (blkOk_by (N := n_row_turns) (sc := defScope s_row_turns) (by decide +kernel)) (fun _ _ _ _ _ => pg_name (i := 2) sc_row_turns.nd rfl (by first | exact Or.inl rfl | exact Or.inr rfl)) (fun _ _ _ _ _ => pts_nil) (fun _ _ _ _ _ => (pe_make T.mk_Row (ok_Row_init T) (hr.mono (by decide)) rfl T.mg_Row T.b_Row_init .nil pass0 (pa_cons (pe_prop (pv 0) T.cl_Row T.pr_Row_letters (ok_Row_letters T) (hr.mono (by decide)) T.b_Row_letters .nil pass0 rfl) (pa_cons (pv 2) pa_nil))))) pa_nil)))))), ?_⟩
  exact body_O (Ns := n_row_turns) (fS := B_row_turns) h (sim_seq (sim_drop (sim_call hE0 (sim_cons sim_var sim_nil))) (sim_seq (sim_asg (sim_op sim_ix (sim_call hE0 (sim_cons (sim_prop T.ct_Row hE0 sim_var) sim_nil)) sim_int)) (sim_ret (sim_cb sim_tupOf (sim_cons (sim_lc (sim_wAny (sim_call hE0 (sim_cons sim_var sim_nil))) sim_gname sim_yes (sim_make T.ct_Row hE0 (sim_cons (sim_prop T.ct_Row hE0 sim_var) (sim_cons sim_var sim_nil)))) sim_nil)))))
theorem kb_row_turns_0_row (T : Tx w K mg) : KBn K T.d_row_turns ["row"] 0 ["row"] (fun us ws => permU [0] (us ++ ws)) (fun vs zs => permV [0] (vs ++ zs)) :=
  kbn [0] T.F_row_turns fun kV doc pm an cdv ct us ws h1 h2 => match us, ws, h1, h2 with | [], [_], _, _ => rfl
theorem ok_Row_eq (T : Tx w K mg) : FnOk P w K mg base CX0 1 T.f_Row_eq T.d_Row_eq ["self", "other"] (spF K F_Row_eq) := by
  refine T.F_Row_eq.ok sc_Row_eq (fun vs H Q E h => len_O (n := 2) (fS := B_Row_eq) h) (fun cdv A outer s H vs Q E hr h => ?_)
  refine ⟨_, (pss_one (ps_ret (pe_and (pe_callB (r := rIsi K) (isi_K rfl) rfl T.n_isinstance boot_isinstance (pa_cons (pv 1) (pa_cons (pe_glob (v := .ref T.C_Row) rfl T.mg_Row rfl) pa_nil))) (pe_and (pe_cmpR (eq_K (K := K) rfl (units64 hr)) (pe_fldK (K := K) rfl (pv 0) rfl) (pe_fldK (K := K) rfl (pv 1) rfl) (nomark _)) (pe_one (pe_cmpR (eq_K (K := K) rfl (units64 hr)) (pe_fldK (K := K) rfl (pv 0) rfl) (pe_fldK (K := K) rfl (pv 1) rfl) (nomark _))))))), ?_⟩
  exact body_O (Ns := n_Row_eq) (fS := B_Row_eq) h (sim_ret (sim_andV (sim_cb (sim_isi (isiT T)) (sim_cons sim_var (sim_cons (sim_cls T.ct_Row) sim_nil))) (sim_andV (sim_op sim_eq (sim_fld T.ct_Row T.cl_Row T.na_Row__letters sim_var) (sim_fld T.ct_Row T.cl_Row T.na_Row__letters sim_var)) (sim_op sim_eq (sim_fld T.ct_Row T.cl_Row T.na_Row__word sim_var) (sim_fld T.ct_Row T.cl_Row T.na_Row__word sim_var)))))
theorem ok_row_least (T : Tx w K mg) : FnOk P w K mg base CX0 6 T.f_row_least T.d_row_least ["row"] (spF K F_row_least) := by
  refine T.F_row_least.ok sc_row_least (fun vs H Q E h => len_O (n := 1) (fS := B_row_least) h) (fun cdv A outer s H vs Q E hr h => ?_)
  refine ⟨_, (pss_one (ps_ret (pe_ix (r := rIx K) (ix_K (K := K) rfl) (pe_call (ok_row_turns T) (hr.mono (by decide)) rfl T.mg_row_turns T.F_row_turns.kp T.b_row_turns .nil pass0 (pa_cons (pv 0) pa_nil)) pe_int (fun _ _ => rfl)))), ?_⟩
  exact body_O (Ns := n_row_least) (fS := B_row_least) h (sim_ret (sim_op sim_ix (sim_call hE0 (sim_cons sim_var sim_nil)) sim_int))
theorem kb_row_least_0_row (T : Tx w K mg) : KBn K T.d_row_least ["row"] 0 ["row"] (fun us ws => permU [0] (us ++ ws)) (fun vs zs => permV [0] (vs ++ zs)) :=
  kbn [0] T.F_row_least fun kV doc pm an cdv ct us ws h1 h2 => match us, ws, h1, h2 with | [], [_], _, _ => rfl
theorem ok_l_turns_right (T : Tx w K mg) : FnOk P w K mg base CX0 7 T.f_l_turns_right T.d_l_turns_right ["_law_many", "_law_line_here", "_law_due"] (spF K F_l_turns_right) := by
  refine T.F_l_turns_right.ok sc_l_turns_right (fun vs H Q E h => len_O (n := 6) (fS := B_l_turns_right) h) (fun cdv A outer s H vs Q E hr h => ?_)
  refine ⟨_, (pss_cons (ps_set (i := 3) sc_l_turns_right.nd rfl (by first | exact Or.inl rfl | exact Or.inr rfl) (pe_make T.mk_Row (ok_Row_init T) (hr.mono (by decide)) rfl T.mg_Row T.b_Row_init .nil pass0 (pa_cons (pv 0) (pa_cons (pv 1) pa_nil)))) (pss_cons (ps_set (i := 4) sc_l_turns_right.nd rfl (by first | exact Or.inl rfl | exact Or.inr rfl) (pe_lst (pa_cons (pe_call (ok_row_turns T) (hr.mono (by decide)) rfl T.mg_row_turns T.F_row_turns.kp T.b_row_turns .nil pass0 (pa_cons (pv 3) pa_nil)) (pa_cons (pe_callN0 (ok_row_turns T) (hr.mono (by decide)) rfl T.mg_row_turns T.F_row_turns.kp (kb_row_turns_0_row T) pass0 (pk_cons (pv 3) pk_nil)) pa_nil)))) (pss_cons (ps_if (PW.pt (pw_or (pt_cmpR (DF.OpR.or (ne_K (K := K) rfl (units64 hr)) (neT_K (K := K) rfl T.eqC_Row (ok_Row_eq T) T.b_Row_eq (hr.mono (by decide)))) (pe_lc (own := [("_law_each", 5)]) (g := gName 5) (tt := _) rfl sc_l_turns_right.nd (pi_anyK (K := K) rfl (pv 4)) (blkOk_by (N := n_l_turns_right) (sc := defScope s_l_turns_right) (by decide +kernel)) (fun _ _ _ _ _ => pg_name (i := 5) sc_l_turns_right.nd rfl (by first | exact Or.inl rfl | exact Or.inr rfl)) (fun _ _ _ _ _ => pts_one (pt_not (pt_truthK (K := K) rfl (pe_callB (r := rIsi K) (isi_K rfl) rfl T.n_isinstance boot_isinstance (pa_cons (pv 5) (pa_cons (pe_bltn (v := .ty "tuple") rfl T.n_tuple boot_tuple rfl) pa_nil))) (fun _ => rfl)))) (fun _ _ _ _ _ => (pv 5))) (pe_lst pa_nil) (nomark _)) (pw_or1 (pt_cmpR (DF.OpR.or (ne_K (K := K) rfl (units64 hr)) (neT_K (K := K) rfl T.eqC_Row (ok_Row_eq T) T.b_Row_eq (hr.mono (by decide)))) (pe_ix (r := rIx K) (ix_K (K := K) rfl) (pv 4) pe_int (fun _ _ => rfl)) (pe_ix (r := rIx K) (ix_K (K := K) rfl) (pv 4) pe_int (fun _ _ => rfl)) (nomark _))))) (pss_one (ps_ret pe_bl)) pss_nil) (pss_cons (ps_if (PW.pt (pw_or (pt_cmpR (DF.OpR.or (ne_K (K := K) rfl (units64 hr)) (neT_K (K := K) rfl T.eqC_Row (ok_Row_eq T) T.b_Row_eq (hr.mono (by decide)))) (pe_lc (own := [("_law_each", 5)]) (g := gName 5) (tt := tYes) rfl sc_l_turns_right.nd (pi_anyK (K := K) rfl (pe_ix (r := rIx K) (ix_K (K := K) rfl) (pv 4) pe_int (fun _ _ => rfl))) (blkOk_by (N := n_l_turns_right) (sc := defScope s_l_turns_right) (by decide +kernel)) (fun _ _ _ _ _ => pg_name (i := 5) sc_l_turns_right.nd rfl (by first | exact Or.inl rfl | exact Or.inr rfl)) (fun _ _ _ _ _ => pts_nil) (fun _ _ _ _ _ => (pe_prop (pv 5) T.cl_Row T.pr_Row_word (ok_Row_word T) (hr.mono (by decide)) T.b_Row_word .nil pass0 rfl))) (pv 2) (nomark _)) (pw_or1 (pt_cmpR (DF.OpR.or (ne_K (K := K) rfl (units64 hr)) (neT_K (K := K) rfl T.eqC_Row (ok_Row_eq T) T.b_Row_eq (hr.mono (by decide)))) (pe_lc (own := [("_law_each", 5)]) (g := gName 5) (tt := tYes) rfl sc_l_turns_right.nd (pi_anyK (K := K) rfl (pe_ix (r := rIx K) (ix_K (K := K) rfl) (pv 4) pe_int (fun _ _ => rfl))) (blkOk_by (N := n_l_turns_right) (sc := defScope s_l_turns_right) (by decide +kernel)) (fun _ _ _ _ _ => pg_name (i := 5) sc_l_turns_right.nd rfl (by first | exact Or.inl rfl | exact Or.inr rfl)) (fun _ _ _ _ _ => pts_nil) (fun _ _ _ _ _ => (pe_prop (pv 5) T.cl_Row T.pr_Row_letters (ok_Row_letters T) (hr.mono (by decide)) T.b_Row_letters .nil pass0 rfl))) (pe_op (mul_K (K := K) rfl) (pe_lst (pa_cons (pv 0) pa_nil)) (pe_callB (r := DF.rLen K) (len_K rfl) rfl T.n_len boot_len (pa_cons (pv 2) pa_nil))) (nomark _))))) (pss_one (ps_ret pe_bl)) pss_nil) (pss_one (ps_ret (pe_cmpR (DF.OpR.or (eq_K (K := K) rfl (units64 hr)) (eqT_K (K := K) rfl T.eqC_Row (ok_Row_eq T) T.b_Row_eq (hr.mono (by decide)))) (pe_lst (pa_cons (pe_prop (pe_call (ok_row_least T) (hr.mono (by decide)) rfl T.mg_row_least T.F_row_least.kp T.b_row_least .nil pass0 (pa_cons (pv 3) pa_nil)) T.cl_Row T.pr_Row_word (ok_Row_word T) (hr.mono (by decide)) T.b_Row_word .nil pass0 rfl) (pa_cons (pe_prop (pe_callN0 (ok_row_least T) (hr.mono (by decide)) rfl T.mg_row_least T.F_row_least.kp (kb_row_least_0_row T) pass0 (pk_cons (pv 3) pk_nil)) T.cl_Row T.pr_Row_word (ok_Row_word T) (hr.mono (by decide)) T.b_Row_word .nil pass0 rfl) pa_nil))) (pe_lst (pa_cons (pe_ix (r := rIx K) (ix_K (K := K) rfl) (pv 2) pe_int (fun _ _ => rfl)) (pa_cons (pe_ix (r := rIx K) (ix_K (K := K) rfl) (pv 2) pe_int (fun _ _ => rfl)) pa_nil))) (nomark _)))))))), ?_⟩
  exact body_O (Ns := n_l_turns_right) (fS := B_l_turns_right) h (sim_seq (sim_asg (sim_make T.ct_Row hE0 (sim_cons sim_var (sim_cons sim_var sim_nil)))) (sim_seq (sim_asg (sim_lst (sim_cons (sim_call hE0 (sim_cons sim_var sim_nil)) (sim_cons (sim_callN hE0 sim_nil (sim_cons sim_var sim_nil)) sim_nil)))) (sim_seq (sim_ifS (sim_or (sim_test (sim_op (DF.SimR2.or sim_ne (sim_eqT (isiT T) T.ct_Row)) (sim_lc (sim_wAny sim_var) sim_gname (sim_not (sim_tru (sim_cb (sim_isi (isiT T)) (sim_cons sim_var (sim_cons sim_ty sim_nil))))) sim_var) (sim_lst sim_nil))) (sim_test (sim_op (DF.SimR2.or sim_ne (sim_eqT (isiT T) T.ct_Row)) (sim_op sim_ix sim_var sim_int) (sim_op sim_ix sim_var sim_int)))) (sim_ret sim_bl) sim_next) (sim_seq (sim_ifS (sim_or (sim_test (sim_op (DF.SimR2.or sim_ne (sim_eqT (isiT T) T.ct_Row)) (sim_lc (sim_wAny (sim_op sim_ix sim_var sim_int)) sim_gname sim_yes (sim_prop T.ct_Row hE0 sim_var)) sim_var)) (sim_test (sim_op (DF.SimR2.or sim_ne (sim_eqT (isiT T) T.ct_Row)) (sim_lc (sim_wAny (sim_op sim_ix sim_var sim_int)) sim_gname sim_yes (sim_prop T.ct_Row hE0 sim_var)) (sim_op sim_mul (sim_lst (sim_cons sim_var sim_nil)) (sim_cb sim_len (sim_cons sim_var sim_nil)))))) (sim_ret sim_bl) sim_next) (sim_ret (sim_op (DF.SimR2.or sim_eq (sim_eqT (isiT T) T.ct_Row)) (sim_lst (sim_cons (sim_prop T.ct_Row hE0 (sim_call hE0 (sim_cons sim_var sim_nil))) (sim_cons (sim_prop T.ct_Row hE0 (sim_callN hE0 sim_nil (sim_cons sim_var sim_nil))) sim_nil))) (sim_lst (sim_cons (sim_op sim_ix sim_var sim_int) (sim_cons (sim_op sim_ix sim_var sim_int) sim_nil)))))))))
theorem ok_l_plain (T : Tx w K mg) : FnOk P w K mg base CX0 3 T.f_l_plain T.d_l_plain ["_law_reel_here", "_law_many", "_law_size"] (spF K F_l_plain) := by
  refine T.F_l_plain.ok sc_l_plain (fun vs H Q E h => len_O (n := 4) (fS := B_l_plain) h) (fun cdv A outer s H vs Q E hr h => ?_)
  refine ⟨_, (pss_one (ps_ret (pe_bmK (K := K) rfl PySem.F.plainAttrs_str PySem.F.slot_str_join PySem.F.type_str_join (join_K (K := K) rfl) pe_str (pa_cons (pe_lc (own := [("_law_spot", 3)]) (g := gName 3) (tt := tYes) rfl sc_l_plain.nd (pi_range1 rfl T.n_range (pa_cons (pv 2) pa_nil)) (blkOk_by (N := n_l_plain) (sc := defScope s_l_plain) (by decide +kernel)) (fun _ _ _ _ _ => pg_name (i := 3) sc_l_plain.nd rfl (by first | exact Or.inl rfl | exact Or.inr rfl)) (fun _ _ _ _ _ => pts_nil) (fun _ _ _ _ _ => (pe_call (ok_l_one_of T) (hr.mono (by decide)) rfl T.mg_l_one_of T.F_l_one_of.kp T.b_l_one_of .nil pass0 (pa_cons (pv 0) (pa_cons (pe_slice (sl_K (K := K) rfl) pe_str po_none (po_some (pv 1))) pa_nil))))) pa_nil)))), ?_⟩
  exact body_O (Ns := n_l_plain) (fS := B_l_plain) h (sim_ret (sim_bm sim_join sim_str (sim_cons (sim_lc (sim_rng1 (sim_cons sim_var sim_nil)) sim_gname sim_yes (sim_call hE0 (sim_cons sim_var (sim_cons (sim_sl sim_str sim_noPart (sim_part sim_var)) sim_nil)))) sim_nil)))
theorem ok_l_right (T : Tx w K mg) : FnOk P w K mg base CX0 8 T.f_l_right T.d_l_right ["_law_reel_here"] (spF K F_l_right) := by
  refine T.F_l_right.ok sc_l_right (fun vs H Q E h => len_O (n := 10) (fS := B_l_right) h) (fun cdv A outer s H vs Q E hr h => ?_)
  refine ⟨_, (pss_cons (ps_for PassesOwn.never rfl (pi_range1 rfl T.n_range (pa_cons pe_int pa_nil)) (pg_name (i := 1) sc_l_right.nd rfl (by first | exact Or.inl rfl | exact Or.inr rfl)) (pss_cons (ps_set (i := 2) sc_l_right.nd rfl (by first | exact Or.inl rfl | exact Or.inr rfl) (pe_op (add_K (K := K) rfl) pe_int (pe_call (ok_l_wind T) (hr.mono (by decide)) rfl T.mg_l_wind T.F_l_wind.kp T.b_l_wind .nil pass0 (pa_cons (pv 0) (pa_cons pe_int pa_nil))))) (pss_cons (ps_asg (pe_tup (pa_cons (pe_call (ok_l_line T) (hr.mono (by decide)) rfl T.mg_l_line T.F_l_line.kp T.b_l_line .nil pass0 (pa_cons (pv 0) (pa_cons (pv 2) (pa_cons pe_int pa_nil)))) (pa_cons (pe_call (ok_l_line T) (hr.mono (by decide)) rfl T.mg_l_line T.F_l_line.kp T.b_l_line .nil pass0 (pa_cons (pv 0) (pa_cons (pv 2) (pa_cons pe_int pa_nil)))) pa_nil))) (pg_tup rfl (pgs_cons (pg_name (i := 7) sc_l_right.nd rfl (by first | exact Or.inl rfl | exact Or.inr rfl)) (pgs_cons (pg_name (i := 4) sc_l_right.nd rfl (by first | exact Or.inl rfl | exact Or.inr rfl)) pgs_nil)))) (pss_cons (ps_set (i := 4) sc_l_right.nd rfl (by first | exact Or.inl rfl | exact Or.inr rfl) (pe_call (ok_l_struck T) (hr.mono (by decide)) rfl T.mg_l_struck T.F_l_struck.kp T.b_l_struck .nil pass0 (pa_cons (pe_op (add_K (K := K) rfl) (pe_op (add_K (K := K) rfl) (pv 7) (pv 4)) (pe_call (ok_l_back T) (hr.mono (by decide)) rfl T.mg_l_back T.F_l_back.kp T.b_l_back .nil pass0 (pa_cons (pv 7) pa_nil))) pa_nil))) (pss_cons (ps_set (i := 6) sc_l_right.nd rfl (by first | exact Or.inl rfl | exact Or.inr rfl) (pe_call (ok_l_shortest T) (hr.mono (by decide)) rfl T.mg_l_shortest T.F_l_shortest.kp T.b_l_shortest .nil pass0 (pa_cons (pv 2) (pa_cons (pv 4) pa_nil)))) (pss_cons (ps_if (pt_not (pt_truthK (K := K) rfl (pe_call (ok_l_turns_right T) (hr.mono (by decide)) rfl T.mg_l_turns_right T.F_l_turns_right.kp T.b_l_turns_right .nil pass0 (pa_cons (pv 2) (pa_cons (pv 4) (pa_cons (pv 6) pa_nil)))) (fun _ => rfl))) (pss_one (ps_ret pe_bl)) pss_nil) (pss_cons (ps_set (i := 8) sc_l_right.nd rfl (by first | exact Or.inl rfl | exact Or.inr rfl) (pe_call (ok_l_line T) (hr.mono (by decide)) rfl T.mg_l_line T.F_l_line.kp T.b_l_line .nil pass0 (pa_cons (pv 0) (pa_cons (pv 2) (pa_cons pe_int pa_nil))))) (pss_one (ps_if (pt_not (pt_truthK (K := K) rfl (pe_call (ok_l_turns_right T) (hr.mono (by decide)) rfl T.mg_l_turns_right T.F_l_turns_right.kp T.b_l_turns_right .nil pass0 (pa_cons (pv 2) (pa_cons (pe_call (ok_l_struck T) (hr.mono (by decide)) rfl T.mg_l_struck T.F_l_struck.kp T.b_l_struck .nil pass0 (pa_cons (pe_op (add_K (K := K) rfl) (pe_op (add_K (K := K) rfl) (pv 8) (pv 4)) (pe_call (ok_l_back T) (hr.mono (by decide)) rfl T.mg_l_back T.F_l_back.kp T.b_l_back .nil pass0 (pa_cons (pv 8) pa_nil))) pa_nil)) (pa_cons (pv 6) pa_nil)))) (fun _ => rfl))) (pss_one (ps_ret pe_bl)) pss_nil))))))))) (pss_cons (ps_par (i := 2) (j := 3) rfl sc_l_right.nd rfl rfl (by decide) rfl rfl (pa_cons (pe_op (add_K (K := K) rfl) pe_int (pe_call (ok_l_wind T) (hr.mono (by decide)) rfl T.mg_l_wind T.F_l_wind.kp T.b_l_wind .nil pass0 (pa_cons (pv 0) (pa_cons pe_int pa_nil)))) (pa_cons (pe_op (add_K (K := K) rfl) pe_int (pe_call (ok_l_wind T) (hr.mono (by decide)) rfl T.mg_l_wind T.F_l_wind.kp T.b_l_wind .nil pass0 (pa_cons (pv 0) (pa_cons pe_int pa_nil)))) pa_nil)) rfl) (pss_cons (ps_set (i := 4) sc_l_right.nd rfl (by first | exact Or.inl rfl | exact Or.inr rfl) (pe_op op_mul_strA (pe_call (ok_l_plain T) (hr.mono (by decide)) rfl T.mg_l_plain T.F_l_plain.kp T.b_l_plain .nil pass0 (pa_cons (pv 0) (pa_cons (pv 2) (pa_cons (pv 3) pa_nil)))) (pe_call (ok_l_one_of T) (hr.mono (by decide)) rfl T.mg_l_one_of T.F_l_one_of.kp T.b_l_one_of .nil pass0 (pa_cons (pv 0) (pa_cons (pe_lst (pa_cons pe_int (pa_cons pe_int (pa_cons pe_int (pa_cons pe_int pa_nil))))) pa_nil))))) (pss_cons (ps_set (i := 5) sc_l_right.nd rfl (by first | exact Or.inl rfl | exact Or.inr rfl) (pe_lc (own := [("_law_at", 9)]) (g := gName 9) (tt := tYes) rfl sc_l_right.nd (pi_range1 rfl T.n_range (pa_cons (pe_callB (r := DF.rLen K) (len_K rfl) rfl T.n_len boot_len (pa_cons (pv 4) pa_nil)) pa_nil)) (blkOk_by (N := n_l_right) (sc := defScope s_l_right) (by decide +kernel)) (fun _ _ _ _ _ => pg_name (i := 9) sc_l_right.nd rfl (by first | exact Or.inl rfl | exact Or.inr rfl)) (fun _ _ _ _ _ => pts_nil) (fun _ _ _ _ _ => (pe_op (add_K (K := K) rfl) (pe_slice (sl_K (K := K) rfl) (pv 4) (po_some (pv 9)) po_none) (pe_slice (sl_K (K := K) rfl) (pv 4) po_none (po_some (pv 9))))))) (pss_cons (ps_set (i := 6) sc_l_right.nd rfl (by first | exact Or.inl rfl | exact Or.inr rfl) (pe_callB (sortS_K (K := K) rfl) rfl T.n_sorted boot_sorted (pa_cons (pe_lc (own := [("_law_at", 9)]) (g := gName 9) (tt := _) rfl sc_l_right.nd (pi_range1 rfl T.n_range (pa_cons (pe_callB (r := DF.rLen K) (len_K rfl) rfl T.n_len boot_len (pa_cons (pv 4) pa_nil)) pa_nil)) (blkOk_by (N := n_l_right) (sc := defScope s_l_right) (by decide +kernel)) (fun _ _ _ _ _ => pg_name (i := 9) sc_l_right.nd rfl (by first | exact Or.inl rfl | exact Or.inr rfl)) (fun _ _ _ _ _ => pts_one (pt_cmpR (notInD_K (K := K) rfl (units65 hr)) (pe_ix (r := rIx K) (ix_K (K := K) rfl) (pv 5) (pv 9) (fun _ _ => rfl)) (pe_slice (sl_K (K := K) rfl) (pv 5) po_none (po_some (pv 9))) (by with_unfolding_all rfl))) (fun _ _ _ _ _ => (pe_ix (r := rIx K) (ix_K (K := K) rfl) (pv 5) (pv 9) (fun _ _ => rfl)))) pa_nil))) (pss_one (ps_ret (pe_and (pe_call (ok_l_turns_right T) (hr.mono (by decide)) rfl T.mg_l_turns_right T.F_l_turns_right.kp T.b_l_turns_right .nil pass0 (pa_cons (pv 2) (pa_cons (pv 4) (pa_cons (pv 6) pa_nil)))) (pe_one (pe_cmpR (DF.OpR.or (eq_K (K := K) rfl (units64 hr)) (eqI_K (K := K) rfl T.eqC_Row (ok_Row_eq T) T.b_Row_eq (hr.mono (by decide)))) (pe_call (ok_row_least T) (hr.mono (by decide)) rfl T.mg_row_least T.F_row_least.kp T.b_row_least .nil pass0 (pa_cons (pe_make T.mk_Row (ok_Row_init T) (hr.mono (by decide)) rfl T.mg_Row T.b_Row_init .nil pass0 (pa_cons (pv 2) (pa_cons pe_str pa_nil))) pa_nil)) (pe_make T.mk_Row (ok_Row_init T) (hr.mono (by decide)) rfl T.mg_Row T.b_Row_init .nil pass0 (pa_cons (pv 2) (pa_cons pe_str pa_nil))) (nomark _))))))))))), ?_⟩
  exact body_O (Ns := n_l_right) (fS := B_l_right) h (sim_seq (sim_for (sim_rng1 (sim_cons sim_int sim_nil)) sim_gname (sim_seq (sim_asg (sim_op sim_add sim_int (sim_call hE0 (sim_cons sim_var (sim_cons sim_int sim_nil))))) (sim_seq (sim_asgG (sim_tup (sim_cons (sim_call hE0 (sim_cons sim_var (sim_cons sim_var (sim_cons sim_int sim_nil)))) (sim_cons (sim_call hE0 (sim_cons sim_var (sim_cons sim_var (sim_cons sim_int sim_nil)))) sim_nil))) (sim_gtup (sim_gcons sim_gname (sim_gcons sim_gname sim_gnil)))) (sim_seq (sim_asg (sim_call hE0 (sim_cons (sim_op sim_add (sim_op sim_add sim_var sim_var) (sim_call hE0 (sim_cons sim_var sim_nil))) sim_nil))) (sim_seq (sim_asg (sim_call hE0 (sim_cons sim_var (sim_cons sim_var sim_nil)))) (sim_seq (sim_ifS (sim_not (sim_tru (sim_call hE0 (sim_cons sim_var (sim_cons sim_var (sim_cons sim_var sim_nil)))))) (sim_ret sim_bl) sim_next) (sim_seq (sim_asg (sim_call hE0 (sim_cons sim_var (sim_cons sim_var (sim_cons sim_int sim_nil))))) (sim_ifS (sim_not (sim_tru (sim_call hE0 (sim_cons sim_var (sim_cons (sim_call hE0 (sim_cons (sim_op sim_add (sim_op sim_add sim_var sim_var) (sim_call hE0 (sim_cons sim_var sim_nil))) sim_nil)) (sim_cons sim_var sim_nil)))))) (sim_ret sim_bl) sim_next)))))))) (sim_seq (sim_par (sim_cons (sim_op sim_add sim_int (sim_call hE0 (sim_cons sim_var (sim_cons sim_int sim_nil)))) (sim_cons (sim_op sim_add sim_int (sim_call hE0 (sim_cons sim_var (sim_cons sim_int sim_nil)))) sim_nil))) (sim_seq (sim_asg (sim_op sim_mulSA (sim_call hE0 (sim_cons sim_var (sim_cons sim_var (sim_cons sim_var sim_nil)))) (sim_call hE0 (sim_cons sim_var (sim_cons (sim_lst (sim_cons sim_int (sim_cons sim_int (sim_cons sim_int (sim_cons sim_int sim_nil))))) sim_nil))))) (sim_seq (sim_asg (sim_lc (sim_rng1 (sim_cons (sim_cb sim_len (sim_cons sim_var sim_nil)) sim_nil)) sim_gname sim_yes (sim_op sim_add (sim_sl sim_var (sim_part sim_var) sim_noPart) (sim_sl sim_var sim_noPart (sim_part sim_var))))) (sim_seq (sim_asg (sim_cb sim_sortS (sim_cons (sim_lc (sim_rng1 (sim_cons (sim_cb sim_len (sim_cons sim_var sim_nil)) sim_nil)) sim_gname (sim_test (sim_op sim_notInL (sim_op sim_ix sim_var sim_var) (sim_sl sim_var sim_noPart (sim_part sim_var)))) (sim_op sim_ix sim_var sim_var)) sim_nil))) (sim_ret (sim_andV (sim_call hE0 (sim_cons sim_var (sim_cons sim_var (sim_cons sim_var sim_nil)))) (sim_op (DF.SimR2.or sim_eq (sim_eqI (isiT T) T.ct_Row)) (sim_call hE0 (sim_cons (sim_make T.ct_Row hE0 (sim_cons sim_var (sim_cons sim_str sim_nil))) sim_nil)) (sim_make T.ct_Row hE0 (sim_cons sim_var (sim_cons sim_str sim_nil)))))))))))
theorem ok_l_reel (T : Tx w K mg) : FnOk P w K mg base CX0 1 T.f_l_reel T.d_l_reel ["_law_script", "_law_turn"] (spF K F_l_reel) := by
  refine T.F_l_reel.ok sc_l_reel (fun vs H Q E h => len_O (n := 5) (fS := B_l_reel) h) (fun cdv A outer s H vs Q E hr h => ?_)
  refine ⟨_, (pss_cons (ps_set (i := 2) sc_l_reel.nd rfl (by first | exact Or.inl rfl | exact Or.inr rfl) (pe_ifExp (pt_cmpR op_ltU (pv 1) (pe_callB (r := DF.rLen K) (len_K rfl) rfl T.n_len boot_len (pa_cons (pv 0) pa_nil)) (nomark _)) (pe_ix (r := rIx K) (ix_K (K := K) rfl) (pv 0) (pv 1) (fun _ _ => rfl)) (pe_op (add_K (K := K) rfl) (pe_op (mul_K (K := K) rfl) pe_int (pv 1)) pe_int))) (pss_cons (ps_set (i := 3) sc_l_reel.nd rfl (by first | exact Or.inl rfl | exact Or.inr rfl) (pe_op (add_K (K := K) rfl) pe_int (pe_op (mul_K (K := K) rfl) pe_int (pv 1)))) (pss_cons (ps_for PassesOwn.never rfl (pi_anyK (K := K) rfl (pe_op (add_K (K := K) rfl) (pe_slice (sl_K (K := K) rfl) (pv 0) po_none (po_some pe_int)) (pe_lst (pa_cons (pv 2) pa_nil)))) (pg_name (i := 4) sc_l_reel.nd rfl (by first | exact Or.inl rfl | exact Or.inr rfl)) (pss_one (ps_set (i := 3) sc_l_reel.nd rfl (by first | exact Or.inl rfl | exact Or.inr rfl) (pe_op op_mod (pe_callTy call_int rfl T.n_int boot_int (pa_cons (pe_op (add_K (K := K) rfl) (pe_op (mul_K (K := K) rfl) (pv 3) pe_int) (pe_op op_mod (pe_callTy call_int rfl T.n_int boot_int (pa_cons (pv 4) pa_nil)) pe_int)) pa_nil)) pe_int)))) (pss_one (ps_ret (pe_lst (pa_cons (pe_ifExp (PW.pt (pw_or (pt_cmpR op_ltU (pv 2) pe_int (nomark _)) (pw_or1 (pt_cmpR op_ge (pv 2) (pe_op op_pow pe_int pe_int) (nomark _))))) (pe_callB call_abs rfl T.n_abs boot_abs (pa_cons (pv 2) pa_nil)) pe_int) (pa_cons (pv 3) (pa_cons pe_int pa_nil))))))))), ?_⟩
  exact body_O (Ns := n_l_reel) (fS := B_l_reel) h (sim_seq (sim_asg (sim_if (sim_test (sim_op sim_lt sim_var (sim_cb sim_len (sim_cons sim_var sim_nil)))) (sim_op sim_ix sim_var sim_var) (sim_op sim_add (sim_op sim_mul sim_int sim_var) sim_int))) (sim_seq (sim_asg (sim_op sim_add sim_int (sim_op sim_mul sim_int sim_var))) (sim_seq (sim_for (sim_wAny (sim_op sim_add (sim_sl sim_var sim_noPart (sim_part sim_int)) (sim_lst (sim_cons sim_var sim_nil)))) sim_gname (sim_asg (sim_op sim_mod (sim_cb sim_int1 (sim_cons (sim_op sim_add (sim_op sim_mul sim_var sim_int) (sim_op sim_mod (sim_cb sim_int1 (sim_cons sim_var sim_nil)) sim_int)) sim_nil)) sim_int))) (sim_ret (sim_lstO (sim_cons (sim_if (sim_or (sim_test (sim_op sim_lt sim_var sim_int)) (sim_test (sim_op sim_ge sim_var (sim_op sim_pow sim_int sim_int)))) (sim_cb sim_abs (sim_cons sim_var sim_nil)) sim_int) (sim_cons sim_var (sim_cons sim_int sim_nil))))))))
theorem ok_law (T : Tx w K mg) : FnOk P w K mg base CX0 9 T.f_law T.d_law ["_law_script"] (spF K F_law) := by
  refine T.F_law.ok sc_law (fun vs H Q E h => len_O (n := 2) (fS := B_law) h) (fun cdv A outer s H vs Q E hr h => ?_)
  refine ⟨_, (pss_one (ps_ret (pe_callB (r := rAll K) (all_K rfl rfl) rfl T.n_all boot_all (pa_cons (pe_lc (own := [("_law_turn", 1)]) (g := gName 1) (tt := tYes) rfl sc_law.nd (pi_range1 rfl T.n_range (pa_cons pe_int pa_nil)) (blkOk_by (N := n_law) (sc := defScope s_law) (by decide +kernel)) (fun _ _ _ _ _ => pg_name (i := 1) sc_law.nd rfl (by first | exact Or.inl rfl | exact Or.inr rfl)) (fun _ _ _ _ _ => pts_nil) (fun _ _ _ _ _ => (pe_call (ok_l_right T) (hr.mono (by decide)) rfl T.mg_l_right T.F_l_right.kp T.b_l_right .nil pass0 (pa_cons (pe_call (ok_l_reel T) (hr.mono (by decide)) rfl T.mg_l_reel T.F_l_reel.kp T.b_l_reel .nil pass0 (pa_cons (pv 0) (pa_cons (pv 1) pa_nil))) pa_nil)))) pa_nil)))), ?_⟩
  exact body_O (Ns := n_law) (fS := B_law) h (sim_ret (sim_cb sim_all (sim_cons (sim_lc (sim_rng1 (sim_cons sim_int sim_nil)) sim_gname sim_yes (sim_call hE0 (sim_cons (sim_call hE0 (sim_cons sim_var (sim_cons sim_var sim_nil))) sim_nil))) sim_nil)))
end
end Ks

set_option linter.all false
set_option maxRecDepth 100000
set_option pp.maxSteps 500
set_option maxHeartbeats 1000000
namespace Ks
open PySem PySem.Spec PyProof.Rows L2 DF TL NumText
variable [TbC]
/-! ### one step -/
local macro_rules | `(tactic| walk_at "set") => `(tactic| (refine' e_set ?qa ?_; (case qa => (simp only [wipeF, backF, List.set, List.getD_cons_succ, List.getD_cons_zero, Int.reduceToNat]; rfl))))
local macro_rules | `(tactic| walk_at "cnd") => `(tactic| first | assumption | decide | omega)
local macro_rules | `(tactic| walk_at "mul") => `(tactic| first | exact mulOk_r (by decide) (by decide) | exact mulOk_l (by decide) (by decide) | exact mulOk_l (by omega) (by omega) | exact mulOk_r (by omega) (by omega))
local macro_rules | `(tactic| walk_at "x") => `(tactic| first
  | with_reducible apply x_seq
  | with_reducible apply k_nx
  | with_reducible apply k_rt
  | with_reducible apply x_nx
  | with_reducible refine x_asgK (fa := fLstO _) ?_
  | with_reducible refine x_asgK (fa := fLcO _ _ _ _ _) ?_
  | with_reducible apply ak_own
  | with_reducible apply ak_val
  | with_reducible apply x_asg
  | with_reducible refine x_retK (fa := fLstO _) ?_
  | with_reducible apply rk_own
  | with_reducible apply x_ret
  | with_reducible apply x_ifS
  | with_reducible apply x_asgG
  | with_reducible apply x_drop
  | with_reducible apply x_par
  | with_reducible apply x_par3
  | with_reducible apply x_asg3
  | with_reducible apply x_for
  | with_reducible refine x_aug ⟨_, rfl, ?_⟩
  | with_reducible apply xv_c
  | (with_reducible refine xv_var rfl ?_)
  | (with_reducible refine x_varV rfl ?_)
  | (with_reducible refine x_varO rfl ?_)
  | with_reducible apply xv_op
  | with_reducible apply xv_un
  | with_reducible apply xv_cb
  | with_reducible apply xs_nil
  | with_reducible apply xs_cons
  | with_reducible apply xa_nil
  | with_reducible apply xa_cons
  | with_reducible apply xv_tup
  | with_reducible apply xv_lst
  | with_reducible apply x_lstO
  | with_reducible apply xv_if
  | with_reducible apply xv_andV
  | with_reducible apply xv_orV
  | with_reducible apply xv_notV
  | with_reducible apply xv_isN
  | with_reducible apply xv_notN
  | with_reducible apply xt_test
  | with_reducible apply xt_tru
  | with_reducible apply xt_not
  | with_reducible apply xt_and
  | with_reducible apply xt_or
  | with_reducible apply xt_yes
  | with_reducible apply xv_call
  | with_reducible apply xv_callN
  | with_reducible apply xv_cmeth
  | with_reducible apply xv_cmethN
  | with_reducible apply xv_fld
  | with_reducible apply xv_prop
  | with_reducible apply x_setF
  | with_reducible apply xv_make
  | with_reducible apply xv_makeN
  | (with_reducible refine xv_makeL rfl ?_)
  | with_reducible apply xg_name
  | with_reducible apply xg_nil
  | with_reducible apply xg_cons
  | (with_reducible refine xg_tup rfl ?_)
  | (with_reducible refine xg_unl rfl ?_)
  | (with_reducible refine xg_sub rfl ?_)
  | (with_reducible refine xv_ixO rfl ?_)
  | ((with_reducible refine' xv_pk ?qa ?_); (case qa => (simp only [List.map, seeO, odD]; rfl)))
  | ((with_reducible refine' xt_pk ?qa ?_); (case qa => (simp only [List.map, seeO, odD]; rfl)))
  | with_reducible apply xv_bm
  | with_reducible apply xv_bm0
  | with_reducible apply xv_sl
  | with_reducible apply xo_no
  | with_reducible apply xo_some
  | with_reducible apply xv_revS
  | with_reducible apply xv_revL
  | with_reducible apply xv_fmt
  | with_reducible apply xw_any
  | with_reducible apply xw_rng1
  | with_reducible apply xw_rng2
  | with_reducible apply xv_lc
  | with_reducible apply vk_val
  | with_reducible apply bk_none
  | with_reducible apply bk_tmp
  | (with_reducible refine bk_slot rfl ?_)
  | with_reducible apply rk_val
  | with_reducible apply fk_nx
  | with_reducible apply fk_rt
  | ((with_reducible refine' e_par ?qa ?_); (case qa => (simp only [List.set]; rfl)))
  | ((with_reducible refine' e_par3 ?qa ?_); (case qa => (simp only [List.set]; rfl)))
  | ((with_reducible refine' e_ixO ?qa ?qb ?_); (case qa => exact rfl); (case qb => exact rfl))
  | ((with_reducible refine' e_sub ?qa ?qb ?qc ?_); (case qa => exact rfl); (case qb => exact rfl); (case qc => (simp only [List.set, Int.reduceToNat]; rfl)))
  | ((with_reducible refine' e_setF ?qa ?qb ?qc ?_); (case qa => exact rfl); (case qb => (simp only [List.length_cons, List.length_nil]; decide)); (case qc => (simp only [List.set, Int.reduceToNat]; rfl)))
  | ((with_reducible refine' e_fields ?qa ?qb ?_); (case qa => exact rfl); (case qb => exact rfl))
  | ((with_reducible refine' e_has ?qa ?_); (case qa => exact rfl))
  | with_reducible apply r_addI
  | with_reducible apply r_sub
  | with_reducible apply r_lt
  | with_reducible apply r_gt
  | with_reducible apply r_le
  | with_reducible apply r_ge
  | with_reducible apply r_int
  | with_reducible apply r_intB
  | with_reducible apply r_abs
  | with_reducible refine r_dec2 (fun h => ?_) (fun h => ?_)
  | with_reducible refine r_decN2 (fun h => ?_) (fun h => ?_)
  | with_reducible refine r_decM2 (fun h => ?_) (fun h => ?_)
  | with_reducible apply r_bool
  | with_reducible apply r_truB
  | with_reducible apply r_len
  | with_reducible apply r_lenS
  | with_reducible apply r_orEqS
  | with_reducible apply r_orNeS
  | with_reducible apply r_orEqI
  | with_reducible apply r_orNeI
  | with_reducible apply xv_joined
  | with_reducible apply xj_cons
  | with_reducible apply xj_nil
  | with_reducible apply r_eqI
  | with_reducible apply r_neI
  | with_reducible apply r_eqS
  | with_reducible apply r_neS
  | ((with_reducible refine' e_addD ?qa ?_); (case qa => exact rfl))
  | ((with_reducible refine' e_subD ?qa ?_); (case qa => exact rfl))
  | ((with_reducible refine' r_mul ?qa ?_); (case qa => walk_at "mul"))
  | ((with_reducible refine' r_mod ?qa ?_); (case qa => walk_at "cnd"))
  | ((with_reducible refine' r_fdiv ?qa ?qb ?_); (case qa => walk_at "cnd"); (case qb => walk_at "cnd"))
  | ((with_reducible refine' r_divmod ?qa ?qb ?_); (case qa => walk_at "cnd"); (case qb => walk_at "cnd"))
  | ((with_reducible refine' e_ltD ?qa ?_); (case qa => exact rfl))
  | ((with_reducible refine' e_leD ?qa ?_); (case qa => exact rfl))
  | ((with_reducible refine' e_gtD ?qa ?_); (case qa => exact rfl))
  | ((with_reducible refine' e_geD ?qa ?_); (case qa => exact rfl))
  | ((with_reducible refine' e_negD ?qa ?_); (case qa => exact rfl))
  | ((with_reducible refine' e_ixD ?qa ?_); (case qa => exact rfl))
  | ((with_reducible refine' e_intD ?qa ?_); (case qa => exact rfl))
  | ((with_reducible refine' e_absD ?qa ?_); (case qa => exact rfl))
  | ((with_reducible refine' e_intOf ?qa ?_); (case qa => exact rfl))
  | ((with_reducible refine' e_tupOf ?qa ?_); (case qa => exact rfl))
  | ((with_reducible refine' e_lstOf ?qa ?_); (case qa => exact rfl))
  | ((with_reducible refine' e2_boolOf ?qa ?_ ?_); (case qa => exact rfl))
  | ((with_reducible refine' e_boolOf ?qa ?_); (case qa => exact rfl))
  | ((with_reducible refine' e_truD ?qa ?_); (case qa => exact rfl))
  | ((with_reducible refine' e_itemsOf ?qa ?_); (case qa => exact rfl))
  | ((with_reducible refine' e_slD ?qa ?_); (case qa => exact rfl))
  | ((with_reducible refine' e_isiD ?qa ?_); (case qa => exact rfl))
  | ((with_reducible refine' e_boolI ?qa ?_); (case qa => exact rfl))
  | ((with_reducible refine' e_rng ?qa ?_); (case qa => exact ⟨by omega, by omega⟩))
  | with_reducible apply e_some
  | with_reducible apply e_str
  | with_reducible apply e_rev
  | ((with_reducible refine' en_val ?qa ?_); (case qa => exact rfl))
  | ((with_reducible refine' en_own ?qa ?_); (case qa => exact rfl))
  | ((with_reducible refine' en_nx ?qa ?_); (case qa => exact rfl))
  | with_reducible apply x_call
  | with_reducible refine x_ofV (fa := fC _) ?_
  | with_reducible refine x_ofV (fa := fOp _ _ _) ?_
  | with_reducible refine x_ofV (fa := fUn _ _) ?_
  | with_reducible refine x_ofV (fa := fCB _ _) ?_
  | with_reducible refine x_ofV (fa := fTup _) ?_
  | with_reducible refine x_ofV (fa := fLst _) ?_
  | with_reducible refine x_ofV (fa := fBM _ _ _ _) ?_
  | with_reducible refine x_ofV (fa := fBM0 _ _ _) ?_
  | with_reducible refine x_ofV (fa := fLc _ _ _ _ _) ?_
  | with_reducible refine x_ofV (fa := fFld _ _ _) ?_
  | with_reducible refine x_ofV (fa := fProp _ _ _) ?_
  | with_reducible refine x_ofV (fa := fMake _ _ _) ?_
  | with_reducible refine x_ofV (fa := fMakeN _ _ _ _ _ _ _) ?_
  | with_reducible refine x_ofV (fa := fSl _ _ _) ?_
  | with_reducible refine x_ofV (fa := fJoined _) ?_
  | with_reducible refine x_ofV (fa := fAndV _ _) ?_
  | with_reducible refine x_ofV (fa := fOrV _ _) ?_
  | with_reducible refine x_ofV (fa := fNotV _) ?_
  | with_reducible refine x_ofV (fa := fIf _ _ _) ?_
  | with_reducible refine x_ofV (fa := fIxO _ _) ?_
  | with_reducible refine x_ofV (fa := fCMeth _ _ _) ?_
  | with_reducible refine x_ofV (fa := fCMethN _ _ _ _ _) ?_
  | with_reducible refine x_ofV (fa := fCallN _ _ _ _ _ _) ?_
  | with_reducible refine x_ofV (fa := fIsN _) ?_
  | with_reducible refine x_ofV (fa := fNotN _) ?_
  | with_reducible apply xl_nil
  | with_reducible refine xl_cons rfl ?_
  | (refine And.intro (show List.length _ ≤ 16777216 from by simp only [List.length_cons, List.length_nil]; decide) ?_)
  | (refine And.intro (show tyS _ = some _ from rfl) ?_)
  | (refine And.intro (show flat _ = true from rfl) ?_)
  | (refine And.intro (show List.length _ = _ from rfl) ?_)
  | (refine And.intro (show List.length _ < 16777216 from by simp only [List.length_cons, List.length_nil]; decide) ?_)
  | (refine And.intro (show List.map isOwn _ = List.map isOwn _ from rfl) ?_)
  | with_reducible apply tt_intro
  | with_reducible apply nt_intro
  | with_reducible apply nnf_intro
  | with_reducible apply nnt_intro
  | with_reducible apply nf_intro
  | with_reducible apply ff_intro
  | walk_at "set")
/-! ### the script's reel -/
abbrev rl (a b c : Int) : OD := .lst [.int a, .int b, .int c]
structure RO (n a b c : Int) : Prop where
  a0 : 0 ≤ a
  b0 : 0 ≤ b
  b1 : b < 2147480009
  c0 : 0 ≤ c
  c1 : c ≤ n
theorem RO.up {m n a b c : Int} (h : RO m a b c) (hm : m ≤ n) : RO n a b c := ⟨h.a0, h.b0, h.b1, h.c0, Int.le_trans h.c1 hm⟩
theorem p_wind {n a b c m : Int} {Φ : Vr → Option OD → Prop} (h : RO n a b c) (hn : n ≤ 10 ^ 15) (hm : 0 < m) (hm2 : m < 1073741824)
    (k : ∀ x a b c, 0 ≤ x → x < m → RO (n + 1) a b c → Φ (.val (.int x)) (some (rl a b c))) : Fp F_l_wind [.own 1 (rl a b c), .val (.int m)] Φ := by
  obtain ⟨a0, b0, b1, c0, c1⟩ := h
  refine f_def rfl ?_
  show X _ [_, _, _] _
  unfold B_l_wind
  repeat' walk_at "x"
  · exact k _ _ _ _ (Int.emod_nonneg _ (by omega)) (Int.emod_lt_of_pos _ hm) ⟨Int.ediv_nonneg a0 (by omega), b0, b1, c0, by omega⟩
  · exact k _ _ _ _ (Int.emod_nonneg _ (by omega)) (Int.emod_lt_of_pos _ hm) ⟨a0, Int.emod_nonneg _ (by decide), Int.emod_lt_of_pos _ (by decide), by omega, by omega⟩
/-- one of a menu -/
theorem p_one_of {n a b c m : Int} {menu : D} {Φ : Vr → Option OD → Prop} (h : RO n a b c) (hn : n ≤ 10 ^ 15) (hl : lenD [menu] = some (.int m)) (hm : 0 < m) (hm2 : m < 1073741824)
    (k : ∀ x a b c, 0 ≤ x → x < m → RO (n + 1) a b c → ∃ d, ixD menu (.int x) = some d ∧ Φ (.val d) (some (rl a b c))) : Fp F_l_one_of [.own 1 (rl a b c), .val menu] Φ := by
  refine f_def rfl ?_
  show X _ [_, _] _
  unfold B_l_one_of
  repeat' walk_at "x"
  refine e_lenD hl ?_
  repeat' walk_at "x"
  refine x_callF rfl ?_
  refine (p_wind h hn hm hm2 fun x a b c h0 h1 hr => ?_)
  repeat' walk_at "x"
  obtain ⟨d, e, p⟩ := k x a b c h0 h1 hr
  refine e_ixD e ?_
  repeat' walk_at "x"
  exact p
theorem p_reel {ns : List Int} {t : Int} {Φ : Vr → Option OD → Prop} (hns : ns.length ≤ 63) (ht : 0 ≤ t) (ht2 : t < 10)
    (k : ∀ a b c, RO 1 a b c → Φ (.own (rl a b c)) none) : Fp F_l_reel [.val (.scr ns), .val (.int t)] Φ := by
  refine f_def rfl ?_
  show X _ [_, _, _, _, _] _
  unfold B_l_reel
  refine x_seq (x_asg ?_)
  refine X.imp (Φ := fun d Γ' => (∃ own, d = D.int own) ∧ Γ' = [.val (.scr ns), .val (.int t), .no, .no, .no]) ?_ ?_
  · repeat' walk_at "x"
    · rename_i h
      obtain ⟨i, e⟩ := ix_scr ht h
      exact e_ixD e ⟨⟨_, rfl⟩, rfl⟩
    · exact ⟨⟨_, rfl⟩, rfl⟩
  rintro _ _ ⟨⟨own, rfl⟩, rfl⟩
  obtain ⟨ms, em, hl⟩ := cut_ints (ns := ns) (lo := none) (hi := some 5)
  repeat' walk_at "x"
  rw [em]
  refine r_addL ?_ ?_
  · rw [List.length_map, List.length_singleton]; omega
  repeat' walk_at "x"
  refine x_forL (fun ds Γ => (∀ d ∈ ds, ∃ i, d = D.int i) ∧ ∃ m w, 0 ≤ m ∧ m < 2147480009 ∧ Γ = [.val (.scr ns), .val (.int t), .val (.int own), .val (.int m), w]) ?_ ?_ ?_
  · refine ⟨fun d hd => ?_, _, _, ?_, ?_, rfl⟩
    · rcases List.mem_append.mp hd with h | h
      · obtain ⟨i, _, e⟩ := List.mem_map.mp h; exact ⟨i, e.symm⟩
      · exact ⟨own, List.mem_singleton.mp h⟩
    · omega
    · omega
  · rintro d ds Γ ⟨hd, m, w, m0, m1, rfl⟩
    obtain ⟨i, rfl⟩ := hd _ List.mem_cons_self
    repeat' walk_at "x"
    exact ⟨fun d h => hd d (List.mem_cons_of_mem _ h), _, _, Int.emod_nonneg _ (by decide), Int.emod_lt_of_pos _ (by decide), rfl⟩
  · rintro Γ ⟨_, m, w, m0, m1, rfl⟩
    repeat' walk_at "x"
    · exact k _ _ _ ⟨by omega, m0, m1, by decide, by decide⟩
    refine r_pow (v := 10 ^ 16) (by decide) (by decide) ?_
    repeat' walk_at "x"
    · exact k _ _ _ ⟨by omega, m0, m1, by decide, by decide⟩
    · exact k _ _ _ ⟨by omega, m0, m1, by decide, by decide⟩
end Ks

set_option linter.all false
set_option maxRecDepth 100000
set_option pp.maxSteps 500
set_option maxHeartbeats 1000000
namespace Ks
open PySem PySem.Spec PyProof.Rows L2 DF TL NumText
variable [TbC]
/-- one of a written list -/
theorem p_one_list {n a b c : Int} {ds : List D} {Φ : Vr → Option OD → Prop} (h : RO n a b c) (hn : n ≤ 10 ^ 15) (h0 : 0 < ds.length) (h1 : ds.length < 1000)
    (k : ∀ d a b c, d ∈ ds → RO (n + 1) a b c → Φ (.val d) (some (rl a b c))) : Fp F_l_one_of [.own 1 (rl a b c), .val (.lst ds)] Φ :=
  p_one_of h hn (m := ds.length) rfl (by omega) (by omega) fun x a b c x0 x1 hr => by
    obtain ⟨d, e, hd⟩ := atI_ok (ds := ds) x0 x1
    exact ⟨d, e, k d a b c hd hr⟩
/-- one of a text's signs -/
theorem p_one_text {n a b c : Int} {z : Str} {Φ : Vr → Option OD → Prop} (h : RO n a b c) (hn : n ≤ 10 ^ 15) (h0 : 0 < z.length) (h1 : z.length < 1000)
    (k : ∀ s a b c, s ∈ tl z → RO (n + 1) a b c → Φ (.val (chrD s)) (some (rl a b c))) : Fp F_l_one_of [.own 1 (rl a b c), .val (.str z)] Φ :=
  p_one_of h hn (m := z.length) (by show (if z.length ≤ 16777216 then _ else none) = _; rw [if_pos (by omega)]) (by omega) (by omega) fun x a b c x0 x1 hr => by
    obtain ⟨d, e, hd⟩ := atI_ok (ds := tl z) x0 (by rw [← len_tl]; exact x1)
    exact ⟨chrD d, by show (if z.length ≤ 16777216 then (atI (tl z) x).map chrD else none) = _; rw [if_pos (by omega), e]; rfl, k d a b c hd hr⟩
theorem joinL_one : ∀ l : List Nat, joinL [] (l.map fun c => [c]) = l
  | [] => rfl
  | [c] => rfl
  | c :: d :: l => by
    show [c] ++ ([] ++ joinL [] ((d :: l).map fun c => [c])) = _
    rw [joinL_one (d :: l)]; rfl
theorem strsOf_chr : ∀ l : List Nat, joinD.strsOf (l.map chrD) = some (l.map fun c => (⟨#[c]⟩ : Str))
  | [] => rfl
  | c :: l => by
    show (joinD.strsOf (l.map chrD)).map _ = _
    rw [strsOf_chr l]; rfl
theorem join_chr {l : List Nat} (h : l.length ≤ 10000) : joinD (.str "") [.lst (l.map chrD)] = some (.str ⟨l.toArray⟩) := by
  show (joinD.strsOf (l.map chrD)).bind _ = _
  rw [strsOf_chr, Option.bind_some]
  have e1 : ((l.map fun c => (⟨#[c]⟩ : Str)).map (·.length)).sum = l.length := by
    clear h
    induction l with
    | nil => rfl
    | cons c l ih => rw [List.map_cons, List.map_cons, List.sum_cons, ih, List.length_cons]; show 1 + _ = _; omega
  rw [if_pos (by rw [e1, show (Str.ofString "").length = 0 from by decide +kernel]; omega)]
  congr 2
  refine ext_tl ?_
  rw [join_eq, tl_join, List.map_map, show tl (Str.ofString "") = [] from by decide +kernel]
  exact joinL_one l
end Ks

set_option linter.all false
set_option maxRecDepth 100000
set_option pp.maxSteps 500
set_option maxHeartbeats 1000000
namespace Ks
open PySem PySem.Spec PyProof.Rows L2 DF TL NumText
variable [TbC]
/-! ### letters, and words that are struck -/
def isL (c : Nat) : Prop := (97 ≤ c ∧ c ≤ 100) ∨ (65 ≤ c ∧ c ≤ 68)
def opp (c : Nat) : Nat := if 97 ≤ c then c - 32 else c + 32
theorem opp_opp {c : Nat} (h : isL c) : opp (opp c) = c := by unfold opp; unfold isL at h; split <;> split <;> omega
theorem opp_ne {c : Nat} (h : isL c) : opp c ≠ c := by unfold opp; unfold isL at h; split <;> omega
theorem opp_L {c : Nat} (h : isL c) : isL (opp c) := by unfold opp; unfold isL at *; split <;> omega
/-- a sign put on a stack (its top is the head) -/
def push (s : List Nat) (c : Nat) : List Nat := match s with
  | d :: r => if d = opp c then r else c :: d :: r
  | [] => [c]
/-- no sign beside its opposite -/
def Red : List Nat → Prop
  | c :: d :: r => c ≠ opp d ∧ Red (d :: r)
  | _ => True
theorem Red.tail {c : Nat} {r : List Nat} (h : Red (c :: r)) : Red r := by
  cases r with
  | nil => trivial
  | cons d r => exact h.2
theorem push_red {s : List Nat} {c : Nat} (hs : Red s) (hl : ∀ d ∈ s, isL d) (hc : isL c) : Red (push s c) := by
  cases s with
  | nil => trivial
  | cons d r =>
    show Red (if d = opp c then r else c :: d :: r)
    split
    · exact hs.tail
    · rename_i hn
      refine ⟨fun e => hn ?_, hs⟩
      rw [e, opp_opp (hl d List.mem_cons_self)]
theorem push_L {s : List Nat} {c : Nat} (hl : ∀ d ∈ s, isL d) (hc : isL c) : ∀ d ∈ push s c, isL d := by
  unfold push
  split
  · rename_i d r
    split
    · exact fun x hx => hl x (List.mem_cons_of_mem _ hx)
    · intro x hx
      rcases List.mem_cons.mp hx with e | e
      · rw [e]; exact hc
      · exact hl x e
  · intro x hx
    rw [List.mem_singleton.mp hx]; exact hc
theorem push_two {s : List Nat} {c : Nat} (hs : Red s) (hl : ∀ d ∈ s, isL d) (hc : isL c) : push (push s c) (opp c) = s := by
  cases s with
  | nil =>
    show (if c = opp (opp c) then [] else [opp c, c]) = []
    rw [if_pos (opp_opp hc).symm]
  | cons d r =>
    by_cases h : d = opp c
    · have e1 : push (d :: r) c = r := by unfold push; dsimp only; rw [if_pos h]
      rw [e1]
      cases r with
      | nil => rw [h]; rfl
      | cons d' r' =>
        have : d' ≠ opp (opp c) := fun e => by
          have := hs.1
          rw [opp_opp hc] at e
          exact this (by rw [h, e])
        show (if d' = opp (opp c) then r' else opp c :: d' :: r') = _
        rw [if_neg this, h]
    · have e1 : push (d :: r) c = c :: d :: r := by unfold push; dsimp only; rw [if_neg h]
      rw [e1]
      show (if c = opp (opp c) then d :: r else _) = _
      rw [if_pos (opp_opp hc).symm]
def stk (l : List Nat) : List Nat := l.foldl push []
/-- a word, struck -/
def red (l : List Nat) : List Nat := (stk l).reverse
theorem fold_red : ∀ (l s : List Nat), Red s → (∀ d ∈ s, isL d) → (∀ c ∈ l, isL c) → Red (l.foldl push s) ∧ ∀ d ∈ l.foldl push s, isL d
  | [], s, hs, hl, _ => ⟨hs, hl⟩
  | c :: l, s, hs, hl, hc => fold_red l (push s c) (push_red hs hl (hc c List.mem_cons_self)) (push_L hl (hc c List.mem_cons_self)) fun x hx => hc x (List.mem_cons_of_mem _ hx)
theorem red_cut {u v : List Nat} {c : Nat} (hu : ∀ x ∈ u, isL x) (hc : isL c) : red (u ++ c :: opp c :: v) = red (u ++ v) := by
  unfold red stk
  rw [List.foldl_append, List.foldl_append, List.foldl_cons, List.foldl_cons]
  obtain ⟨h1, h2⟩ := fold_red u [] trivial (fun _ h => (List.not_mem_nil h).elim) hu
  rw [push_two h1 h2 hc]
/-- no sign before its opposite -/
def Still : List Nat → Prop
  | c :: d :: r => d ≠ opp c ∧ Still (d :: r)
  | _ => True
theorem still_fold : ∀ (l s : List Nat), Still l → (∀ x ∈ l, isL x) → (∀ a b r, s = a :: r → l.head? = some b → a ≠ opp b) → l.foldl push s = l.reverse ++ s
  | [], s, _, _, _ => rfl
  | c :: l, s, h, hl, hb => by
    have e : push s c = c :: s := by
      cases s with
      | nil => rfl
      | cons d r => show (if d = opp c then r else c :: d :: r) = _; rw [if_neg (hb d c r rfl rfl)]
    rw [List.foldl_cons, e, still_fold l (c :: s) (by cases l with | nil => trivial | cons d r => exact h.2) (fun x hx => hl x (List.mem_cons_of_mem _ hx)) ?_, List.reverse_cons, List.append_assoc]; rfl
    intro a b r e1 e2
    cases e1
    cases l with
    | nil => cases e2
    | cons d l' =>
      cases e2
      intro e3
      exact h.1 (by rw [e3, opp_opp (hl _ (List.mem_cons_of_mem _ List.mem_cons_self))])
theorem red_still {l : List Nat} (h : Still l) (hl : ∀ x ∈ l, isL x) : red l = l := by
  unfold red stk
  rw [still_fold l [] h hl (fun a b r e => by cases e), List.append_nil, List.reverse_reverse]
theorem red_len_le : ∀ (l s : List Nat), (l.foldl push s).length ≤ s.length + l.length
  | [], s => Nat.le_refl _
  | c :: l, s => by
    have h := red_len_le l (push s c)
    have : (push s c).length ≤ s.length + 1 := by
      cases s with
      | nil => exact Nat.le_refl _
      | cons d r => show (if d = opp c then r else c :: d :: r).length ≤ _; split <;> simp <;> omega
    rw [List.foldl_cons, List.length_cons]; omega
theorem red_len (l : List Nat) : (red l).length ≤ l.length := by
  unfold red stk; rw [List.length_reverse]; have := red_len_le l []; simpa using this
theorem red_L {l : List Nat} (hl : ∀ x ∈ l, isL x) : ∀ x ∈ red l, isL x := fun x hx => by
  unfold red stk at hx
  exact (fold_red l [] trivial (fun _ h => (List.not_mem_nil h).elim) hl).2 x (List.mem_reverse.mp hx)
/-! ### what the methods make of one letter -/
abbrev ch (c : Nat) : Str := ⟨#[c]⟩
def low (c : Nat) : Nat := if 97 ≤ c then c else c + 32
theorem letter_cases {c : Nat} (h : isL c) : c = 97 ∨ c = 98 ∨ c = 99 ∨ c = 100 ∨ c = 65 ∨ c = 66 ∨ c = 67 ∨ c = 68 := by unfold isL at h; omega
theorem swap_ch {c : Nat} (h : isL c) : swapD (.str (ch c)) [] = some (.str (ch (opp c))) := by
  rcases letter_cases h with e | e | e | e | e | e | e | e <;> subst e <;> kernel_rfl
theorem lower_ch {c : Nat} (h : isL c) : lowerD (.str (ch c)) [] = some (.str (ch (low c))) := by
  rcases letter_cases h with e | e | e | e | e | e | e | e <;> subst e <;> kernel_rfl
theorem ch_inj {c d : Nat} : ch c = ch d ↔ c = d := ⟨fun h => by have := congrArg tl h; exact List.singleton_inj.mp this, fun h => by rw [h]⟩
theorem low_eq {c d : Nat} (hc : isL c) (hd : isL d) : (d ≠ c ∧ low d = low c) ↔ d = opp c := by
  unfold low opp; unfold isL at hc hd; split <;> split <;> omega
theorem fold_P {Pc : Nat → Prop} : ∀ (l s : List Nat), (∀ d ∈ s, Pc d) → (∀ c ∈ l, Pc c) → ∀ d ∈ l.foldl push s, Pc d
  | [], s, hs, _ => hs
  | c :: l, s, hs, hl => fold_P l (push s c) (by
      unfold push
      split
      · rename_i d r
        split
        · exact fun x hx => hs x (List.mem_cons_of_mem _ hx)
        · intro x hx
          rcases List.mem_cons.mp hx with e | e
          · rw [e]; exact hl c List.mem_cons_self
          · exact hs x e
      · intro x hx
        rw [List.mem_singleton.mp hx]; exact hl c List.mem_cons_self) fun x hx => hl x (List.mem_cons_of_mem _ hx)
theorem red_P {Pc : Nat → Prop} {l : List Nat} (hl : ∀ c ∈ l, Pc c) : ∀ x ∈ red l, Pc x := fun x hx => by
  unfold red stk at hx
  exact fold_P l [] (fun _ h => (List.not_mem_nil h).elim) hl x (List.mem_reverse.mp hx)
theorem fold_rev : ∀ (s : List Nat), Red s → (∀ d ∈ s, isL d) → s.reverse.foldl push [] = s
  | [], _, _ => rfl
  | c :: r, hs, hl => by
    rw [List.reverse_cons, List.foldl_append, fold_rev r hs.tail fun d hd => hl d (List.mem_cons_of_mem _ hd)]
    show push r c = c :: r
    cases r with
    | nil => rfl
    | cons d r =>
      show (if d = opp c then r else c :: d :: r) = _
      rw [if_neg]
      intro e
      exact hs.1 (by rw [e, opp_opp (hl c List.mem_cons_self)])
theorem red_red {l : List Nat} (hl : ∀ c ∈ l, isL c) : red (red l) = red l := by
  obtain ⟨h1, h2⟩ := fold_red l [] trivial (fun _ h => (List.not_mem_nil h).elim) hl
  show (stk (stk l).reverse).reverse = (stk l).reverse
  congr 1
  exact fold_rev (stk l) h1 h2
/-! ### words as a group -/
theorem snoc_ind {P : List Nat → Prop} (nil : P []) (append_singleton : ∀ u c, P u → P (u ++ [c])) (l : List Nat) : P l := by
  rw [← List.reverse_reverse l]
  induction l.reverse with
  | nil => exact nil
  | cons c s ih => rw [List.reverse_cons]; exact append_singleton _ _ ih
abbrev AL (l : List Nat) : Prop := ∀ x ∈ l, isL x
theorem AL.app {u v : List Nat} (hu : AL u) (hv : AL v) : AL (u ++ v) := fun x hx => (List.mem_append.mp hx).elim (hu x) (hv x)
theorem AL.left {u v : List Nat} (h : AL (u ++ v)) : AL u := fun x hx => h x (List.mem_append.mpr (.inl hx))
theorem AL.right {u v : List Nat} (h : AL (u ++ v)) : AL v := fun x hx => h x (List.mem_append.mpr (.inr hx))
theorem AL.nil : AL [] := fun _ h => (List.not_mem_nil h).elim
theorem stk_ok {u : List Nat} (hu : AL u) : Red (stk u) ∧ AL (stk u) := fold_red u [] trivial AL.nil hu
theorem stk_red {u : List Nat} (hu : AL u) : stk (red u) = stk u := by
  obtain ⟨h1, h2⟩ := stk_ok hu
  exact fold_rev (stk u) h1 h2
theorem red_left {u v : List Nat} (hu : AL u) : red (red u ++ v) = red (u ++ v) := by
  unfold red
  congr 1
  show stk (red u ++ v) = stk (u ++ v)
  unfold stk
  rw [List.foldl_append, List.foldl_append]
  have := stk_red hu
  unfold stk at this
  rw [this]
theorem stk_snoc (u : List Nat) (c : Nat) : stk (u ++ [c]) = push (stk u) c := by
  unfold stk
  rw [List.foldl_append]
  rfl
theorem stk_right (u : List Nat) (hu : AL u) : ∀ (v : List Nat), AL v → stk (u ++ red v) = stk (u ++ v) := by
  intro v
  induction v using snoc_ind with
  | nil => intro _; rfl
  | append_singleton v c ih =>
    intro hv
    have hvv := AL.left hv
    have hc : isL c := hv c (List.mem_append.mpr (.inr (List.mem_singleton.mpr rfl)))
    have ih := ih hvv
    obtain ⟨r1, r2⟩ := stk_ok hvv
    rw [← List.append_assoc, stk_snoc, ← ih]
    have e : red (v ++ [c]) = (push (stk v) c).reverse := by
      show (stk (v ++ [c])).reverse = _
      rw [stk_snoc]
    rw [e]
    cases hs : stk v with
    | nil =>
      have : red v = [] := by unfold red; rw [hs]; rfl
      rw [this, List.append_nil]
      show stk (u ++ [c]) = _
      rw [stk_snoc]
    | cons d r =>
      have hr : red v = r.reverse ++ [d] := by unfold red; rw [hs, List.reverse_cons]
      show stk (u ++ (if d = opp c then r else c :: d :: r).reverse) = _
      split
      · rename_i hd
        have hrL : AL (u ++ r.reverse) := hu.app fun x hx => r2 x (by rw [hs]; exact List.mem_cons_of_mem _ (List.mem_reverse.mp hx))
        obtain ⟨k1, k2⟩ := stk_ok hrL
        rw [hr, ← List.append_assoc, stk_snoc]
        have hd2 : isL d := r2 d (by rw [hs]; exact List.mem_cons_self)
        have : c = opp d := by rw [hd, opp_opp hc]
        rw [this, push_two k1 k2 hd2]
      · rw [List.reverse_cons, ← List.append_assoc, stk_snoc, List.reverse_cons, ← hr]
theorem red_right {u v : List Nat} (hu : AL u) (hv : AL v) : red (u ++ red v) = red (u ++ v) := by
  unfold red at *
  congr 1
  exact stk_right u hu v hv
theorem red_ctx {a u v b : List Nat} (ha : AL a) (hu : AL u) (hv : AL v) (hb : AL b) (h : red u = red v) : red (a ++ u ++ b) = red (a ++ v ++ b) := by
  have h1 : red (a ++ u) = red (a ++ v) := by rw [← red_right ha hu, h, red_right ha hv]
  rw [← red_left (ha.app hu), h1, red_left (ha.app hv)]
theorem red_r {u v b : List Nat} (hu : AL u) (hv : AL v) (h : red u = red v) : red (u ++ b) = red (v ++ b) := by
  rw [← red_left hu, h, red_left hv]
theorem red_l {a u v : List Nat} (ha : AL a) (hu : AL u) (hv : AL v) (h : red u = red v) : red (a ++ u) = red (a ++ v) := by
  rw [← red_right ha hu, h, red_right ha hv]
/-- a word read back -/
def inv (l : List Nat) : List Nat := (l.map opp).reverse
theorem inv_nil : inv [] = [] := rfl
theorem inv_app (u v : List Nat) : inv (u ++ v) = inv v ++ inv u := by unfold inv; rw [List.map_append, List.reverse_append]
theorem inv_one (c : Nat) : inv [c] = [opp c] := rfl
theorem inv_cons (c : Nat) (u : List Nat) : inv (c :: u) = inv u ++ [opp c] := by unfold inv; rw [List.map_cons, List.reverse_cons]
theorem inv_AL {u : List Nat} (h : AL u) : AL (inv u) := fun x hx => by
  unfold inv at hx
  obtain ⟨y, hy, e⟩ := List.mem_map.mp (List.mem_reverse.mp hx)
  rw [← e]
  exact opp_L (h y hy)
theorem inv_inv : ∀ {u : List Nat}, AL u → inv (inv u) = u
  | [], _ => rfl
  | c :: u, h => by
    rw [inv_cons, inv_app, inv_inv (fun x hx => h x (List.mem_cons_of_mem _ hx))]
    show opp (opp c) :: u = _
    rw [opp_opp (h c List.mem_cons_self)]
theorem inv_len (u : List Nat) : (inv u).length = u.length := by unfold inv; simp
theorem red_pair {a u b : List Nat} (ha : AL a) : ∀ (_ : AL u), red (a ++ (u ++ inv u) ++ b) = red (a ++ b) := by
  induction u using snoc_ind generalizing a b with
  | nil => intro _; rw [show ([] : List Nat) ++ inv [] = [] from rfl, List.append_nil]
  | append_singleton u c ih =>
    intro h
    have hc : isL c := h c (List.mem_append.mpr (.inr (List.mem_singleton.mpr rfl)))
    have e : a ++ (u ++ [c] ++ inv (u ++ [c])) ++ b = (a ++ u) ++ c :: opp c :: (inv u ++ b) := by
      rw [inv_app, inv_one]
      simp
    rw [e, red_cut (ha.app (AL.left h)) hc]
    have e2 : a ++ u ++ (inv u ++ b) = a ++ (u ++ inv u) ++ b := by simp
    rw [e2]
    exact ih ha (AL.left h)
theorem red_pair' {a u b : List Nat} (ha : AL a) (hu : AL u) : red (a ++ (inv u ++ u) ++ b) = red (a ++ b) := by
  have := red_pair (b := b) ha (inv_AL hu)
  rwa [inv_inv hu] at this
/-! the group's laws, on words -/
theorem can_l {u v w : List Nat} (hu : AL u) (hv : AL v) (hw : AL w) : red (u ++ v) = red (u ++ w) ↔ red v = red w := by
  constructor
  · intro h
    have h2 := red_l (inv_AL hu) (hu.app hv) (hu.app hw) h
    rw [← List.append_assoc, ← List.append_assoc] at h2
    have e := fun x => red_pair' (a := []) (b := x) AL.nil hu
    rw [show inv u ++ u ++ v = [] ++ (inv u ++ u) ++ v by simp, show inv u ++ u ++ w = [] ++ (inv u ++ u) ++ w by simp, e, e] at h2
    exact h2
  · exact red_l hu hv hw
theorem can_r {u v w : List Nat} (hu : AL u) (hv : AL v) (hw : AL w) : red (v ++ u) = red (w ++ u) ↔ red v = red w := by
  constructor
  · intro h
    have h2 := red_r (b := inv u) (hv.app hu) (hw.app hu) h
    have e := fun x (hx : AL x) => red_pair (a := x) (b := []) hx hu
    rw [show v ++ u ++ inv u = v ++ (u ++ inv u) ++ [] by simp, show w ++ u ++ inv u = w ++ (u ++ inv u) ++ [] by simp, e v hv, e w hw, List.append_nil, List.append_nil] at h2
    exact h2
  · exact red_r hv hw
/-- two words commute -/
def Cm (u v : List Nat) : Prop := red (u ++ v) = red (v ++ u)
theorem Cm.symm {u v : List Nat} (h : Cm u v) : Cm v u := Eq.symm h
theorem Cm.inv {u v : List Nat} (hu : AL u) (hv : AL v) (h : Cm u v) : Cm (inv u) v := by
  -- multiply by u on both sides
  have hi := inv_AL hu
  unfold Cm at *
  rw [← can_l hu (hi.app hv) (hv.app hi), ← can_r (u := u) hu (hu.app (hi.app hv)) (hu.app (hv.app hi))]
  have e1 : red (u ++ (Ks.inv u ++ v) ++ u) = red (v ++ u) := by
    rw [show u ++ (Ks.inv u ++ v) ++ u = [] ++ (u ++ Ks.inv u) ++ (v ++ u) by simp, red_pair AL.nil hu]
    rfl
  have e2 : red (u ++ (v ++ Ks.inv u) ++ u) = red (u ++ v) := by
    rw [show u ++ (v ++ Ks.inv u) ++ u = (u ++ v) ++ (Ks.inv u ++ u) ++ [] by simp, red_pair' (hu.app hv) hu, List.append_nil]
  rw [e1, e2]
  exact h.symm
theorem cm_inv {u v : List Nat} (hu : AL u) (hv : AL v) : Cm (inv u) v ↔ Cm u v := ⟨fun h => by
  have := Cm.inv (inv_AL hu) hv h
  rwa [inv_inv hu] at this, Cm.inv hu hv⟩
theorem cm_gap {u v : List Nat} (hu : AL u) (hv : AL v) : red ((u ++ v) ++ (inv u ++ inv v)) = [] ↔ Cm u v := by
  have h1 : red (v ++ u ++ (Ks.inv u ++ Ks.inv v)) = [] := by
    rw [show v ++ u ++ (Ks.inv u ++ Ks.inv v) = v ++ (u ++ Ks.inv u) ++ Ks.inv v by simp, red_pair hv hu]
    have := red_pair (a := []) (b := []) AL.nil hv
    rw [List.nil_append, List.append_nil] at this
    exact this
  have h2 := can_r (u := inv u ++ inv v) ((inv_AL hu).app (inv_AL hv)) (hu.app hv) (hv.app hu)
  rw [h1] at h2
  exact h2
theorem cm_red {u v : List Nat} (hu : AL u) (hv : AL v) : Cm (red u) (red v) ↔ Cm u v := by
  unfold Cm
  rw [red_left hu, red_right hu hv, red_left hv, red_right hv hu]
theorem cm_conj {c u v : List Nat} (hc : AL c) (hu : AL u) (hv : AL v) : Cm (c ++ u ++ inv c) (c ++ v ++ inv c) ↔ Cm u v := by
  have key : ∀ a b : List Nat, AL a → AL b → red ((c ++ a ++ Ks.inv c) ++ (c ++ b ++ Ks.inv c)) = red (c ++ (a ++ b) ++ Ks.inv c) := fun a b ha hb => by
    rw [show (c ++ a ++ Ks.inv c) ++ (c ++ b ++ Ks.inv c) = (c ++ a) ++ (Ks.inv c ++ c) ++ (b ++ Ks.inv c) by simp, red_pair' (hc.app ha) hc]
    simp
  unfold Cm
  rw [key u v hu hv, key v u hv hu, can_r (inv_AL hc) (hc.app (hu.app hv)) (hc.app (hv.app hu)), can_l hc (hu.app hv) (hv.app hu)]
/-! ### words as they stand -/
theorem still_app : ∀ {u v : List Nat}, Still u → Still v → (∀ a z, u.getLast? = some z → v.head? = some a → a ≠ opp z) → Still (u ++ v)
  | [], v, _, hv, _ => hv
  | [c], [], _, _, _ => trivial
  | [c], d :: v, _, hv, h => ⟨h d c rfl rfl, hv⟩
  | c :: d :: u, v, hu, hv, h => by
    refine ⟨hu.1, ?_⟩
    exact still_app (u := d :: u) hu.2 hv fun a z e1 e2 => h a z (by rw [List.getLast?_cons_cons]; exact e1) e2
theorem Still.right {v : List Nat} : ∀ {u : List Nat}, Still (u ++ v) → Still v
  | [], h => h
  | [c], h => by
    cases v with
    | nil => trivial
    | cons d v => exact h.2
  | c :: d :: u, h => Still.right (u := d :: u) h.2
theorem Still.left {v : List Nat} : ∀ {u : List Nat}, Still (u ++ v) → Still u
  | [], h => trivial
  | [c], h => trivial
  | c :: d :: u, h => ⟨h.1, Still.left (u := d :: u) h.2⟩
theorem Still.mid {u v : List Nat} (h : Still (u ++ v)) : ∀ a z, u.getLast? = some z → v.head? = some a → a ≠ opp z := by
  induction u with
  | nil => intro a z e; cases e
  | cons c u ih =>
    intro a z e1 e2
    cases u with
    | nil =>
      cases v with
      | nil => cases e2
      | cons d v => cases e1; cases e2; exact h.1
    | cons d u =>
      rw [List.getLast?_cons_cons] at e1
      exact ih h.2 a z e1 e2
theorem red_to_still : ∀ {s : List Nat}, Red s → AL s → Still s.reverse
  | [], _, _ => trivial
  | c :: s, h, hl => by
    rw [List.reverse_cons]
    refine still_app (red_to_still h.tail fun x hx => hl x (List.mem_cons_of_mem _ hx)) trivial fun a z e1 e2 => ?_
    cases e2
    rw [List.getLast?_reverse] at e1
    cases s with
    | nil => cases e1
    | cons d s => cases e1; exact h.1
theorem red_Still {l : List Nat} (h : AL l) : Still (red l) := red_to_still (stk_ok h).1 (stk_ok h).2
theorem still_iff {l : List Nat} (h : AL l) : Still l ↔ red l = l := ⟨fun s => red_still s h, fun e => by rw [← e]; exact red_Still h⟩
theorem push_len (s : List Nat) (c : Nat) : (push s c).length ≤ s.length + 1 := by
  cases s with
  | nil => exact Nat.le_refl _
  | cons d r => show (if d = opp c then r else c :: d :: r).length ≤ _; split <;> simp <;> omega
/-- a word that keeps its length is still -/
theorem red_full {l : List Nat} (h : (red l).length = l.length) : red l = l := by
  induction l using snoc_ind with
  | nil => rfl
  | append_singleton l c ih =>
    have e : red (l ++ [c]) = (push (stk l) c).reverse := by
      show (stk (l ++ [c])).reverse = _
      rw [stk_snoc]
    rw [e, List.length_reverse, List.length_append] at h
    have h1 := red_len l
    have h3 : (red l).length = (stk l).length := by unfold red; rw [List.length_reverse]
    have hl : (red l).length = l.length := by
      have := push_len (stk l) c
      simp at h
      omega
    have ih := ih hl
    rw [e]
    cases hs : stk l with
    | nil =>
      have : red l = [] := by unfold red; rw [hs]; rfl
      rw [← ih, this]
      rfl
    | cons d r =>
      show (if d = opp c then r else c :: d :: r).reverse = _
      split
      · rename_i hd
        exfalso
        have : (push (stk l) c) = r := by rw [hs]; show (if d = opp c then r else c :: d :: r) = _; rw [if_pos hd]
        rw [this] at h
        rw [hs] at h3
        simp at h h3
        omega
      · rw [List.reverse_cons, ← hs]
        show red l ++ [c] = _
        rw [ih]
theorem inv_still : ∀ {u : List Nat}, AL u → Still u → Still (inv u)
  | [], _, _ => trivial
  | c :: u, hl, h => by
    rw [inv_cons]
    have hu : AL u := fun x hx => hl x (List.mem_cons_of_mem _ hx)
    refine still_app (inv_still hu (Still.right (u := [c]) h)) trivial fun a z e1 e2 => ?_
    cases e2
    unfold inv at e1
    rw [List.getLast?_reverse] at e1
    cases u with
    | nil => cases e1
    | cons d u =>
      cases e1
      rw [opp_opp (hu d List.mem_cons_self)]
      intro e
      exact h.1 (by rw [← e])
/-! ### a word so many times -/
def rep (x : List Nat) : Nat → List Nat
  | 0 => []
  | k + 1 => x ++ rep x k
theorem rep_one (x : List Nat) : rep x 1 = x := List.append_nil x
theorem rep_add (x : List Nat) (i : Nat) : ∀ j, rep x (i + j) = rep x i ++ rep x j := by
  induction i with
  | zero => intro j; rw [Nat.zero_add]; rfl
  | succ i ih => intro j; rw [show i + 1 + j = (i + j) + 1 by omega]; show x ++ rep x (i + j) = x ++ rep x i ++ rep x j; rw [ih, List.append_assoc]
theorem rep_mul (x : List Nat) (i : Nat) : ∀ j, rep (rep x i) j = rep x (i * j)
  | 0 => by rw [Nat.mul_zero]; rfl
  | j + 1 => by show rep x i ++ rep (rep x i) j = _; rw [rep_mul x i j, ← rep_add]; congr 1; rw [Nat.mul_succ]; omega
theorem rep_comm (x : List Nat) (k : Nat) : rep x k ++ x = x ++ rep x k := by
  have h := rep_add x k 1
  rw [rep_one] at h
  rw [← h]
  rfl
theorem rep_len (x : List Nat) : ∀ k, (rep x k).length = k * x.length
  | 0 => by simp [rep]
  | k + 1 => by show (x ++ rep x k).length = _; rw [List.length_append, rep_len x k, Nat.succ_mul]; omega
theorem rep_AL {x : List Nat} (h : AL x) : ∀ k, AL (rep x k)
  | 0 => AL.nil
  | k + 1 => h.app (rep_AL h k)
theorem inv_rep (x : List Nat) : ∀ k, inv (rep x k) = rep (inv x) k
  | 0 => rfl
  | k + 1 => by show inv (x ++ rep x k) = _; rw [inv_app, inv_rep x k, rep_comm]; rfl
theorem rep_nil : ∀ k, rep [] k = []
  | 0 => rfl
  | k + 1 => by show [] ++ rep [] k = []; rw [rep_nil k]; rfl
/-- words that commute as they stand are both some word so many times -/
theorem word_comm : ∀ (n : Nat) (u v : List Nat), u.length + v.length ≤ n → u ++ v = v ++ u → ∃ w i j, u = rep w i ∧ v = rep w j
  | 0, u, v, h, _ => ⟨[], 0, 0, by have : u.length = 0 := by omega
                                   exact List.length_eq_zero_iff.mp this, by have : v.length = 0 := by omega
                                                                             exact List.length_eq_zero_iff.mp this⟩
  | n + 1, u, v, h, e => by
    by_cases hu : u = []
    · exact ⟨v, 0, 1, hu, (rep_one v).symm⟩
    by_cases hv : v = []
    · exact ⟨u, 1, 0, (rep_one u).symm, hv⟩
    have lu : 0 < u.length := List.length_pos_iff.mpr hu
    have lv : 0 < v.length := List.length_pos_iff.mpr hv
    rcases Nat.le_total u.length v.length with hl | hl
    · obtain ⟨t, ht⟩ : u <+: v := List.prefix_of_prefix_length_le (List.prefix_append u v) (by rw [e]; exact List.prefix_append v u) hl
      subst ht
      rw [List.append_assoc] at e
      have e2 := List.append_cancel_left e
      obtain ⟨w, i, j, h1, h2⟩ := word_comm n u t (by simp at h; omega) e2
      exact ⟨w, i, i + j, h1, by rw [rep_add, ← h1, ← h2]⟩
    · obtain ⟨t, ht⟩ : v <+: u := List.prefix_of_prefix_length_le (by rw [e]; exact List.prefix_append v u) (List.prefix_append u v) hl
      subst ht
      rw [List.append_assoc] at e
      have e2 := List.append_cancel_left e
      obtain ⟨w, i, j, h1, h2⟩ := word_comm n t v (by simp at h; omega) e2
      exact ⟨w, j + i, j, by rw [rep_add, ← h1, ← h2], h2⟩
/-- no word so many times but itself once -/
def Prim (b : List Nat) : Prop := b ≠ [] ∧ ∀ x k, b = rep x k → k = 1
theorem prim_comm {b y : List Nat} (hb : Prim b) (e : b ++ y = y ++ b) : ∃ j, y = rep b j := by
  obtain ⟨w, i, j, h1, h2⟩ := word_comm _ b y (Nat.le_refl _) e
  have := hb.2 w i h1
  subst this
  rw [rep_one] at h1
  exact ⟨j, by rw [h1]; exact h2⟩
/-- what commutes with a word so many times commutes with it -/
theorem comm_rep {x y : List Nat} {k : Nat} (hk : 1 ≤ k) (hx : x ≠ []) (e : rep x k ++ y = y ++ rep x k) : x ++ y = y ++ x := by
  have key : ∀ (z : List Nat) (n : Nat), rep x k ++ z = z ++ rep x k → rep (rep x k) n ++ z = z ++ rep (rep x k) n := fun z n h => by
    induction n with
    | zero => simp [rep]
    | succ n ih => show (rep x k ++ rep (rep x k) n) ++ z = z ++ (rep x k ++ rep (rep x k) n); rw [List.append_assoc, ih, ← List.append_assoc, h, List.append_assoc]
  have hlen : 1 ≤ (rep x k).length := by
    rw [rep_len]
    have := List.length_pos_iff.mpr hx
    exact Nat.mul_pos hk this
  have h1 : rep x k ++ (x ++ y) = (x ++ y) ++ rep x k := by rw [← List.append_assoc, rep_comm, List.append_assoc, e, List.append_assoc]
  have h2 : rep x k ++ (y ++ x) = (y ++ x) ++ rep x k := by rw [← List.append_assoc, e, List.append_assoc, rep_comm, List.append_assoc]
  have N := (x ++ y).length
  have pre : ∀ z : List Nat, rep x k ++ z = z ++ rep x k → z.length ≤ x.length + y.length → z = (rep (rep x k) (x.length + y.length)).take z.length := fun z h hz => by
    have h3 := key z (x.length + y.length) h
    have hl : z.length ≤ (rep (rep x k) (x.length + y.length)).length := by
      rw [rep_len]
      exact Nat.le_trans hz (Nat.le_mul_of_pos_right _ hlen)
    have h4 := congrArg (List.take z.length) h3
    rw [List.take_append_of_le_length hl, List.take_append_of_le_length (Nat.le_refl _), List.take_length] at h4
    exact h4.symm
  rw [pre (x ++ y) h1 (by simp), pre (y ++ x) h2 (by simp; omega)]
  simp [Nat.add_comm]
theorem prim_rep {b y : List Nat} {k : Nat} (hb : Prim b) (hk : 1 ≤ k) (e : rep b k ++ y = y ++ rep b k) : ∃ j, y = rep b j := prim_comm hb (comm_rep hk hb.1 e)
theorem prim_uniq {b c : List Nat} {k j : Nat} (hb : Prim b) (hc : Prim c) (hk : 1 ≤ k) (hj : 1 ≤ j) (e : rep b k = rep c j) : b = c ∧ k = j := by
  have h1 : rep b k ++ c = c ++ rep b k := by rw [e, rep_comm]
  obtain ⟨i, hi⟩ := prim_rep hb hk h1
  have := hc.2 b i hi
  subst this
  rw [rep_one] at hi
  refine ⟨hi.symm, ?_⟩
  subst hi
  have h2 := congrArg List.length e
  rw [rep_len, rep_len] at h2
  exact Nat.eq_of_mul_eq_mul_right (List.length_pos_iff.mpr hb.1) h2
theorem prim_inv {b : List Nat} (hl : AL b) (hb : Prim b) : Prim (inv b) := by
  refine ⟨fun e => hb.1 (by rw [← inv_inv hl, e]; rfl), fun x k e => ?_⟩
  refine hb.2 (inv x) k ?_
  rw [← inv_inv hl, e, inv_rep]
/-! ### the round part -/
/-- its ends are not opposite -/
def Cyc (m : List Nat) : Prop := ∀ a z, m.head? = some a → m.getLast? = some z → a ≠ opp z
theorem head_app {u v : List Nat} (h : u ≠ []) : (u ++ v).head? = u.head? := by cases u with | nil => exact absurd rfl h | cons a u => rfl
theorem last_app {u v : List Nat} (h : v ≠ []) : (u ++ v).getLast? = v.getLast? := by
  rw [List.getLast?_append]
  cases hv : v.getLast? with
  | none => exact absurd (List.getLast?_eq_none_iff.mp hv) h
  | some x => rfl
theorem rep_ne {x : List Nat} {k : Nat} (h : x ≠ []) (hk : 1 ≤ k) : rep x k ≠ [] := fun e => by
  have := congrArg List.length e
  rw [rep_len] at this
  have h2 := Nat.mul_pos hk (List.length_pos_iff.mpr h)
  simp at this
  omega
theorem rep_head {x : List Nat} {k : Nat} (h : x ≠ []) (hk : 1 ≤ k) : (rep x k).head? = x.head? := by
  obtain ⟨j, rfl⟩ : ∃ j, k = j + 1 := ⟨k - 1, by omega⟩
  exact head_app h
theorem rep_last {x : List Nat} {k : Nat} (h : x ≠ []) (hk : 1 ≤ k) : (rep x k).getLast? = x.getLast? := by
  obtain ⟨j, rfl⟩ : ∃ j, k = j + 1 := ⟨k - 1, by omega⟩
  show (x ++ rep x j).getLast? = _
  rw [← rep_comm]
  exact last_app h
theorem cyc_rep {x : List Nat} {k : Nat} (h : x ≠ []) (hk : 1 ≤ k) : Cyc (rep x k) ↔ Cyc x := by
  unfold Cyc
  rw [rep_head h hk, rep_last h hk]
theorem cyc_inv {m : List Nat} (hl : AL m) (h : Cyc m) : Cyc (inv m) := by
  intro a z e1 e2
  unfold inv at e1 e2
  rw [List.head?_reverse, List.getLast?_map] at e1
  rw [List.getLast?_reverse, List.head?_map] at e2
  cases h1 : m.getLast? with
  | none => rw [h1] at e1; cases e1
  | some y =>
    cases h2 : m.head? with
    | none => rw [h2] at e2; cases e2
    | some b =>
      rw [h1] at e1; rw [h2] at e2
      cases e1; cases e2
      have hb : isL b := hl b (List.mem_of_head? h2)
      rw [opp_opp hb]
      exact fun e => h b y h2 h1 e.symm
theorem still_rep {x : List Nat} (hs : Still x) (hc : Cyc x) : ∀ k, Still (rep x k)
  | 0 => trivial
  | k + 1 => by
    refine still_app hs (still_rep hs hc k) fun a z e1 e2 => ?_
    cases k with
    | zero => cases e2
    | succ k =>
      by_cases hx : x = []
      · subst hx; cases e1
      · have e3 : (rep x (k + 1)).head? = x.head? := rep_head hx (by omega)
        rw [e3] at e2
        exact hc a z e2 e1
/-- neck, round part, neck undone -/
structure NR (f c m : List Nat) : Prop where
  e : f = c ++ m ++ inv c
  y : Cyc m
  n : m ≠ []
theorem nr_uniq_aux {c m d n : List Nat} (h : c ++ m ++ inv c = d ++ n ++ inv d) (hd : AL d) (hm : Cyc m) (hn : n ≠ []) (l : c.length ≤ d.length) : c = d := by
  have p1 : c <+: d := by
    refine List.prefix_of_prefix_length_le (l₃ := c ++ m ++ inv c) ?_ ?_ l
    · rw [List.append_assoc]; exact List.prefix_append _ _
    · rw [h, List.append_assoc]; exact List.prefix_append _ _
  obtain ⟨t, ht⟩ := p1
  subst ht
  cases t with
  | nil => rw [List.append_nil]
  | cons a t =>
    exfalso
    rw [inv_app] at h
    have h2 : m = (a :: t) ++ n ++ inv (a :: t) := by
      have e1 : c ++ m ++ inv c = c ++ ((a :: t) ++ n ++ inv (a :: t)) ++ inv c := by rw [h]; simp
      exact List.append_cancel_left (List.append_cancel_right e1)
    refine hm a (opp a) (by rw [h2]; rfl) ?_ ?_
    · rw [h2, inv_cons, ← List.append_assoc, List.getLast?_append]
      rfl
    · rw [opp_opp (hd a (List.mem_append.mpr (.inr List.mem_cons_self)))]
theorem nr_uniq {f c m d n : List Nat} (hf : AL f) (h : NR f c m) (k : NR f d n) : c = d ∧ m = n := by
  have e := h.e.symm.trans k.e
  have ac : AL c := by have := hf; rw [h.e, List.append_assoc] at this; exact this.left
  have ad : AL d := by have := hf; rw [k.e, List.append_assoc] at this; exact this.left
  have : c = d := by
    rcases Nat.le_total c.length d.length with l | l
    · exact nr_uniq_aux e ad h.y k.n l
    · exact (nr_uniq_aux e.symm ac k.y h.n l).symm
  subst this
  exact ⟨rfl, List.append_cancel_left (List.append_cancel_right e)⟩
/-! ### who commutes -/
/-- a word that commutes with a round part m, some b so many times, is b or b undone so many times -/
theorem comm_cyc {b l : List Nat} {k : Nat} (ab : AL b) (hb : Prim b) (hk : 1 ≤ k) (hc : Cyc b) (hs : Still (rep b k)) (al : AL l) (hl : Still l) (h : Cm (rep b k) l) : ∃ j, l = rep b j ∨ l = rep (inv b) j := by
  have am := rep_AL ab k
  have full : ∀ {u : List Nat}, AL u → Still (u ++ l) → Cm u l → u ++ l = l ++ u := fun {u} au hst hcm => by
    have e1 := (still_iff (au.app al)).mp hst
    unfold Cm at hcm
    rw [e1] at hcm
    rw [hcm]
    exact red_full (by rw [← hcm]; simp [Nat.add_comm])
  by_cases hm : Still (rep b k ++ l)
  · obtain ⟨j, e⟩ := prim_rep hb hk (full am hm h)
    exact ⟨j, .inl e⟩
  · have hne : rep b k ≠ [] := rep_ne hb.1 hk
    have hcm : Cyc (rep b k) := (cyc_rep hb.1 hk).mpr hc
    have hst : Still (inv (rep b k) ++ l) := by
      refine still_app (inv_still am hs) hl fun a z e1 e2 e3 => hm ?_
      refine still_app hs hl fun a' z' e1' e2' => ?_
      rw [e2] at e2'
      cases e2'
      -- the head of l is the head of m, so not opposite to its end
      unfold inv at e1
      rw [List.getLast?_reverse, List.head?_map] at e1
      cases h2 : (rep b k).head? with
      | none => rw [h2] at e1; cases e1
      | some y =>
        rw [h2] at e1
        cases e1
        rw [opp_opp (am y (List.mem_of_head? h2))] at e3
        rw [e3]
        exact hcm y z' h2 e1'
    have h3 := full (inv_AL am) hst (h.inv am al)
    rw [inv_rep] at h3
    obtain ⟨j, e⟩ := prim_rep (prim_inv ab hb) hk h3
    exact ⟨j, .inr e⟩
end Ks

set_option linter.all false
set_option maxRecDepth 100000
set_option pp.maxSteps 500
set_option maxHeartbeats 1000000
namespace Ks
open PySem PySem.Spec PyProof.Rows L2 DF TL NumText
variable [TbC]
/-! ### one step -/
local macro_rules | `(tactic| walk_at "set") => `(tactic| (refine' e_set ?qa ?_; (case qa => (simp only [wipeF, backF, List.set, List.getD_cons_succ, List.getD_cons_zero, Int.reduceToNat]; rfl))))
local macro_rules | `(tactic| walk_at "cnd") => `(tactic| first | assumption | decide | omega)
local macro_rules | `(tactic| walk_at "mul") => `(tactic| first | exact mulOk_r (by decide) (by decide) | exact mulOk_l (by decide) (by decide) | exact mulOk_l (by omega) (by omega) | exact mulOk_r (by omega) (by omega))
local macro_rules | `(tactic| walk_at "x") => `(tactic| first
  | with_reducible apply x_seq
  | with_reducible apply k_nx
  | with_reducible apply k_rt
  | with_reducible apply x_nx
  | with_reducible refine x_asgK (fa := fLstO _) ?_
  | with_reducible refine x_asgK (fa := fLcO _ _ _ _ _) ?_
  | with_reducible apply ak_own
  | with_reducible apply ak_val
  | with_reducible apply x_asg
  | with_reducible refine x_retK (fa := fLstO _) ?_
  | with_reducible apply rk_own
  | with_reducible apply x_ret
  | with_reducible apply x_ifS
  | with_reducible apply x_asgG
  | with_reducible apply x_drop
  | with_reducible apply x_par
  | with_reducible apply x_par3
  | with_reducible apply x_asg3
  | with_reducible apply x_for
  | with_reducible refine x_aug ⟨_, rfl, ?_⟩
  | with_reducible apply xv_c
  | (with_reducible refine xv_var rfl ?_)
  | (with_reducible refine x_varV rfl ?_)
  | (with_reducible refine x_varO rfl ?_)
  | with_reducible apply xv_op
  | with_reducible apply xv_un
  | with_reducible apply xv_cb
  | with_reducible apply xs_nil
  | with_reducible apply xs_cons
  | with_reducible apply xa_nil
  | with_reducible apply xa_cons
  | with_reducible apply xv_tup
  | with_reducible apply xv_lst
  | with_reducible apply x_lstO
  | with_reducible apply xv_if
  | with_reducible apply xv_andV
  | with_reducible apply xv_orV
  | with_reducible apply xv_notV
  | with_reducible apply xv_isN
  | with_reducible apply xv_notN
  | with_reducible apply xt_test
  | with_reducible apply xt_tru
  | with_reducible apply xt_not
  | with_reducible apply xt_and
  | with_reducible apply xt_or
  | with_reducible apply xt_yes
  | with_reducible apply xv_call
  | with_reducible apply xv_callN
  | with_reducible apply xv_cmeth
  | with_reducible apply xv_cmethN
  | with_reducible apply xv_fld
  | with_reducible apply xv_prop
  | with_reducible apply x_setF
  | with_reducible apply xv_make
  | with_reducible apply xv_makeN
  | (with_reducible refine xv_makeL rfl ?_)
  | with_reducible apply xg_name
  | with_reducible apply xg_nil
  | with_reducible apply xg_cons
  | (with_reducible refine xg_tup rfl ?_)
  | (with_reducible refine xg_unl rfl ?_)
  | (with_reducible refine xg_sub rfl ?_)
  | (with_reducible refine xv_ixO rfl ?_)
  | ((with_reducible refine' xv_pk ?qa ?_); (case qa => (simp only [List.map, seeO, odD]; rfl)))
  | ((with_reducible refine' xt_pk ?qa ?_); (case qa => (simp only [List.map, seeO, odD]; rfl)))
  | with_reducible apply xv_bm
  | with_reducible apply xv_bm0
  | with_reducible apply xv_sl
  | with_reducible apply xo_no
  | with_reducible apply xo_some
  | with_reducible apply xv_revS
  | with_reducible apply xv_revL
  | with_reducible apply xv_fmt
  | with_reducible apply xw_any
  | with_reducible apply xw_rng1
  | with_reducible apply xw_rng2
  | with_reducible apply xv_lc
  | with_reducible apply vk_val
  | with_reducible apply bk_none
  | with_reducible apply bk_tmp
  | (with_reducible refine bk_slot rfl ?_)
  | with_reducible apply rk_val
  | with_reducible apply fk_nx
  | with_reducible apply fk_rt
  | ((with_reducible refine' e_par ?qa ?_); (case qa => (simp only [List.set]; rfl)))
  | ((with_reducible refine' e_par3 ?qa ?_); (case qa => (simp only [List.set]; rfl)))
  | ((with_reducible refine' e_ixO ?qa ?qb ?_); (case qa => exact rfl); (case qb => exact rfl))
  | ((with_reducible refine' e_sub ?qa ?qb ?qc ?_); (case qa => exact rfl); (case qb => exact rfl); (case qc => (simp only [List.set, Int.reduceToNat]; rfl)))
  | ((with_reducible refine' e_setF ?qa ?qb ?qc ?_); (case qa => exact rfl); (case qb => (simp only [List.length_cons, List.length_nil]; decide)); (case qc => (simp only [List.set, Int.reduceToNat]; rfl)))
  | ((with_reducible refine' e_fields ?qa ?qb ?_); (case qa => exact rfl); (case qb => exact rfl))
  | ((with_reducible refine' e_has ?qa ?_); (case qa => exact rfl))
  | with_reducible apply r_addI
  | with_reducible apply r_sub
  | with_reducible apply r_lt
  | with_reducible apply r_gt
  | with_reducible apply r_le
  | with_reducible apply r_ge
  | with_reducible apply r_int
  | with_reducible apply r_intB
  | with_reducible apply r_abs
  | with_reducible refine r_dec2 (fun h => ?_) (fun h => ?_)
  | with_reducible refine r_decN2 (fun h => ?_) (fun h => ?_)
  | with_reducible refine r_decM2 (fun h => ?_) (fun h => ?_)
  | with_reducible apply r_bool
  | with_reducible apply r_truB
  | with_reducible apply r_len
  | with_reducible apply r_lenS
  | with_reducible apply r_orEqS
  | with_reducible apply r_orNeS
  | with_reducible apply r_orEqI
  | with_reducible apply r_orNeI
  | with_reducible apply xv_joined
  | with_reducible apply xj_cons
  | with_reducible apply xj_nil
  | with_reducible apply r_eqI
  | with_reducible apply r_neI
  | with_reducible apply r_eqS
  | with_reducible apply r_neS
  | ((with_reducible refine' e_addD ?qa ?_); (case qa => exact rfl))
  | ((with_reducible refine' e_subD ?qa ?_); (case qa => exact rfl))
  | ((with_reducible refine' r_mul ?qa ?_); (case qa => walk_at "mul"))
  | ((with_reducible refine' r_mod ?qa ?_); (case qa => walk_at "cnd"))
  | ((with_reducible refine' r_fdiv ?qa ?qb ?_); (case qa => walk_at "cnd"); (case qb => walk_at "cnd"))
  | ((with_reducible refine' r_divmod ?qa ?qb ?_); (case qa => walk_at "cnd"); (case qb => walk_at "cnd"))
  | ((with_reducible refine' e_ltD ?qa ?_); (case qa => exact rfl))
  | ((with_reducible refine' e_leD ?qa ?_); (case qa => exact rfl))
  | ((with_reducible refine' e_gtD ?qa ?_); (case qa => exact rfl))
  | ((with_reducible refine' e_geD ?qa ?_); (case qa => exact rfl))
  | ((with_reducible refine' e_negD ?qa ?_); (case qa => exact rfl))
  | ((with_reducible refine' e_ixD ?qa ?_); (case qa => exact rfl))
  | ((with_reducible refine' e_intD ?qa ?_); (case qa => exact rfl))
  | ((with_reducible refine' e_absD ?qa ?_); (case qa => exact rfl))
  | ((with_reducible refine' e_intOf ?qa ?_); (case qa => exact rfl))
  | ((with_reducible refine' e_tupOf ?qa ?_); (case qa => exact rfl))
  | ((with_reducible refine' e_lstOf ?qa ?_); (case qa => exact rfl))
  | ((with_reducible refine' e2_boolOf ?qa ?_ ?_); (case qa => exact rfl))
  | ((with_reducible refine' e_boolOf ?qa ?_); (case qa => exact rfl))
  | ((with_reducible refine' e_truD ?qa ?_); (case qa => exact rfl))
  | ((with_reducible refine' e_itemsOf ?qa ?_); (case qa => exact rfl))
  | ((with_reducible refine' e_slD ?qa ?_); (case qa => exact rfl))
  | ((with_reducible refine' e_isiD ?qa ?_); (case qa => exact rfl))
  | ((with_reducible refine' e_boolI ?qa ?_); (case qa => exact rfl))
  | ((with_reducible refine' e_rng ?qa ?_); (case qa => exact ⟨by omega, by omega⟩))
  | with_reducible apply e_some
  | with_reducible apply e_str
  | with_reducible apply e_rev
  | ((with_reducible refine' en_val ?qa ?_); (case qa => exact rfl))
  | ((with_reducible refine' en_own ?qa ?_); (case qa => exact rfl))
  | ((with_reducible refine' en_nx ?qa ?_); (case qa => exact rfl))
  | with_reducible apply x_call
  | with_reducible refine x_ofV (fa := fC _) ?_
  | with_reducible refine x_ofV (fa := fOp _ _ _) ?_
  | with_reducible refine x_ofV (fa := fUn _ _) ?_
  | with_reducible refine x_ofV (fa := fCB _ _) ?_
  | with_reducible refine x_ofV (fa := fTup _) ?_
  | with_reducible refine x_ofV (fa := fLst _) ?_
  | with_reducible refine x_ofV (fa := fBM _ _ _ _) ?_
  | with_reducible refine x_ofV (fa := fBM0 _ _ _) ?_
  | with_reducible refine x_ofV (fa := fLc _ _ _ _ _) ?_
  | with_reducible refine x_ofV (fa := fFld _ _ _) ?_
  | with_reducible refine x_ofV (fa := fProp _ _ _) ?_
  | with_reducible refine x_ofV (fa := fMake _ _ _) ?_
  | with_reducible refine x_ofV (fa := fMakeN _ _ _ _ _ _ _) ?_
  | with_reducible refine x_ofV (fa := fSl _ _ _) ?_
  | with_reducible refine x_ofV (fa := fJoined _) ?_
  | with_reducible refine x_ofV (fa := fAndV _ _) ?_
  | with_reducible refine x_ofV (fa := fOrV _ _) ?_
  | with_reducible refine x_ofV (fa := fNotV _) ?_
  | with_reducible refine x_ofV (fa := fIf _ _ _) ?_
  | with_reducible refine x_ofV (fa := fIxO _ _) ?_
  | with_reducible refine x_ofV (fa := fCMeth _ _ _) ?_
  | with_reducible refine x_ofV (fa := fCMethN _ _ _ _ _) ?_
  | with_reducible refine x_ofV (fa := fCallN _ _ _ _ _ _) ?_
  | with_reducible refine x_ofV (fa := fIsN _) ?_
  | with_reducible refine x_ofV (fa := fNotN _) ?_
  | with_reducible apply xl_nil
  | with_reducible refine xl_cons rfl ?_
  | (refine And.intro (show List.length _ ≤ 16777216 from by simp only [List.length_cons, List.length_nil]; decide) ?_)
  | (refine And.intro (show tyS _ = some _ from rfl) ?_)
  | (refine And.intro (show flat _ = true from rfl) ?_)
  | (refine And.intro (show List.length _ = _ from rfl) ?_)
  | (refine And.intro (show List.length _ < 16777216 from by simp only [List.length_cons, List.length_nil]; decide) ?_)
  | (refine And.intro (show List.map isOwn _ = List.map isOwn _ from rfl) ?_)
  | with_reducible apply tt_intro
  | with_reducible apply nt_intro
  | with_reducible apply nnf_intro
  | with_reducible apply nnt_intro
  | with_reducible apply nf_intro
  | with_reducible apply ff_intro
  | walk_at "set")
abbrev sW (l : List Nat) : Str := ⟨l.toArray⟩
theorem tl_sW (l : List Nat) : tl (sW l) = l := rfl
theorem len_sW (l : List Nat) : (sW l).length = l.length := by rw [len_tl]
theorem atI_last {xs : List D} {y : D} : atI (xs ++ [y]) (-1) = some y := by
  unfold atI ixN
  rw [if_neg (by decide), if_pos (by simp; omega)]
  show (xs ++ [y])[(-1 + ((xs ++ [y]).length : Int)).toNat]? = some y
  have : (-1 + ((xs ++ [y]).length : Int)).toNat = xs.length := by simp; omega
  rw [this]
  simp
theorem ne_snoc {xs : List D} {y : D} : (!(xs ++ [y]).isEmpty) = true := by simp
theorem stack_snoc (d : Nat) (r : List Nat) : (d :: r).reverse.map chrD = r.reverse.map chrD ++ [chrD d] := by simp
theorem f_reduced {l : List Nat} (hl : ∀ c ∈ l, isL c) (hn : l.length ≤ 1000) : F_word_reduced [.val (.str (sW l))] = some (.ok (.val (.str (sW (red l)))) none) := by
  refine Fp.eq (f_def rfl ?_)
  show X _ [_, _, _] _
  unfold B_word_reduced
  repeat' walk_at "x"
  refine x_forL (fun ds Γ => ∃ (m st : List Nat) (s : Sl), ds = m.map chrD ∧ (∀ c ∈ m, isL c) ∧ (∀ c ∈ st, isL c) ∧ m.foldl push st = stk l ∧ st.length + m.length ≤ 1000 ∧ Γ = [.val (.str (sW l)), .own 0 (.lst (st.reverse.map chrD)), s]) ?_ ?_ ?_
  · exact ⟨l, [], _, rfl, hl, fun _ h => (List.not_mem_nil h).elim, rfl, by simpa using hn, rfl⟩
  · rintro d ds Γ ⟨m, st, s, em, hm, hs, hf, hb, rfl⟩
    cases m with
    | nil => cases em
    | cons c m =>
      obtain ⟨rfl, rfl⟩ := List.cons.inj em
      have hc := hm c List.mem_cons_self
      have hm' : ∀ x ∈ m, isL x := fun x hx => hm x (List.mem_cons_of_mem _ hx)
      rw [List.length_cons] at hb
      cases st with
      | nil =>
        rw [show ([] : List Nat).reverse.map chrD = [] from rfl]
        repeat' walk_at "x"
        refine And.intro (fun h => absurd h (by decide)) (fun _ => ?_)
        repeat' walk_at "x"
        refine xv_append (k := 0) (ds := []) (by rfl) ?_
        repeat' walk_at "x"
        refine ⟨_, _, _, rfl, by decide, rfl, ?_⟩
        repeat' walk_at "x"
        exact ⟨m, [c], _, rfl, hm', fun x hx => by rw [List.mem_singleton.mp hx]; exact hc, hf, by simp; simp at hb; omega, rfl⟩
      | cons e r =>
        rw [stack_snoc]
        repeat' walk_at "x"
        rw [ne_snoc]
        repeat' walk_at "x"
        refine e_ixO (by rfl) atI_last ?_
        repeat' walk_at "x"
        refine ⟨_, swap_ch hc, ?_⟩
        refine r_eqS (a := ch e) (b := ch (opp c)) ?_
        refine r_dec2 (fun h => ?_) (fun h => ?_)
        · have he : e = opp c := ch_inj.mp h
          repeat' walk_at "x"
          refine xv_pop (k := 0) (ds := r.reverse.map chrD ++ [chrD e]) (d := chrD e) (by rfl) (by simp) ⟨_, rfl, ?_⟩
          rw [List.dropLast_concat]
          repeat' walk_at "x"
          refine ⟨m, r, _, rfl, hm', fun x hx => hs x (List.mem_cons_of_mem _ hx), ?_, by simp at hb; omega, rfl⟩
          rw [← hf, List.foldl_cons]
          show _ = m.foldl push (if e = opp c then r else c :: e :: r)
          rw [if_pos he]
        · have he : e ≠ opp c := fun x => h (ch_inj.mpr x)
          repeat' walk_at "x"
          refine xv_append (k := 0) (ds := r.reverse.map chrD ++ [chrD e]) (by rfl) ?_
          repeat' walk_at "x"
          refine ⟨_, _, _, rfl, by simp at hb ⊢; omega, rfl, ?_⟩
          repeat' walk_at "x"
          refine ⟨m, c :: e :: r, .val (chrD c), rfl, hm', ?_, ?_, by simp at hb ⊢; omega, by simp [stack_snoc]⟩
          · intro x hx
            rcases List.mem_cons.mp hx with e' | e'
            · rw [e']; exact hc
            · exact hs x e'
          · rw [← hf, List.foldl_cons]
            show _ = m.foldl push (if e = opp c then r else c :: e :: r)
            rw [if_neg he]
  · rintro Γ ⟨m, st, s, em, hm, hs, hf, hb, rfl⟩
    have : m = [] := by cases m with | nil => rfl | cons c m => cases em
    subst this
    have hf : st = stk l := hf
    subst hf
    repeat' walk_at "x"
    refine e_joinD (join_chr ?_) ?_
    · rw [List.length_reverse]; simp at hb; omega
    repeat' walk_at "x"
    exact ⟨rfl, rfl⟩
end Ks

set_option linter.all false
set_option maxRecDepth 100000
set_option pp.maxSteps 500
set_option maxHeartbeats 1000000
namespace Ks
open PySem PySem.Spec PyProof.Rows L2 DF TL NumText
variable [TbC]
/-! ### one step -/
local macro_rules | `(tactic| walk_at "set") => `(tactic| (refine' e_set ?qa ?_; (case qa => (simp only [wipeF, backF, List.set, List.getD_cons_succ, List.getD_cons_zero, Int.reduceToNat]; rfl))))
local macro_rules | `(tactic| walk_at "cnd") => `(tactic| first | assumption | decide | omega)
local macro_rules | `(tactic| walk_at "mul") => `(tactic| first | exact mulOk_r (by decide) (by decide) | exact mulOk_l (by decide) (by decide) | exact mulOk_l (by omega) (by omega) | exact mulOk_r (by omega) (by omega))
local macro_rules | `(tactic| walk_at "x") => `(tactic| first
  | with_reducible apply x_seq
  | with_reducible apply k_nx
  | with_reducible apply k_rt
  | with_reducible apply x_nx
  | with_reducible refine x_asgK (fa := fLstO _) ?_
  | with_reducible refine x_asgK (fa := fLcO _ _ _ _ _) ?_
  | with_reducible apply ak_own
  | with_reducible apply ak_val
  | with_reducible apply x_asg
  | with_reducible refine x_retK (fa := fLstO _) ?_
  | with_reducible apply rk_own
  | with_reducible apply x_ret
  | with_reducible apply x_ifS
  | with_reducible apply x_asgG
  | with_reducible apply x_drop
  | with_reducible apply x_par
  | with_reducible apply x_par3
  | with_reducible apply x_asg3
  | with_reducible apply x_for
  | with_reducible refine x_aug ⟨_, rfl, ?_⟩
  | with_reducible apply xv_c
  | (with_reducible refine xv_var rfl ?_)
  | (with_reducible refine x_varV rfl ?_)
  | (with_reducible refine x_varO rfl ?_)
  | with_reducible apply xv_op
  | with_reducible apply xv_un
  | with_reducible apply xv_cb
  | with_reducible apply xs_nil
  | with_reducible apply xs_cons
  | with_reducible apply xa_nil
  | with_reducible apply xa_cons
  | with_reducible apply xv_tup
  | with_reducible apply xv_lst
  | with_reducible apply x_lstO
  | with_reducible apply xv_if
  | with_reducible apply xv_andV
  | with_reducible apply xv_orV
  | with_reducible apply xv_notV
  | with_reducible apply xv_isN
  | with_reducible apply xv_notN
  | with_reducible apply xt_test
  | with_reducible apply xt_tru
  | with_reducible apply xt_not
  | with_reducible apply xt_and
  | with_reducible apply xt_or
  | with_reducible apply xt_yes
  | with_reducible apply xv_call
  | with_reducible apply xv_callN
  | with_reducible apply xv_cmeth
  | with_reducible apply xv_cmethN
  | with_reducible apply xv_fld
  | with_reducible apply xv_prop
  | with_reducible apply x_setF
  | with_reducible apply xv_make
  | with_reducible apply xv_makeN
  | (with_reducible refine xv_makeL rfl ?_)
  | with_reducible apply xg_name
  | with_reducible apply xg_nil
  | with_reducible apply xg_cons
  | (with_reducible refine xg_tup rfl ?_)
  | (with_reducible refine xg_unl rfl ?_)
  | (with_reducible refine xg_sub rfl ?_)
  | (with_reducible refine xv_ixO rfl ?_)
  | ((with_reducible refine' xv_pk ?qa ?_); (case qa => (simp only [List.map, seeO, odD]; rfl)))
  | ((with_reducible refine' xt_pk ?qa ?_); (case qa => (simp only [List.map, seeO, odD]; rfl)))
  | with_reducible apply xv_bm
  | with_reducible apply xv_bm0
  | with_reducible apply xv_sl
  | with_reducible apply xo_no
  | with_reducible apply xo_some
  | with_reducible apply xv_revS
  | with_reducible apply xv_revL
  | with_reducible apply xv_fmt
  | with_reducible apply xw_any
  | with_reducible apply xw_rng1
  | with_reducible apply xw_rng2
  | with_reducible apply xv_lc
  | with_reducible apply vk_val
  | with_reducible apply bk_none
  | with_reducible apply bk_tmp
  | (with_reducible refine bk_slot rfl ?_)
  | with_reducible apply rk_val
  | with_reducible apply fk_nx
  | with_reducible apply fk_rt
  | ((with_reducible refine' e_par ?qa ?_); (case qa => (simp only [List.set]; rfl)))
  | ((with_reducible refine' e_par3 ?qa ?_); (case qa => (simp only [List.set]; rfl)))
  | ((with_reducible refine' e_ixO ?qa ?qb ?_); (case qa => exact rfl); (case qb => exact rfl))
  | ((with_reducible refine' e_sub ?qa ?qb ?qc ?_); (case qa => exact rfl); (case qb => exact rfl); (case qc => (simp only [List.set, Int.reduceToNat]; rfl)))
  | ((with_reducible refine' e_setF ?qa ?qb ?qc ?_); (case qa => exact rfl); (case qb => (simp only [List.length_cons, List.length_nil]; decide)); (case qc => (simp only [List.set, Int.reduceToNat]; rfl)))
  | ((with_reducible refine' e_fields ?qa ?qb ?_); (case qa => exact rfl); (case qb => exact rfl))
  | ((with_reducible refine' e_has ?qa ?_); (case qa => exact rfl))
  | with_reducible apply r_addI
  | with_reducible apply r_sub
  | with_reducible apply r_lt
  | with_reducible apply r_gt
  | with_reducible apply r_le
  | with_reducible apply r_ge
  | with_reducible apply r_int
  | with_reducible apply r_intB
  | with_reducible apply r_abs
  | with_reducible refine r_dec2 (fun h => ?_) (fun h => ?_)
  | with_reducible refine r_decN2 (fun h => ?_) (fun h => ?_)
  | with_reducible refine r_decM2 (fun h => ?_) (fun h => ?_)
  | with_reducible apply r_bool
  | with_reducible apply r_truB
  | with_reducible apply r_len
  | with_reducible apply r_lenS
  | with_reducible apply r_orEqS
  | with_reducible apply r_orNeS
  | with_reducible apply r_orEqI
  | with_reducible apply r_orNeI
  | with_reducible apply xv_joined
  | with_reducible apply xj_cons
  | with_reducible apply xj_nil
  | with_reducible apply r_eqI
  | with_reducible apply r_neI
  | with_reducible apply r_eqS
  | with_reducible apply r_neS
  | ((with_reducible refine' e_addD ?qa ?_); (case qa => exact rfl))
  | ((with_reducible refine' e_subD ?qa ?_); (case qa => exact rfl))
  | ((with_reducible refine' r_mul ?qa ?_); (case qa => walk_at "mul"))
  | ((with_reducible refine' r_mod ?qa ?_); (case qa => walk_at "cnd"))
  | ((with_reducible refine' r_fdiv ?qa ?qb ?_); (case qa => walk_at "cnd"); (case qb => walk_at "cnd"))
  | ((with_reducible refine' r_divmod ?qa ?qb ?_); (case qa => walk_at "cnd"); (case qb => walk_at "cnd"))
  | ((with_reducible refine' e_ltD ?qa ?_); (case qa => exact rfl))
  | ((with_reducible refine' e_leD ?qa ?_); (case qa => exact rfl))
  | ((with_reducible refine' e_gtD ?qa ?_); (case qa => exact rfl))
  | ((with_reducible refine' e_geD ?qa ?_); (case qa => exact rfl))
  | ((with_reducible refine' e_negD ?qa ?_); (case qa => exact rfl))
  | ((with_reducible refine' e_ixD ?qa ?_); (case qa => exact rfl))
  | ((with_reducible refine' e_intD ?qa ?_); (case qa => exact rfl))
  | ((with_reducible refine' e_absD ?qa ?_); (case qa => exact rfl))
  | ((with_reducible refine' e_intOf ?qa ?_); (case qa => exact rfl))
  | ((with_reducible refine' e_tupOf ?qa ?_); (case qa => exact rfl))
  | ((with_reducible refine' e_lstOf ?qa ?_); (case qa => exact rfl))
  | ((with_reducible refine' e2_boolOf ?qa ?_ ?_); (case qa => exact rfl))
  | ((with_reducible refine' e_boolOf ?qa ?_); (case qa => exact rfl))
  | ((with_reducible refine' e_truD ?qa ?_); (case qa => exact rfl))
  | ((with_reducible refine' e_itemsOf ?qa ?_); (case qa => exact rfl))
  | ((with_reducible refine' e_slD ?qa ?_); (case qa => exact rfl))
  | ((with_reducible refine' e_isiD ?qa ?_); (case qa => exact rfl))
  | ((with_reducible refine' e_boolI ?qa ?_); (case qa => exact rfl))
  | ((with_reducible refine' e_rng ?qa ?_); (case qa => exact ⟨by omega, by omega⟩))
  | with_reducible apply e_some
  | with_reducible apply e_str
  | with_reducible apply e_rev
  | ((with_reducible refine' en_val ?qa ?_); (case qa => exact rfl))
  | ((with_reducible refine' en_own ?qa ?_); (case qa => exact rfl))
  | ((with_reducible refine' en_nx ?qa ?_); (case qa => exact rfl))
  | with_reducible apply x_call
  | with_reducible refine x_ofV (fa := fC _) ?_
  | with_reducible refine x_ofV (fa := fOp _ _ _) ?_
  | with_reducible refine x_ofV (fa := fUn _ _) ?_
  | with_reducible refine x_ofV (fa := fCB _ _) ?_
  | with_reducible refine x_ofV (fa := fTup _) ?_
  | with_reducible refine x_ofV (fa := fLst _) ?_
  | with_reducible refine x_ofV (fa := fBM _ _ _ _) ?_
  | with_reducible refine x_ofV (fa := fBM0 _ _ _) ?_
  | with_reducible refine x_ofV (fa := fLc _ _ _ _ _) ?_
  | with_reducible refine x_ofV (fa := fFld _ _ _) ?_
  | with_reducible refine x_ofV (fa := fProp _ _ _) ?_
  | with_reducible refine x_ofV (fa := fMake _ _ _) ?_
  | with_reducible refine x_ofV (fa := fMakeN _ _ _ _ _ _ _) ?_
  | with_reducible refine x_ofV (fa := fSl _ _ _) ?_
  | with_reducible refine x_ofV (fa := fJoined _) ?_
  | with_reducible refine x_ofV (fa := fAndV _ _) ?_
  | with_reducible refine x_ofV (fa := fOrV _ _) ?_
  | with_reducible refine x_ofV (fa := fNotV _) ?_
  | with_reducible refine x_ofV (fa := fIf _ _ _) ?_
  | with_reducible refine x_ofV (fa := fIxO _ _) ?_
  | with_reducible refine x_ofV (fa := fCMeth _ _ _) ?_
  | with_reducible refine x_ofV (fa := fCMethN _ _ _ _ _) ?_
  | with_reducible refine x_ofV (fa := fCallN _ _ _ _ _ _) ?_
  | with_reducible refine x_ofV (fa := fIsN _) ?_
  | with_reducible refine x_ofV (fa := fNotN _) ?_
  | with_reducible apply xl_nil
  | with_reducible refine xl_cons rfl ?_
  | (refine And.intro (show List.length _ ≤ 16777216 from by simp only [List.length_cons, List.length_nil]; decide) ?_)
  | (refine And.intro (show tyS _ = some _ from rfl) ?_)
  | (refine And.intro (show flat _ = true from rfl) ?_)
  | (refine And.intro (show List.length _ = _ from rfl) ?_)
  | (refine And.intro (show List.length _ < 16777216 from by simp only [List.length_cons, List.length_nil]; decide) ?_)
  | (refine And.intro (show List.map isOwn _ = List.map isOwn _ from rfl) ?_)
  | with_reducible apply tt_intro
  | with_reducible apply nt_intro
  | with_reducible apply nnf_intro
  | with_reducible apply nnt_intro
  | with_reducible apply nf_intro
  | with_reducible apply ff_intro
  | walk_at "set")
theorem ok_chrL : ∀ {l : List Nat}, (∀ c ∈ l, isL c) → okL (l.map chrD)
  | [], _ => trivial
  | c :: l, h => ⟨fun x hx => by
      have hx : x ∈ [c] := hx
      have := h c List.mem_cons_self
      rw [List.mem_singleton.mp hx]; unfold isL at this; omega, ok_chrL fun x hx => h x (List.mem_cons_of_mem _ hx)⟩
theorem depL_chr : ∀ l : List Nat, depL (l.map chrD) = 0
  | [] => rfl
  | c :: l => by show max 0 (depL (l.map chrD)) = 0; rw [depL_chr l]; rfl
theorem ok_stk {st : List Nat} (h : ∀ c ∈ st, isL c) : okD (.lst (st.reverse.map chrD)) := ok_chrL fun c hc => h c (List.mem_reverse.mp hc)
theorem dep_stk {st : List Nat} : dep (.lst (st.reverse.map chrD)) ≤ 64 := by show depL (st.reverse.map chrD) + 1 ≤ 64; rw [depL_chr]; decide
theorem eqv_snoc (xs : List D) (y : D) : PyData.eqv (py (.lst (xs ++ [y]))) (py (.lst [])) = false := by
  cases xs with
  | nil => rfl
  | cons a l => rfl
theorem f_struck {l : List Nat} (hl : ∀ c ∈ l, isL c) (hn : l.length ≤ 5000) : F_l_struck [.val (.str (sW l))] = some (.ok (.val (.str (sW (red l)))) none) := by
  refine Fp.eq (f_def rfl ?_)
  show X _ [_, _, _] _
  unfold B_l_struck
  repeat' walk_at "x"
  refine x_forL (fun ds Γ => ∃ (m st : List Nat) (s : Sl), ds = m.map chrD ∧ (∀ c ∈ m, isL c) ∧ (∀ c ∈ st, isL c) ∧ m.foldl push st = stk l ∧ st.length + m.length ≤ 5000 ∧ Γ = [.val (.str (sW l)), .own 0 (.lst (st.reverse.map chrD)), s]) ?_ ?_ ?_
  · exact ⟨l, [], _, rfl, hl, fun _ h => (List.not_mem_nil h).elim, rfl, by simpa using hn, rfl⟩
  · rintro d ds Γ ⟨m, st, s, em, hm, hs, hf, hb, rfl⟩
    cases m with
    | nil => cases em
    | cons c m =>
      obtain ⟨rfl, rfl⟩ := List.cons.inj em
      have hc := hm c List.mem_cons_self
      have hm' : ∀ x ∈ m, isL x := fun x hx => hm x (List.mem_cons_of_mem _ hx)
      rw [List.length_cons] at hb
      cases st with
      | nil =>
        rw [show ([] : List Nat).reverse.map chrD = [] from rfl]
        repeat' walk_at "x"
        refine r_ne (b := true) rfl rfl rfl ?_
        repeat' walk_at "x"
        refine xv_append (k := 0) (ds := []) (by rfl) ?_
        repeat' walk_at "x"
        refine ⟨_, _, _, rfl, by decide, rfl, ?_⟩
        repeat' walk_at "x"
        exact ⟨m, [c], _, rfl, hm', fun x hx => by rw [List.mem_singleton.mp hx]; exact hc, hf, by simp; simp at hb; omega, rfl⟩
      | cons e r =>
        rw [stack_snoc]
        repeat' walk_at "x"
        have hs' := hs e List.mem_cons_self
        refine r_ne (b := false) (by rw [← stack_snoc]; exact eq_okD (ok_stk hs) dep_stk) rfl (eqv_snoc _ _) ?_
        repeat' walk_at "x"
        refine e_ixO (by rfl) atI_last ?_
        repeat' walk_at "x"
        refine r_neS (a := ch e) (b := ch c) ?_
        refine r_decN2 (fun h1 => ?_) (fun h1 => ?_)
        · have he : e ≠ opp c := fun x => opp_ne hc (by rw [← x]; exact ch_inj.mp h1)
          repeat' walk_at "x"
          refine xv_append (k := 0) (ds := r.reverse.map chrD ++ [chrD e]) (by rfl) ?_
          repeat' walk_at "x"
          refine ⟨_, _, _, rfl, by simp at hb ⊢; omega, rfl, ?_⟩
          repeat' walk_at "x"
          refine ⟨m, c :: e :: r, .val (chrD c), rfl, hm', ?_, ?_, by simp at hb ⊢; omega, by simp [stack_snoc]⟩
          · intro x hx
            rcases List.mem_cons.mp hx with e' | e'
            · rw [e']; exact hc
            · exact hs x e'
          · rw [← hf, List.foldl_cons]
            show _ = m.foldl push (if e = opp c then r else c :: e :: r)
            rw [if_neg he]
        repeat' walk_at "x"
        refine e_ixO (by rfl) atI_last ?_
        repeat' walk_at "x"
        refine ⟨_, lower_ch hs', ?_⟩
        repeat' walk_at "x"
        refine ⟨_, lower_ch hc, ?_⟩
        refine r_eqS (a := ch (low e)) (b := ch (low c)) ?_
        refine r_dec2 (fun h => ?_) (fun h => ?_)
        · have he : e = opp c := (low_eq hc hs').mp ⟨fun x => h1 (ch_inj.mpr x), ch_inj.mp h⟩
          repeat' walk_at "x"
          refine xv_pop (k := 0) (ds := r.reverse.map chrD ++ [chrD e]) (d := chrD e) (by rfl) (by simp) ⟨_, rfl, ?_⟩
          rw [List.dropLast_concat]
          repeat' walk_at "x"
          refine ⟨m, r, _, rfl, hm', fun x hx => hs x (List.mem_cons_of_mem _ hx), ?_, by simp at hb; omega, rfl⟩
          rw [← hf, List.foldl_cons]
          show _ = m.foldl push (if e = opp c then r else c :: e :: r)
          rw [if_pos he]
        · have he : e ≠ opp c := fun x => h (ch_inj.mpr ((low_eq hc hs').mpr x).2)
          repeat' walk_at "x"
          refine xv_append (k := 0) (ds := r.reverse.map chrD ++ [chrD e]) (by rfl) ?_
          repeat' walk_at "x"
          refine ⟨_, _, _, rfl, by simp at hb ⊢; omega, rfl, ?_⟩
          repeat' walk_at "x"
          refine ⟨m, c :: e :: r, .val (chrD c), rfl, hm', ?_, ?_, by simp at hb ⊢; omega, by simp [stack_snoc]⟩
          · intro x hx
            rcases List.mem_cons.mp hx with e' | e'
            · rw [e']; exact hc
            · exact hs x e'
          · rw [← hf, List.foldl_cons]
            show _ = m.foldl push (if e = opp c then r else c :: e :: r)
            rw [if_neg he]
  · rintro Γ ⟨m, st, s, em, hm, hs, hf, hb, rfl⟩
    have : m = [] := by cases m with | nil => rfl | cons c m => cases em
    subst this
    have hf : st = stk l := hf
    subst hf
    repeat' walk_at "x"
    refine e_joinD (join_chr ?_) ?_
    · rw [List.length_reverse]; simp at hb; omega
    repeat' walk_at "x"
    exact ⟨rfl, rfl⟩
end Ks

set_option linter.all false
set_option maxRecDepth 100000
set_option pp.maxSteps 500
set_option maxHeartbeats 1000000
namespace Ks
open PySem PySem.Spec PyProof.Rows L2 DF TL NumText
variable [TbC]
/-! ### one step -/
local macro_rules | `(tactic| walk_at "set") => `(tactic| (refine' e_set ?qa ?_; (case qa => (simp only [wipeF, backF, List.set, List.getD_cons_succ, List.getD_cons_zero, Int.reduceToNat]; rfl))))
local macro_rules | `(tactic| walk_at "cnd") => `(tactic| first | assumption | decide | omega)
local macro_rules | `(tactic| walk_at "mul") => `(tactic| first | exact mulOk_r (by decide) (by decide) | exact mulOk_l (by decide) (by decide) | exact mulOk_l (by omega) (by omega) | exact mulOk_r (by omega) (by omega))
local macro_rules | `(tactic| walk_at "x") => `(tactic| first
  | with_reducible apply x_seq
  | with_reducible apply k_nx
  | with_reducible apply k_rt
  | with_reducible apply x_nx
  | with_reducible refine x_asgK (fa := fLstO _) ?_
  | with_reducible refine x_asgK (fa := fLcO _ _ _ _ _) ?_
  | with_reducible apply ak_own
  | with_reducible apply ak_val
  | with_reducible apply x_asg
  | with_reducible refine x_retK (fa := fLstO _) ?_
  | with_reducible apply rk_own
  | with_reducible apply x_ret
  | with_reducible apply x_ifS
  | with_reducible apply x_asgG
  | with_reducible apply x_drop
  | with_reducible apply x_par
  | with_reducible apply x_par3
  | with_reducible apply x_asg3
  | with_reducible apply x_for
  | with_reducible refine x_aug ⟨_, rfl, ?_⟩
  | with_reducible apply xv_c
  | (with_reducible refine xv_var rfl ?_)
  | (with_reducible refine x_varV rfl ?_)
  | (with_reducible refine x_varO rfl ?_)
  | with_reducible apply xv_op
  | with_reducible apply xv_un
  | with_reducible apply xv_cb
  | with_reducible apply xs_nil
  | with_reducible apply xs_cons
  | with_reducible apply xa_nil
  | with_reducible apply xa_cons
  | with_reducible apply xv_tup
  | with_reducible apply xv_lst
  | with_reducible apply x_lstO
  | with_reducible apply xv_if
  | with_reducible apply xv_andV
  | with_reducible apply xv_orV
  | with_reducible apply xv_notV
  | with_reducible apply xv_isN
  | with_reducible apply xv_notN
  | with_reducible apply xt_test
  | with_reducible apply xt_tru
  | with_reducible apply xt_not
  | with_reducible apply xt_and
  | with_reducible apply xt_or
  | with_reducible apply xt_yes
  | with_reducible apply xv_call
  | with_reducible apply xv_callN
  | with_reducible apply xv_cmeth
  | with_reducible apply xv_cmethN
  | with_reducible apply xv_fld
  | with_reducible apply xv_prop
  | with_reducible apply x_setF
  | with_reducible apply xv_make
  | with_reducible apply xv_makeN
  | (with_reducible refine xv_makeL rfl ?_)
  | with_reducible apply xg_name
  | with_reducible apply xg_nil
  | with_reducible apply xg_cons
  | (with_reducible refine xg_tup rfl ?_)
  | (with_reducible refine xg_unl rfl ?_)
  | (with_reducible refine xg_sub rfl ?_)
  | (with_reducible refine xv_ixO rfl ?_)
  | ((with_reducible refine' xv_pk ?qa ?_); (case qa => (simp only [List.map, seeO, odD]; rfl)))
  | ((with_reducible refine' xt_pk ?qa ?_); (case qa => (simp only [List.map, seeO, odD]; rfl)))
  | with_reducible apply xv_bm
  | with_reducible apply xv_bm0
  | with_reducible apply xv_sl
  | with_reducible apply xo_no
  | with_reducible apply xo_some
  | with_reducible apply xv_revS
  | with_reducible apply xv_revL
  | with_reducible apply xv_fmt
  | with_reducible apply xw_any
  | with_reducible apply xw_rng1
  | with_reducible apply xw_rng2
  | with_reducible apply xv_lc
  | with_reducible apply vk_val
  | with_reducible apply bk_none
  | with_reducible apply bk_tmp
  | (with_reducible refine bk_slot rfl ?_)
  | with_reducible apply rk_val
  | with_reducible apply fk_nx
  | with_reducible apply fk_rt
  | ((with_reducible refine' e_par ?qa ?_); (case qa => (simp only [List.set]; rfl)))
  | ((with_reducible refine' e_par3 ?qa ?_); (case qa => (simp only [List.set]; rfl)))
  | ((with_reducible refine' e_ixO ?qa ?qb ?_); (case qa => exact rfl); (case qb => exact rfl))
  | ((with_reducible refine' e_sub ?qa ?qb ?qc ?_); (case qa => exact rfl); (case qb => exact rfl); (case qc => (simp only [List.set, Int.reduceToNat]; rfl)))
  | ((with_reducible refine' e_setF ?qa ?qb ?qc ?_); (case qa => exact rfl); (case qb => (simp only [List.length_cons, List.length_nil]; decide)); (case qc => (simp only [List.set, Int.reduceToNat]; rfl)))
  | ((with_reducible refine' e_fields ?qa ?qb ?_); (case qa => exact rfl); (case qb => exact rfl))
  | ((with_reducible refine' e_has ?qa ?_); (case qa => exact rfl))
  | with_reducible apply r_addI
  | with_reducible apply r_sub
  | with_reducible apply r_lt
  | with_reducible apply r_gt
  | with_reducible apply r_le
  | with_reducible apply r_ge
  | with_reducible apply r_int
  | with_reducible apply r_intB
  | with_reducible apply r_abs
  | with_reducible refine r_dec2 (fun h => ?_) (fun h => ?_)
  | with_reducible refine r_decN2 (fun h => ?_) (fun h => ?_)
  | with_reducible refine r_decM2 (fun h => ?_) (fun h => ?_)
  | with_reducible apply r_bool
  | with_reducible apply r_truB
  | with_reducible apply r_len
  | with_reducible apply r_lenS
  | with_reducible apply r_orEqS
  | with_reducible apply r_orNeS
  | with_reducible apply r_orEqI
  | with_reducible apply r_orNeI
  | with_reducible apply xv_joined
  | with_reducible apply xj_cons
  | with_reducible apply xj_nil
  | with_reducible apply r_eqI
  | with_reducible apply r_neI
  | with_reducible apply r_eqS
  | with_reducible apply r_neS
  | ((with_reducible refine' e_addD ?qa ?_); (case qa => exact rfl))
  | ((with_reducible refine' e_subD ?qa ?_); (case qa => exact rfl))
  | ((with_reducible refine' r_mul ?qa ?_); (case qa => walk_at "mul"))
  | ((with_reducible refine' r_mod ?qa ?_); (case qa => walk_at "cnd"))
  | ((with_reducible refine' r_fdiv ?qa ?qb ?_); (case qa => walk_at "cnd"); (case qb => walk_at "cnd"))
  | ((with_reducible refine' r_divmod ?qa ?qb ?_); (case qa => walk_at "cnd"); (case qb => walk_at "cnd"))
  | ((with_reducible refine' e_ltD ?qa ?_); (case qa => exact rfl))
  | ((with_reducible refine' e_leD ?qa ?_); (case qa => exact rfl))
  | ((with_reducible refine' e_gtD ?qa ?_); (case qa => exact rfl))
  | ((with_reducible refine' e_geD ?qa ?_); (case qa => exact rfl))
  | ((with_reducible refine' e_negD ?qa ?_); (case qa => exact rfl))
  | ((with_reducible refine' e_ixD ?qa ?_); (case qa => exact rfl))
  | ((with_reducible refine' e_intD ?qa ?_); (case qa => exact rfl))
  | ((with_reducible refine' e_absD ?qa ?_); (case qa => exact rfl))
  | ((with_reducible refine' e_intOf ?qa ?_); (case qa => exact rfl))
  | ((with_reducible refine' e_tupOf ?qa ?_); (case qa => exact rfl))
  | ((with_reducible refine' e_lstOf ?qa ?_); (case qa => exact rfl))
  | ((with_reducible refine' e2_boolOf ?qa ?_ ?_); (case qa => exact rfl))
  | ((with_reducible refine' e_boolOf ?qa ?_); (case qa => exact rfl))
  | ((with_reducible refine' e_truD ?qa ?_); (case qa => exact rfl))
  | ((with_reducible refine' e_itemsOf ?qa ?_); (case qa => exact rfl))
  | ((with_reducible refine' e_slD ?qa ?_); (case qa => exact rfl))
  | ((with_reducible refine' e_isiD ?qa ?_); (case qa => exact rfl))
  | ((with_reducible refine' e_boolI ?qa ?_); (case qa => exact rfl))
  | ((with_reducible refine' e_rng ?qa ?_); (case qa => exact ⟨by omega, by omega⟩))
  | with_reducible apply e_some
  | with_reducible apply e_str
  | with_reducible apply e_rev
  | ((with_reducible refine' en_val ?qa ?_); (case qa => exact rfl))
  | ((with_reducible refine' en_own ?qa ?_); (case qa => exact rfl))
  | ((with_reducible refine' en_nx ?qa ?_); (case qa => exact rfl))
  | with_reducible apply x_call
  | with_reducible refine x_ofV (fa := fC _) ?_
  | with_reducible refine x_ofV (fa := fOp _ _ _) ?_
  | with_reducible refine x_ofV (fa := fUn _ _) ?_
  | with_reducible refine x_ofV (fa := fCB _ _) ?_
  | with_reducible refine x_ofV (fa := fTup _) ?_
  | with_reducible refine x_ofV (fa := fLst _) ?_
  | with_reducible refine x_ofV (fa := fBM _ _ _ _) ?_
  | with_reducible refine x_ofV (fa := fBM0 _ _ _) ?_
  | with_reducible refine x_ofV (fa := fLc _ _ _ _ _) ?_
  | with_reducible refine x_ofV (fa := fFld _ _ _) ?_
  | with_reducible refine x_ofV (fa := fProp _ _ _) ?_
  | with_reducible refine x_ofV (fa := fMake _ _ _) ?_
  | with_reducible refine x_ofV (fa := fMakeN _ _ _ _ _ _ _) ?_
  | with_reducible refine x_ofV (fa := fSl _ _ _) ?_
  | with_reducible refine x_ofV (fa := fJoined _) ?_
  | with_reducible refine x_ofV (fa := fAndV _ _) ?_
  | with_reducible refine x_ofV (fa := fOrV _ _) ?_
  | with_reducible refine x_ofV (fa := fNotV _) ?_
  | with_reducible refine x_ofV (fa := fIf _ _ _) ?_
  | with_reducible refine x_ofV (fa := fIxO _ _) ?_
  | with_reducible refine x_ofV (fa := fCMeth _ _ _) ?_
  | with_reducible refine x_ofV (fa := fCMethN _ _ _ _ _) ?_
  | with_reducible refine x_ofV (fa := fCallN _ _ _ _ _ _) ?_
  | with_reducible refine x_ofV (fa := fIsN _) ?_
  | with_reducible refine x_ofV (fa := fNotN _) ?_
  | with_reducible apply xl_nil
  | with_reducible refine xl_cons rfl ?_
  | (refine And.intro (show List.length _ ≤ 16777216 from by simp only [List.length_cons, List.length_nil]; decide) ?_)
  | (refine And.intro (show tyS _ = some _ from rfl) ?_)
  | (refine And.intro (show flat _ = true from rfl) ?_)
  | (refine And.intro (show List.length _ = _ from rfl) ?_)
  | (refine And.intro (show List.length _ < 16777216 from by simp only [List.length_cons, List.length_nil]; decide) ?_)
  | (refine And.intro (show List.map isOwn _ = List.map isOwn _ from rfl) ?_)
  | with_reducible apply tt_intro
  | with_reducible apply nt_intro
  | with_reducible apply nnf_intro
  | with_reducible apply nnt_intro
  | with_reducible apply nf_intro
  | with_reducible apply ff_intro
  | walk_at "set")
def isLn (n : Int) (c : Nat) : Prop := (97 ≤ c ∧ (c : Int) < 97 + n) ∨ (65 ≤ c ∧ (c : Int) < 65 + n)
theorem isLn.L {n : Int} {c : Nat} (h : isLn n c) (hn : n ≤ 4) : isL c := by unfold isLn at h; unfold isL; omega
theorem f_ways {n : Int} (h1 : 1 ≤ n) (h2 : n ≤ 4) : ∃ w : Str, F_ways_of [.val (.int n)] = some (.ok (.val (.str w)) none) ∧ ∀ c, isLn n c → c ∈ tl w := by
  have : n = 1 ∨ n = 2 ∨ n = 3 ∨ n = 4 := by omega
  rcases this with e | e | e | e <;> subst e
  · refine ⟨"aA", by kernel_rfl, ?_⟩
    rw [show tl (Str.ofString "aA") = [97, 65] from by decide +kernel]
    intro c hc; unfold isLn at hc; simp; omega
  · refine ⟨"aAbB", by kernel_rfl, ?_⟩
    rw [show tl (Str.ofString "aAbB") = [97, 65, 98, 66] from by decide +kernel]
    intro c hc; unfold isLn at hc; simp; omega
  · refine ⟨"aAbBcC", by kernel_rfl, ?_⟩
    rw [show tl (Str.ofString "aAbBcC") = [97, 65, 98, 66, 99, 67] from by decide +kernel]
    intro c hc; unfold isLn at hc; simp; omega
  · refine ⟨"aAbBcCdD", by kernel_rfl, ?_⟩
    rw [show tl (Str.ofString "aAbBcCdD") = [97, 65, 98, 66, 99, 67, 100, 68] from by decide +kernel]
    intro c hc; unfold isLn at hc; simp; omega
theorem r_lenT' {z : Str} {Φ : D → Prop} (h : z.length ≤ 16777216) (p : Φ (.int z.length)) : ∃ w, lenD [.str z] = some w ∧ Φ w := r_lenT h p
theorem f_is_word {n : Int} (h1 : 1 ≤ n) (h2 : n ≤ 4) {l : List Nat} (hl : ∀ c ∈ l, isLn n c) (hn : l.length ≤ 400) : F_is_word [.val (.int n), .val (.str (sW l))] = some (.ok (.val (.bl true)) none) := by
  obtain ⟨w, ew, hw⟩ := f_ways h1 h2
  have hz : (sW l).length = l.length := len_sW l
  refine Fp.eq (f_def rfl ?_)
  show X _ [_, _, _, _] _
  unfold B_is_word
  repeat' walk_at "x"
  refine r_lenT (by omega) ?_
  repeat' walk_at "x"
  · have := ‹(400 : Int) < _›; omega
  refine x_callF rfl (fp_of ew ?_)
  repeat' walk_at "x"
  refine ⟨by rw [List.length_map]; show l.length < _; omega, ?_⟩
  refine x_lcL (fun ds acc Γ => (∃ m : List Nat, ds = m.map chrD ∧ ∀ c ∈ m, isLn n c) ∧ (∀ b ∈ acc, b = D.bl true) ∧ Γ = [.val (.int n), .val (.str (sW l)), .val (.str w), .no]) ?_ ?_ ?_
  · exact ⟨⟨l, rfl, hl⟩, fun b hb => (List.not_mem_nil hb).elim, rfl⟩
  · rintro d ds acc Γ ⟨⟨m, em, hm⟩, h2, rfl⟩
    cases m with
    | nil => cases em
    | cons c m =>
      obtain ⟨rfl, rfl⟩ := List.cons.inj em
      refine ⟨_, rfl, rfl, ?_⟩
      show X _ [_, _, _, _] _
      repeat' walk_at "x"
      have hin : inSD (chrD c) (.str w) = some (.bl true) := by
        show inSD (.str ⟨#[c]⟩) _ = _
        rw [inS_chr, decide_eq_true (hw c (hm c List.mem_cons_self))]
      exact e_inSD hin ⟨rfl, ⟨m, rfl, fun y hy => hm y (List.mem_cons_of_mem _ hy)⟩, mem_snoc h2 rfl, rfl⟩
  · rintro acc Γ ⟨_, h2, rfl⟩
    repeat' walk_at "x"
    refine e_allD (allD_true h2) ?_
    repeat' walk_at "x"
    exact ⟨rfl, rfl⟩
theorem f_is_integer {x : Int} : F_is_integer [.val (.int x)] = some (.ok (.val (.bl true)) none) := by kernel_rfl
abbrev rw' (n : Int) (l : List Nat) : D := .ins "Row" [("_letters", .int n), ("_word", .str (sW l))]
theorem f_init {n : Int} (h1 : 1 ≤ n) (h2 : n ≤ 4) {l : List Nat} (hl : ∀ c ∈ l, isLn n c) (hn : l.length ≤ 400) : F_Row_init [.own 1 (.ins "Row" []), .val (.int n), .val (.str (sW l))] = some (.ok (.val .non) (some (.ins "Row" [("_letters", .int n), ("_word", .str (sW (red l)))]))) := by
  refine Fp.eq (f_def rfl ?_)
  show X _ [_, _, _] _
  unfold B_Row_init
  repeat' walk_at "x"
  refine x_callF rfl (fp_of f_is_integer ?_)
  repeat' walk_at "x"
  · have := ‹n < 1›; omega
  · have := ‹4 < n›; omega
  refine x_callF rfl (fp_of (f_is_word h1 h2 hl hn) ?_)
  repeat' walk_at "x"
  refine x_callF rfl (fp_of (f_reduced (fun c hc => (hl c hc).L h2) (by omega)) ?_)
  repeat' walk_at "x"
  refine e_setF (by rfl) (Nat.le_of_ble_eq_true rfl) (by simp only [List.set]; rfl) ?_
  repeat' walk_at "x"
  exact ⟨rfl, rfl⟩
theorem f_letters {n : Int} {l : List Nat} : F_Row_letters [.val (rw' n l)] = some (.ok (.val (.int n)) none) := by kernel_rfl
theorem f_word {n : Int} {l : List Nat} : F_Row_word [.val (rw' n l)] = some (.ok (.val (.str (sW l))) none) := by kernel_rfl
theorem sW_nil {l : List Nat} : sW l = Str.ofString "" ↔ l = [] := by
  constructor
  · intro h
    have : tl (sW l) = tl (Str.ofString "") := by rw [h]
    rw [show tl (Str.ofString "") = [] from by decide +kernel] at this
    exact this
  · intro h; subst h; exact ext_tl (by decide +kernel)
theorem r_tru0 : truD (.str (sW [])) = some false := by
  show (if (sW []).length ≤ 16777216 then some (((sW []).length : Int) != 0) else none) = _
  rfl
end Ks

set_option linter.all false
set_option maxRecDepth 100000
set_option pp.maxSteps 500
set_option maxHeartbeats 1000000
namespace Ks
open PySem PySem.Spec PyProof.Rows L2 DF TL NumText
variable [TbC]
theorem isLn.up {n w : Int} {c : Nat} (h : isLn n c) (hw : n ≤ w) : isLn w c := by unfold isLn at *; omega
theorem w_abcd : ∀ c ∈ tl (Str.ofString "abcdABCD"), isLn 4 c := by
  rw [show tl (Str.ofString "abcdABCD") = [97, 98, 99, 100, 65, 66, 67, 68] from by decide +kernel]
  intro c hc; simp at hc; unfold isLn; omega
theorem e_aA : Str.ofString "a" = sW [97] ∧ Str.ofString "A" = sW [65] ∧ Str.ofString "aA" = sW [97, 65] := ⟨ext_tl (by decide +kernel), ext_tl (by decide +kernel), ext_tl (by decide +kernel)⟩
theorem sW_app (a b : List Nat) : (sW a ++ sW b : Str) = sW (a ++ b) := ext_tl (by rw [tl_append])
end Ks

set_option linter.all false
set_option maxRecDepth 100000
set_option pp.maxSteps 500
set_option maxHeartbeats 1000000
namespace Ks
open PySem PySem.Spec PyProof.Rows L2 DF TL NumText
variable [TbC]
/-! ### one step -/
local macro_rules | `(tactic| walk_at "set") => `(tactic| (refine' e_set ?qa ?_; (case qa => (simp only [wipeF, backF, List.set, List.getD_cons_succ, List.getD_cons_zero, Int.reduceToNat]; rfl))))
local macro_rules | `(tactic| walk_at "cnd") => `(tactic| first | assumption | decide | omega)
local macro_rules | `(tactic| walk_at "mul") => `(tactic| first | exact mulOk_r (by decide) (by decide) | exact mulOk_l (by decide) (by decide) | exact mulOk_l (by omega) (by omega) | exact mulOk_r (by omega) (by omega))
local macro_rules | `(tactic| walk_at "x") => `(tactic| first
  | with_reducible apply x_seq
  | with_reducible apply k_nx
  | with_reducible apply k_rt
  | with_reducible apply x_nx
  | with_reducible refine x_asgK (fa := fLstO _) ?_
  | with_reducible refine x_asgK (fa := fLcO _ _ _ _ _) ?_
  | with_reducible apply ak_own
  | with_reducible apply ak_val
  | with_reducible apply x_asg
  | with_reducible refine x_retK (fa := fLstO _) ?_
  | with_reducible apply rk_own
  | with_reducible apply x_ret
  | with_reducible apply x_ifS
  | with_reducible apply x_asgG
  | with_reducible apply x_drop
  | with_reducible apply x_par
  | with_reducible apply x_par3
  | with_reducible apply x_asg3
  | with_reducible apply x_for
  | with_reducible refine x_aug ⟨_, rfl, ?_⟩
  | with_reducible apply xv_c
  | (with_reducible refine xv_var rfl ?_)
  | (with_reducible refine x_varV rfl ?_)
  | (with_reducible refine x_varO rfl ?_)
  | with_reducible apply xv_op
  | with_reducible apply xv_un
  | with_reducible apply xv_cb
  | with_reducible apply xs_nil
  | with_reducible apply xs_cons
  | with_reducible apply xa_nil
  | with_reducible apply xa_cons
  | with_reducible apply xv_tup
  | with_reducible apply xv_lst
  | with_reducible apply x_lstO
  | with_reducible apply xv_if
  | with_reducible apply xv_andV
  | with_reducible apply xv_orV
  | with_reducible apply xv_notV
  | with_reducible apply xv_isN
  | with_reducible apply xv_notN
  | with_reducible apply xt_test
  | with_reducible apply xt_tru
  | with_reducible apply xt_not
  | with_reducible apply xt_and
  | with_reducible apply xt_or
  | with_reducible apply xt_yes
  | with_reducible apply xv_call
  | with_reducible apply xv_callN
  | with_reducible apply xv_cmeth
  | with_reducible apply xv_cmethN
  | with_reducible apply xv_fld
  | with_reducible apply xv_prop
  | with_reducible apply x_setF
  | with_reducible apply xv_make
  | with_reducible apply xv_makeN
  | (with_reducible refine xv_makeL rfl ?_)
  | with_reducible apply xg_name
  | with_reducible apply xg_nil
  | with_reducible apply xg_cons
  | (with_reducible refine xg_tup rfl ?_)
  | (with_reducible refine xg_unl rfl ?_)
  | (with_reducible refine xg_sub rfl ?_)
  | (with_reducible refine xv_ixO rfl ?_)
  | ((with_reducible refine' xv_pk ?qa ?_); (case qa => (simp only [List.map, seeO, odD]; rfl)))
  | ((with_reducible refine' xt_pk ?qa ?_); (case qa => (simp only [List.map, seeO, odD]; rfl)))
  | with_reducible apply xv_bm
  | with_reducible apply xv_bm0
  | with_reducible apply xv_sl
  | with_reducible apply xo_no
  | with_reducible apply xo_some
  | with_reducible apply xv_revS
  | with_reducible apply xv_revL
  | with_reducible apply xv_fmt
  | with_reducible apply xw_any
  | with_reducible apply xw_rng1
  | with_reducible apply xw_rng2
  | with_reducible apply xv_lc
  | with_reducible apply vk_val
  | with_reducible apply bk_none
  | with_reducible apply bk_tmp
  | (with_reducible refine bk_slot rfl ?_)
  | with_reducible apply rk_val
  | with_reducible apply fk_nx
  | with_reducible apply fk_rt
  | ((with_reducible refine' e_par ?qa ?_); (case qa => (simp only [List.set]; rfl)))
  | ((with_reducible refine' e_par3 ?qa ?_); (case qa => (simp only [List.set]; rfl)))
  | ((with_reducible refine' e_ixO ?qa ?qb ?_); (case qa => exact rfl); (case qb => exact rfl))
  | ((with_reducible refine' e_sub ?qa ?qb ?qc ?_); (case qa => exact rfl); (case qb => exact rfl); (case qc => (simp only [List.set, Int.reduceToNat]; rfl)))
  | ((with_reducible refine' e_setF ?qa ?qb ?qc ?_); (case qa => exact rfl); (case qb => (simp only [List.length_cons, List.length_nil]; decide)); (case qc => (simp only [List.set, Int.reduceToNat]; rfl)))
  | ((with_reducible refine' e_fields ?qa ?qb ?_); (case qa => exact rfl); (case qb => exact rfl))
  | ((with_reducible refine' e_has ?qa ?_); (case qa => exact rfl))
  | with_reducible apply r_addI
  | with_reducible apply r_sub
  | with_reducible apply r_lt
  | with_reducible apply r_gt
  | with_reducible apply r_le
  | with_reducible apply r_ge
  | with_reducible apply r_int
  | with_reducible apply r_intB
  | with_reducible apply r_abs
  | with_reducible refine r_dec2 (fun h => ?_) (fun h => ?_)
  | with_reducible refine r_decN2 (fun h => ?_) (fun h => ?_)
  | with_reducible refine r_decM2 (fun h => ?_) (fun h => ?_)
  | with_reducible apply r_bool
  | with_reducible apply r_truB
  | with_reducible apply r_len
  | with_reducible apply r_lenS
  | with_reducible apply r_orEqS
  | with_reducible apply r_orNeS
  | with_reducible apply r_orEqI
  | with_reducible apply r_orNeI
  | with_reducible apply xv_joined
  | with_reducible apply xj_cons
  | with_reducible apply xj_nil
  | with_reducible apply r_eqI
  | with_reducible apply r_neI
  | with_reducible apply r_eqS
  | with_reducible apply r_neS
  | ((with_reducible refine' e_addD ?qa ?_); (case qa => exact rfl))
  | ((with_reducible refine' e_subD ?qa ?_); (case qa => exact rfl))
  | ((with_reducible refine' r_mul ?qa ?_); (case qa => walk_at "mul"))
  | ((with_reducible refine' r_mod ?qa ?_); (case qa => walk_at "cnd"))
  | ((with_reducible refine' r_fdiv ?qa ?qb ?_); (case qa => walk_at "cnd"); (case qb => walk_at "cnd"))
  | ((with_reducible refine' r_divmod ?qa ?qb ?_); (case qa => walk_at "cnd"); (case qb => walk_at "cnd"))
  | ((with_reducible refine' e_ltD ?qa ?_); (case qa => exact rfl))
  | ((with_reducible refine' e_leD ?qa ?_); (case qa => exact rfl))
  | ((with_reducible refine' e_gtD ?qa ?_); (case qa => exact rfl))
  | ((with_reducible refine' e_geD ?qa ?_); (case qa => exact rfl))
  | ((with_reducible refine' e_negD ?qa ?_); (case qa => exact rfl))
  | ((with_reducible refine' e_ixD ?qa ?_); (case qa => exact rfl))
  | ((with_reducible refine' e_intD ?qa ?_); (case qa => exact rfl))
  | ((with_reducible refine' e_absD ?qa ?_); (case qa => exact rfl))
  | ((with_reducible refine' e_intOf ?qa ?_); (case qa => exact rfl))
  | ((with_reducible refine' e_tupOf ?qa ?_); (case qa => exact rfl))
  | ((with_reducible refine' e_lstOf ?qa ?_); (case qa => exact rfl))
  | ((with_reducible refine' e2_boolOf ?qa ?_ ?_); (case qa => exact rfl))
  | ((with_reducible refine' e_boolOf ?qa ?_); (case qa => exact rfl))
  | ((with_reducible refine' e_truD ?qa ?_); (case qa => exact rfl))
  | ((with_reducible refine' e_itemsOf ?qa ?_); (case qa => exact rfl))
  | ((with_reducible refine' e_slD ?qa ?_); (case qa => exact rfl))
  | ((with_reducible refine' e_isiD ?qa ?_); (case qa => exact rfl))
  | ((with_reducible refine' e_boolI ?qa ?_); (case qa => exact rfl))
  | ((with_reducible refine' e_rng ?qa ?_); (case qa => exact ⟨by omega, by omega⟩))
  | with_reducible apply e_some
  | with_reducible apply e_str
  | with_reducible apply e_rev
  | ((with_reducible refine' en_val ?qa ?_); (case qa => exact rfl))
  | ((with_reducible refine' en_own ?qa ?_); (case qa => exact rfl))
  | ((with_reducible refine' en_nx ?qa ?_); (case qa => exact rfl))
  | with_reducible apply x_call
  | with_reducible refine x_ofV (fa := fC _) ?_
  | with_reducible refine x_ofV (fa := fOp _ _ _) ?_
  | with_reducible refine x_ofV (fa := fUn _ _) ?_
  | with_reducible refine x_ofV (fa := fCB _ _) ?_
  | with_reducible refine x_ofV (fa := fTup _) ?_
  | with_reducible refine x_ofV (fa := fLst _) ?_
  | with_reducible refine x_ofV (fa := fBM _ _ _ _) ?_
  | with_reducible refine x_ofV (fa := fBM0 _ _ _) ?_
  | with_reducible refine x_ofV (fa := fLc _ _ _ _ _) ?_
  | with_reducible refine x_ofV (fa := fFld _ _ _) ?_
  | with_reducible refine x_ofV (fa := fProp _ _ _) ?_
  | with_reducible refine x_ofV (fa := fMake _ _ _) ?_
  | with_reducible refine x_ofV (fa := fMakeN _ _ _ _ _ _ _) ?_
  | with_reducible refine x_ofV (fa := fSl _ _ _) ?_
  | with_reducible refine x_ofV (fa := fJoined _) ?_
  | with_reducible refine x_ofV (fa := fAndV _ _) ?_
  | with_reducible refine x_ofV (fa := fOrV _ _) ?_
  | with_reducible refine x_ofV (fa := fNotV _) ?_
  | with_reducible refine x_ofV (fa := fIf _ _ _) ?_
  | with_reducible refine x_ofV (fa := fIxO _ _) ?_
  | with_reducible refine x_ofV (fa := fCMeth _ _ _) ?_
  | with_reducible refine x_ofV (fa := fCMethN _ _ _ _ _) ?_
  | with_reducible refine x_ofV (fa := fCallN _ _ _ _ _ _) ?_
  | with_reducible refine x_ofV (fa := fIsN _) ?_
  | with_reducible refine x_ofV (fa := fNotN _) ?_
  | with_reducible apply xl_nil
  | with_reducible refine xl_cons rfl ?_
  | (refine And.intro (show List.length _ ≤ 16777216 from by simp only [List.length_cons, List.length_nil]; decide) ?_)
  | (refine And.intro (show tyS _ = some _ from rfl) ?_)
  | (refine And.intro (show flat _ = true from rfl) ?_)
  | (refine And.intro (show List.length _ = _ from rfl) ?_)
  | (refine And.intro (show List.length _ < 16777216 from by simp only [List.length_cons, List.length_nil]; decide) ?_)
  | (refine And.intro (show List.map isOwn _ = List.map isOwn _ from rfl) ?_)
  | with_reducible apply tt_intro
  | with_reducible apply nt_intro
  | with_reducible apply nnf_intro
  | with_reducible apply nnt_intro
  | with_reducible apply nf_intro
  | with_reducible apply ff_intro
  | walk_at "set")
theorem menus {n : Int} (h1 : 1 ≤ n) (h2 : n ≤ 4) : ∃ a b : Str, slD (.str "abcd") none (some n) = some (.str a) ∧ slD (.str "ABCD") none (some n) = some (.str b) ∧ a.length = n ∧ b.length = n ∧ (∀ c ∈ tl a, isLn n c) ∧ ∀ c ∈ tl b, isLn n c := by
  have : n = 1 ∨ n = 2 ∨ n = 3 ∨ n = 4 := by omega
  rcases this with e | e | e | e <;> subst e
  · refine ⟨"a", "A", by kernel_rfl, by kernel_rfl, by decide +kernel, by decide +kernel, ?_, ?_⟩
    · rw [show tl (Str.ofString "a") = [97] from by decide +kernel]; intro c hc; simp at hc; unfold isLn; omega
    · rw [show tl (Str.ofString "A") = [65] from by decide +kernel]; intro c hc; simp at hc; unfold isLn; omega
  · refine ⟨"ab", "AB", by kernel_rfl, by kernel_rfl, by decide +kernel, by decide +kernel, ?_, ?_⟩
    · rw [show tl (Str.ofString "ab") = [97, 98] from by decide +kernel]; intro c hc; simp at hc; unfold isLn; omega
    · rw [show tl (Str.ofString "AB") = [65, 66] from by decide +kernel]; intro c hc; simp at hc; unfold isLn; omega
  · refine ⟨"abc", "ABC", by kernel_rfl, by kernel_rfl, by decide +kernel, by decide +kernel, ?_, ?_⟩
    · rw [show tl (Str.ofString "abc") = [97, 98, 99] from by decide +kernel]; intro c hc; simp at hc; unfold isLn; omega
    · rw [show tl (Str.ofString "ABC") = [65, 66, 67] from by decide +kernel]; intro c hc; simp at hc; unfold isLn; omega
  · refine ⟨"abcd", "ABCD", by kernel_rfl, by kernel_rfl, by decide +kernel, by decide +kernel, ?_, ?_⟩
    · rw [show tl (Str.ofString "abcd") = [97, 98, 99, 100] from by decide +kernel]; intro c hc; simp at hc; unfold isLn; omega
    · rw [show tl (Str.ofString "ABCD") = [65, 66, 67, 68] from by decide +kernel]; intro c hc; simp at hc; unfold isLn; omega
/-- signs that are drawn, one by one -/
theorem lc_signs {Pc : Nat → Prop} {n a b c : Int} {menu : Str} {fm : FE} {ds : List D} {v : Nat} {ΦL : List D → EnvF → Prop} {t : List Sl} (h : RO n a b c) (hn : n + ds.length ≤ 10 ^ 14) (hm0 : 0 < menu.length) (hm1 : menu.length < 1000) (hm : ∀ c ∈ tl menu, Pc c)
    (hv : t[v]? = some .no) (hfm : ∀ o d, fm (.own 1 o :: t.set v (.val d)) = some (.ok (.val (.str menu)) (.own 1 o :: t.set v (.val d))))
    (k : ∀ (l : List Nat) a b c, l.length = ds.length → (∀ c ∈ l, Pc c) → RO (n + ds.length) a b c → ΦL (l.map chrD) (.own 1 (rl a b c) :: t)) :
    X (lcL (pName (v + 1)) fYes (fCall F_l_one_of (fCons (fVar 0) (fCons fm fNil))) [v + 1] ds []) (.own 1 (rl a b c) :: t) ΦL := by
  have ht : t.set v .no = t := by
    obtain ⟨hl, e⟩ := List.getElem?_eq_some_iff.mp hv
    rw [← e]; exact List.set_getElem_self hl
  refine x_lcL (fun es acc Γ => ∃ (l : List Nat) (a b c : Int), acc = l.map chrD ∧ (∀ c ∈ l, Pc c) ∧ l.length + es.length = ds.length ∧ RO (n + l.length) a b c ∧ Γ = .own 1 (rl a b c) :: t) ?_ ?_ ?_
  · exact ⟨[], a, b, c, rfl, fun c hc => (List.not_mem_nil hc).elim, by simp, h.up (by simp), rfl⟩
  · rintro d es acc Γ ⟨l, a, b, c, rfl, hl, he, hr, rfl⟩
    rw [List.length_cons] at he
    refine ⟨_, rfl, by simp [isOwn, List.getD, hv], ?_⟩
    have ew : wipeF (.own 1 (rl a b c) :: t) [v + 1] = .own 1 (rl a b c) :: t := by
      show Sl.own 1 (rl a b c) :: t.set v .no = _; rw [ht]
    rw [ew]
    refine xg_name ⟨_, rfl, ?_⟩
    refine xt_yes (tt_intro ?_)
    refine xv_call ?_
    refine xa_cons (x_varO (k := 1) (o := rl a b c) rfl ?_)
    refine xa_cons ⟨_, _, hfm _ _, ?_⟩
    refine xa_nil ?_
    refine x_callF (b := .slot 0) rfl ?_
    refine p_one_text hr (by omega) hm0 hm1 fun s a' b' c' hs hr' => ?_
    refine bk_slot rfl ⟨_, rfl, ?_⟩
    refine vk_val ?_
    have eb : backF (.own 1 (rl a b c) :: t) ((.own 1 (rl a b c) :: t.set v (.val d)).set 0 (.own 1 (rl a' b' c'))) [v + 1] = .own 1 (rl a' b' c') :: t := by
      show Sl.own 1 (rl a' b' c') :: (t.set v (.val d)).set v (t.getD v .no) = _
      rw [List.set_set, show t.getD v .no = .no from by simp [List.getD, hv], ht]
    rw [eb]
    exact ⟨rfl, l ++ [s], a', b', c', by simp, mem_snoc hl (hm s hs), by simp; omega, hr'.up (by simp; omega), rfl⟩
  · rintro acc Γ ⟨l, a, b, c, rfl, hl, he, hr, rfl⟩
    have he : l.length = ds.length := by simpa using he
    exact k l a b c he hl (hr.up (by omega))
theorem len_rng {m : Int} : (rangeD 0 m).length = m.toNat := by simp [rangeD]
theorem p_line {r a b c n most : Int} {Φ : Vr → Option OD → Prop} (h : RO r a b c) (hr : r ≤ 10 ^ 12) (h1 : 1 ≤ n) (h2 : n ≤ 4) (m0 : 0 ≤ most) (m1 : most ≤ 400)
    (k : ∀ (l : List Nat) a b c, (l.length : Int) ≤ most → (∀ c ∈ l, isLn n c) → RO (r + 1 + most) a b c → Φ (.val (.str (sW l))) (some (rl a b c))) : Fp F_l_line [.own 1 (rl a b c), .val (.int n), .val (.int most)] Φ := by
  obtain ⟨wa, wb, ea, eb, la, lb, ha, hb⟩ := menus h1 h2
  have lab : (wa ++ wb : Str).length = wa.length + wb.length := by rw [len_tl, tl_append, List.length_append, ← len_tl, ← len_tl]
  refine f_def rfl ?_
  show X _ [_, _, _, _, _] _
  unfold B_l_line
  refine x_seq (x_asg (xv_op (xv_sl (xv_c ?_))))
  refine xo_no ?_
  refine xo_some (xv_var rfl (e_some ?_))
  refine ⟨_, ea, ?_⟩
  refine xv_sl (xv_c ?_)
  refine xo_no ?_
  refine xo_some (xv_var rfl (e_some ?_))
  refine ⟨_, eb, ?_⟩
  refine r_addS (by omega) ?_
  repeat' walk_at "x"
  refine x_callF rfl ?_
  refine p_wind h (by omega) (by omega) (by omega) fun m a b c x0 x1 h => ?_
  repeat' walk_at "x"
  have hm : (rangeD 0 m).length = m.toNat := len_rng
  refine ⟨by rw [hm]; omega, ?_⟩
  refine lc_signs (Pc := isLn n) (menu := wa ++ wb) (v := 3) h (by rw [hm]; omega) (by omega) (by omega) (fun c hc => ?_) rfl (fun o d => rfl) fun l a b c hl hc h => ?_
  · rw [tl_append] at hc
    rcases List.mem_append.mp hc with e | e
    · exact ha c e
    · exact hb c e
  rw [hm] at hl h
  repeat' walk_at "x"
  refine e_joinD (join_chr (by omega)) ?_
  repeat' walk_at "x"
  exact k l a b c (by omega) hc (h.up (by omega))
end Ks

set_option linter.all false
set_option maxRecDepth 100000
set_option pp.maxSteps 500
set_option maxHeartbeats 1000000
namespace Ks
open PySem PySem.Spec PyProof.Rows L2 DF TL NumText
variable [TbC]
theorem tl_cutS (z : Str) (lo hi : Option Int) : tl (cutS z lo hi) = ((tl z).drop (HT.sIx (tl z).length 0 lo)).take (HT.sIx (tl z).length (tl z).length hi - HT.sIx (tl z).length 0 lo) := by
  rw [← len_tl]; rfl
theorem cut_low {m : List Nat} {k : Nat} (hk : k ≤ m.length) : cutS (sW m) none (some (k : Int)) = sW (m.take k) := by
  refine ext_tl ?_
  rw [tl_cutS]
  show (m.drop 0).take (HT.sIx m.length m.length (some (k : Int)) - 0) = m.take k
  rw [HT.sIx_nat, List.drop_zero, Nat.min_eq_left hk]; rfl
theorem cut_high {m : List Nat} {k : Nat} (hk : k ≤ m.length) : cutS (sW m) (some (k : Int)) none = sW (m.drop k) := by
  refine ext_tl ?_
  rw [tl_cutS]
  show (m.drop (HT.sIx m.length 0 (some (k : Int)))).take (m.length - HT.sIx m.length 0 (some (k : Int))) = m.drop k
  rw [HT.sIx_nat, Nat.min_eq_left hk, List.take_of_length_le]
  rw [List.length_drop]; omega
/-- m has a sign before its opposite at k -/
theorem ix_sW {m : List Nat} {j : Nat} {c : Nat} (hm : m.length ≤ 1000) (h : m[j]? = some c) {i : Int} (hi : i = j) : ixD (.str (sW m)) (.int i) = some (.str (ch c)) := by
  subst hi
  show (if (sW m).length ≤ 16777216 then (atI m (j : Int)).map chrD else none) = _
  rw [if_pos (by rw [len_sW]; omega), DF.atI_nat, h]; rfl
end Ks

set_option linter.all false
set_option maxRecDepth 100000
set_option pp.maxSteps 500
set_option maxHeartbeats 1000000
namespace Ks
open PySem PySem.Spec PyProof.Rows L2 DF TL NumText
variable [TbC]
/-! ### one step -/
local macro_rules | `(tactic| walk_at "set") => `(tactic| (refine' e_set ?qa ?_; (case qa => (simp only [wipeF, backF, List.set, List.getD_cons_succ, List.getD_cons_zero, Int.reduceToNat]; rfl))))
local macro_rules | `(tactic| walk_at "cnd") => `(tactic| first | assumption | decide | omega)
local macro_rules | `(tactic| walk_at "mul") => `(tactic| first | exact mulOk_r (by decide) (by decide) | exact mulOk_l (by decide) (by decide) | exact mulOk_l (by omega) (by omega) | exact mulOk_r (by omega) (by omega))
local macro_rules | `(tactic| walk_at "x") => `(tactic| first
  | with_reducible apply x_seq
  | with_reducible apply k_nx
  | with_reducible apply k_rt
  | with_reducible apply x_nx
  | with_reducible refine x_asgK (fa := fLstO _) ?_
  | with_reducible refine x_asgK (fa := fLcO _ _ _ _ _) ?_
  | with_reducible apply ak_own
  | with_reducible apply ak_val
  | with_reducible apply x_asg
  | with_reducible refine x_retK (fa := fLstO _) ?_
  | with_reducible apply rk_own
  | with_reducible apply x_ret
  | with_reducible apply x_ifS
  | with_reducible apply x_asgG
  | with_reducible apply x_drop
  | with_reducible apply x_par
  | with_reducible apply x_par3
  | with_reducible apply x_asg3
  | with_reducible apply x_for
  | with_reducible refine x_aug ⟨_, rfl, ?_⟩
  | with_reducible apply xv_c
  | (with_reducible refine xv_var rfl ?_)
  | (with_reducible refine x_varV rfl ?_)
  | (with_reducible refine x_varO rfl ?_)
  | with_reducible apply xv_op
  | with_reducible apply xv_un
  | with_reducible apply xv_cb
  | with_reducible apply xs_nil
  | with_reducible apply xs_cons
  | with_reducible apply xa_nil
  | with_reducible apply xa_cons
  | with_reducible apply xv_tup
  | with_reducible apply xv_lst
  | with_reducible apply x_lstO
  | with_reducible apply xv_if
  | with_reducible apply xv_andV
  | with_reducible apply xv_orV
  | with_reducible apply xv_notV
  | with_reducible apply xv_isN
  | with_reducible apply xv_notN
  | with_reducible apply xt_test
  | with_reducible apply xt_tru
  | with_reducible apply xt_not
  | with_reducible apply xt_and
  | with_reducible apply xt_or
  | with_reducible apply xt_yes
  | with_reducible apply xv_call
  | with_reducible apply xv_callN
  | with_reducible apply xv_cmeth
  | with_reducible apply xv_cmethN
  | with_reducible apply xv_fld
  | with_reducible apply xv_prop
  | with_reducible apply x_setF
  | with_reducible apply xv_make
  | with_reducible apply xv_makeN
  | (with_reducible refine xv_makeL rfl ?_)
  | with_reducible apply xg_name
  | with_reducible apply xg_nil
  | with_reducible apply xg_cons
  | (with_reducible refine xg_tup rfl ?_)
  | (with_reducible refine xg_unl rfl ?_)
  | (with_reducible refine xg_sub rfl ?_)
  | (with_reducible refine xv_ixO rfl ?_)
  | ((with_reducible refine' xv_pk ?qa ?_); (case qa => (simp only [List.map, seeO, odD]; rfl)))
  | ((with_reducible refine' xt_pk ?qa ?_); (case qa => (simp only [List.map, seeO, odD]; rfl)))
  | with_reducible apply xv_bm
  | with_reducible apply xv_bm0
  | with_reducible apply xv_sl
  | with_reducible apply xo_no
  | with_reducible apply xo_some
  | with_reducible apply xv_revS
  | with_reducible apply xv_revL
  | with_reducible apply xv_fmt
  | with_reducible apply xw_any
  | with_reducible apply xw_rng1
  | with_reducible apply xw_rng2
  | with_reducible apply xv_lc
  | with_reducible apply vk_val
  | with_reducible apply bk_none
  | with_reducible apply bk_tmp
  | (with_reducible refine bk_slot rfl ?_)
  | with_reducible apply rk_val
  | with_reducible apply fk_nx
  | with_reducible apply fk_rt
  | ((with_reducible refine' e_par ?qa ?_); (case qa => (simp only [List.set]; rfl)))
  | ((with_reducible refine' e_par3 ?qa ?_); (case qa => (simp only [List.set]; rfl)))
  | ((with_reducible refine' e_ixO ?qa ?qb ?_); (case qa => exact rfl); (case qb => exact rfl))
  | ((with_reducible refine' e_sub ?qa ?qb ?qc ?_); (case qa => exact rfl); (case qb => exact rfl); (case qc => (simp only [List.set, Int.reduceToNat]; rfl)))
  | ((with_reducible refine' e_setF ?qa ?qb ?qc ?_); (case qa => exact rfl); (case qb => (simp only [List.length_cons, List.length_nil]; decide)); (case qc => (simp only [List.set, Int.reduceToNat]; rfl)))
  | ((with_reducible refine' e_fields ?qa ?qb ?_); (case qa => exact rfl); (case qb => exact rfl))
  | ((with_reducible refine' e_has ?qa ?_); (case qa => exact rfl))
  | with_reducible apply r_addI
  | with_reducible apply r_sub
  | with_reducible apply r_lt
  | with_reducible apply r_gt
  | with_reducible apply r_le
  | with_reducible apply r_ge
  | with_reducible apply r_int
  | with_reducible apply r_intB
  | with_reducible apply r_abs
  | with_reducible refine r_dec2 (fun h => ?_) (fun h => ?_)
  | with_reducible refine r_decN2 (fun h => ?_) (fun h => ?_)
  | with_reducible refine r_decM2 (fun h => ?_) (fun h => ?_)
  | with_reducible apply r_bool
  | with_reducible apply r_truB
  | with_reducible apply r_len
  | with_reducible apply r_lenS
  | with_reducible apply r_orEqS
  | with_reducible apply r_orNeS
  | with_reducible apply r_orEqI
  | with_reducible apply r_orNeI
  | with_reducible apply xv_joined
  | with_reducible apply xj_cons
  | with_reducible apply xj_nil
  | with_reducible apply r_eqI
  | with_reducible apply r_neI
  | with_reducible apply r_eqS
  | with_reducible apply r_neS
  | ((with_reducible refine' e_addD ?qa ?_); (case qa => exact rfl))
  | ((with_reducible refine' e_subD ?qa ?_); (case qa => exact rfl))
  | ((with_reducible refine' r_mul ?qa ?_); (case qa => walk_at "mul"))
  | ((with_reducible refine' r_mod ?qa ?_); (case qa => walk_at "cnd"))
  | ((with_reducible refine' r_fdiv ?qa ?qb ?_); (case qa => walk_at "cnd"); (case qb => walk_at "cnd"))
  | ((with_reducible refine' r_divmod ?qa ?qb ?_); (case qa => walk_at "cnd"); (case qb => walk_at "cnd"))
  | ((with_reducible refine' e_ltD ?qa ?_); (case qa => exact rfl))
  | ((with_reducible refine' e_leD ?qa ?_); (case qa => exact rfl))
  | ((with_reducible refine' e_gtD ?qa ?_); (case qa => exact rfl))
  | ((with_reducible refine' e_geD ?qa ?_); (case qa => exact rfl))
  | ((with_reducible refine' e_negD ?qa ?_); (case qa => exact rfl))
  | ((with_reducible refine' e_ixD ?qa ?_); (case qa => exact rfl))
  | ((with_reducible refine' e_intD ?qa ?_); (case qa => exact rfl))
  | ((with_reducible refine' e_absD ?qa ?_); (case qa => exact rfl))
  | ((with_reducible refine' e_intOf ?qa ?_); (case qa => exact rfl))
  | ((with_reducible refine' e_tupOf ?qa ?_); (case qa => exact rfl))
  | ((with_reducible refine' e_lstOf ?qa ?_); (case qa => exact rfl))
  | ((with_reducible refine' e2_boolOf ?qa ?_ ?_); (case qa => exact rfl))
  | ((with_reducible refine' e_boolOf ?qa ?_); (case qa => exact rfl))
  | ((with_reducible refine' e_truD ?qa ?_); (case qa => exact rfl))
  | ((with_reducible refine' e_itemsOf ?qa ?_); (case qa => exact rfl))
  | ((with_reducible refine' e_slD ?qa ?_); (case qa => exact rfl))
  | ((with_reducible refine' e_isiD ?qa ?_); (case qa => exact rfl))
  | ((with_reducible refine' e_boolI ?qa ?_); (case qa => exact rfl))
  | ((with_reducible refine' e_rng ?qa ?_); (case qa => exact ⟨by omega, by omega⟩))
  | with_reducible apply e_some
  | with_reducible apply e_str
  | with_reducible apply e_rev
  | ((with_reducible refine' en_val ?qa ?_); (case qa => exact rfl))
  | ((with_reducible refine' en_own ?qa ?_); (case qa => exact rfl))
  | ((with_reducible refine' en_nx ?qa ?_); (case qa => exact rfl))
  | with_reducible apply x_call
  | with_reducible refine x_ofV (fa := fC _) ?_
  | with_reducible refine x_ofV (fa := fOp _ _ _) ?_
  | with_reducible refine x_ofV (fa := fUn _ _) ?_
  | with_reducible refine x_ofV (fa := fCB _ _) ?_
  | with_reducible refine x_ofV (fa := fTup _) ?_
  | with_reducible refine x_ofV (fa := fLst _) ?_
  | with_reducible refine x_ofV (fa := fBM _ _ _ _) ?_
  | with_reducible refine x_ofV (fa := fBM0 _ _ _) ?_
  | with_reducible refine x_ofV (fa := fLc _ _ _ _ _) ?_
  | with_reducible refine x_ofV (fa := fFld _ _ _) ?_
  | with_reducible refine x_ofV (fa := fProp _ _ _) ?_
  | with_reducible refine x_ofV (fa := fMake _ _ _) ?_
  | with_reducible refine x_ofV (fa := fMakeN _ _ _ _ _ _ _) ?_
  | with_reducible refine x_ofV (fa := fSl _ _ _) ?_
  | with_reducible refine x_ofV (fa := fJoined _) ?_
  | with_reducible refine x_ofV (fa := fAndV _ _) ?_
  | with_reducible refine x_ofV (fa := fOrV _ _) ?_
  | with_reducible refine x_ofV (fa := fNotV _) ?_
  | with_reducible refine x_ofV (fa := fIf _ _ _) ?_
  | with_reducible refine x_ofV (fa := fIxO _ _) ?_
  | with_reducible refine x_ofV (fa := fCMeth _ _ _) ?_
  | with_reducible refine x_ofV (fa := fCMethN _ _ _ _ _) ?_
  | with_reducible refine x_ofV (fa := fCallN _ _ _ _ _ _) ?_
  | with_reducible refine x_ofV (fa := fIsN _) ?_
  | with_reducible refine x_ofV (fa := fNotN _) ?_
  | with_reducible apply xl_nil
  | with_reducible refine xl_cons rfl ?_
  | (refine And.intro (show List.length _ ≤ 16777216 from by simp only [List.length_cons, List.length_nil]; decide) ?_)
  | (refine And.intro (show tyS _ = some _ from rfl) ?_)
  | (refine And.intro (show flat _ = true from rfl) ?_)
  | (refine And.intro (show List.length _ = _ from rfl) ?_)
  | (refine And.intro (show List.length _ < 16777216 from by simp only [List.length_cons, List.length_nil]; decide) ?_)
  | (refine And.intro (show List.map isOwn _ = List.map isOwn _ from rfl) ?_)
  | with_reducible apply tt_intro
  | with_reducible apply nt_intro
  | with_reducible apply nnf_intro
  | with_reducible apply nnt_intro
  | with_reducible apply nf_intro
  | with_reducible apply ff_intro
  | walk_at "set")
theorem upper_ch {c : Nat} (h : isL c) (h2 : 97 ≤ c) : upperD (.str (ch c)) [] = some (.str (ch (opp c))) := by
  rcases letter_cases h with e | e | e | e | e | e | e | e <;> subst e <;> first | omega | kernel_rfl
theorem islow_ch {c : Nat} (h : isL c) : islowD (.str (ch c)) [] = some (.bl (decide (97 ≤ c))) := by
  rcases letter_cases h with e | e | e | e | e | e | e | e <;> subst e <;> kernel_rfl
theorem lowerD_ch' {c : Nat} (h : isL c) (h2 : ¬ 97 ≤ c) : lowerD (.str (ch c)) [] = some (.str (ch (opp c))) := by
  rw [lower_ch h]
  have : low c = opp c := by unfold low opp; rw [if_neg h2, if_neg h2]
  rw [this]
theorem low_opp {c : Nat} (h : ¬ 97 ≤ c) : low c = opp c := by unfold low opp; rw [if_neg h, if_neg h]
theorem swap_place {cps : Array Nat} {i c : Nat} (h : cps[i]? = some c) (hc : isL c) : (if Unicode.isUpper c then Unicode.lowerAt cps i else if Unicode.isLower c then Unicode.upperOf c else [c]) = [opp c] := by
  have e : ∀ d, isL d → ¬ 97 ≤ d → Unicode.isUpper d = true ∧ (d == 0x3A3) = false ∧ Unicode.lowerOf d = [opp d] := fun d hd h2 => by
    rcases letter_cases hd with e | e | e | e | e | e | e | e <;> subst e <;> first | omega | exact ⟨by kernel_rfl, by kernel_rfl, by kernel_rfl⟩
  have e2 : ∀ d, isL d → 97 ≤ d → Unicode.isUpper d = false ∧ Unicode.isLower d = true ∧ Unicode.upperOf d = [opp d] := fun d hd h2 => by
    rcases letter_cases hd with e | e | e | e | e | e | e | e <;> subst e <;> first | omega | exact ⟨by kernel_rfl, by kernel_rfl, by kernel_rfl⟩
  by_cases h2 : 97 ≤ c
  · obtain ⟨a, b, d⟩ := e2 c hc h2
    rw [a, b, d]
    rfl
  · obtain ⟨a, b, d⟩ := e c hc h2
    rw [a, if_pos rfl]
    unfold Unicode.lowerAt
    rw [h]
    dsimp only
    rw [b, Bool.false_and, d]
    rfl
theorem swap_sW {l : List Nat} (hl : AL l) : Txt.swapcase (sW l) = sW (l.map opp) := by
  unfold Txt.swapcase placed
  have e : ((sW l).cps.mapIdx fun i c => (if Unicode.isUpper c then Unicode.lowerAt (sW l).cps i else if Unicode.isLower c then Unicode.upperOf c else [c]).toArray) = (l.map fun c => #[opp c]).toArray := by
    refine Array.ext (by simp) fun i h1 h2 => ?_
    have hi : i < l.length := by simpa using h1
    rw [Array.getElem_mapIdx]
    have hg : (sW l).cps[i]? = some l[i] := by
      show l.toArray[i]? = _
      simp [hi]
    have := swap_place hg (hl _ (List.getElem_mem hi))
    have eg : (sW l).cps[i]'(by simpa using hi) = l[i] := by simp
    rw [eg, this]
    simp
  rw [e]
  congr 1
  simp
  clear hl e
  induction l with
  | nil => rfl
  | cons c l ih => rw [List.map_cons, List.flatten_cons, ih]; rfl
theorem swapD_sW {l : List Nat} (hl : AL l) (hn : l.length ≤ 1000) : swapD (.str (sW l)) [] = some (.str (sW (l.map opp))) := by
  show (if (!Builtin.Str.tooLong (Txt.swapcase (sW l)).length) = true then some (D.str (Txt.swapcase (sW l))) else none) = _
  rw [fit_swapcase (by rw [len_sW]; omega), swap_sW hl]
  rfl
theorem r_lenW {l : List Nat} {Φ : D → Prop} (hn : l.length ≤ 1000) (p : Φ (.int l.length)) : ∃ z, lenD [.str (sW l)] = some z ∧ Φ z := r_lenT (by rw [len_sW]; omega) (by rw [len_sW]; exact p)
theorem AL.rev {l : List Nat} (h : AL l) : AL l.reverse := fun x hx => h x (List.mem_reverse.mp hx)
theorem AL.get {l : List Nat} (h : AL l) {j : Nat} {c : Nat} (e : l[j]? = some c) : isL c := h c (List.mem_of_getElem? e)
theorem get_ok {l : List Nat} {j : Nat} (h : j < l.length) : ∃ c, l[j]? = some c := ⟨_, List.getElem?_eq_getElem h⟩
theorem f_back {l : List Nat} (hl : AL l) (hn : l.length ≤ 1000) : F_l_back [.val (.str (sW l))] = some (.ok (.val (.str (sW (inv l)))) none) := by
  have e : revS (sW l) = sW l.reverse := by
    refine ext_tl ?_
    show (sW l).cps.toList.reverse = _
    simp
  refine Fp.eq (f_def rfl ?_)
  show X _ [_, _] _
  unfold B_l_back
  repeat' walk_at "x"
  refine ⟨by rw [len_sW]; omega, ?_⟩
  rw [e]
  repeat' walk_at "x"
  refine ⟨by simp; omega, ?_⟩
  refine x_lcL (fun ds acc Γ => ∃ m d : List Nat, ds = m.map chrD ∧ acc = d.map chrD ∧ AL m ∧ d ++ m.map opp = inv l ∧ Γ = [.val (.str (sW l)), .no]) ?_ ?_ ?_
  · exact ⟨l.reverse, [], rfl, rfl, hl.rev, by unfold inv; simp, rfl⟩
  · rintro d ds acc Γ ⟨m, k, em, rfl, hm, he, rfl⟩
    cases m with
    | nil => cases em
    | cons c m =>
      obtain ⟨rfl, rfl⟩ := List.cons.inj em
      have hc := hm c List.mem_cons_self
      refine ⟨_, rfl, rfl, ?_⟩
      show X _ [_, _] _
      repeat' walk_at "x"
      refine ⟨_, islow_ch hc, _, rfl, fun h => ?_, fun h => ?_⟩
      · have h := of_decide_eq_true h
        repeat' walk_at "x"
        exact ⟨_, upper_ch hc h, rfl, m, k ++ [opp c], rfl, by simp; rfl, fun x hx => hm x (List.mem_cons_of_mem _ hx), by rw [← he]; simp, rfl⟩
      · have h := of_decide_eq_false h
        repeat' walk_at "x"
        exact ⟨_, lowerD_ch' hc h, rfl, m, k ++ [opp c], rfl, by simp; rfl, fun x hx => hm x (List.mem_cons_of_mem _ hx), by rw [← he]; simp, rfl⟩
  · rintro acc Γ ⟨m, k, em, rfl, hm, he, rfl⟩
    have : m = [] := by cases m with | nil => rfl | cons c m => cases em
    subst this
    rw [List.map_nil, List.append_nil] at he
    subst he
    repeat' walk_at "x"
    refine e_joinD (join_chr ?_) ?_
    · rw [inv_len]; omega
    repeat' walk_at "x"
    exact ⟨rfl, rfl⟩
theorem sl_all {m : List Nat} (hn : m.length ≤ 1000) (lo hi : Option Int) : slD (.str (sW m)) lo hi = some (.str (cutS (sW m) lo hi)) := by
  show (if (sW m).length ≤ 16777216 then _ else none) = _
  rw [if_pos (by rw [len_sW]; omega)]
theorem r_slLow {m : List Nat} {k : Nat} {i : Int} {Φ : D → Prop} (hn : m.length ≤ 1000) (h : i = k) (hk : k ≤ m.length) (p : Φ (.str (sW (m.take k)))) : ∃ z, slD (.str (sW m)) none (some i) = some z ∧ Φ z := ⟨_, by rw [h, sl_all hn, cut_low hk], p⟩
theorem r_slHigh {m : List Nat} {k : Nat} {i : Int} {Φ : D → Prop} (hn : m.length ≤ 1000) (h : i = k) (hk : k ≤ m.length) (p : Φ (.str (sW (m.drop k)))) : ∃ z, slD (.str (sW m)) (some i) none = some z ∧ Φ z := ⟨_, by rw [h, sl_all hn, cut_high hk], p⟩
theorem sIx_nat {n k : Nat} {d : Nat} (h : k ≤ n) : HT.sIx n d (some (k : Int)) = k := by
  unfold HT.sIx
  simp
  split <;> omega
theorem r_slMid {m : List Nat} {a b : Nat} {i j : Int} {Φ : D → Prop} (hn : m.length ≤ 1000) (h : i = a) (h2 : j = b) (hk : a ≤ m.length) (hk2 : b ≤ m.length) (p : Φ (.str (sW ((m.drop a).take (b - a))))) : ∃ z, slD (.str (sW m)) (some i) (some j) = some z ∧ Φ z := ⟨_, by
  rw [h, h2, sl_all hn]
  congr 2
  refine ext_tl ?_
  rw [tl_cutS, tl_sW, sIx_nat hk, sIx_nat hk2], p⟩
theorem len_low {m : List Nat} {k : Nat} (h : m.length ≤ 1000) : (sW (m.take k)).length ≤ 1000 := by rw [len_sW, List.length_take]; omega
theorem len_high {m : List Nat} {k : Nat} (h : m.length ≤ 1000) : (sW (m.drop k)).length ≤ 1000 := by rw [len_sW, List.length_drop]; omega
theorem r_addW {u v : List Nat} {Φ : D → Prop} (hu : u.length ≤ 2000) (hv : v.length ≤ 2000) (p : Φ (.str (sW (u ++ v)))) : ∃ z, addD (.str (sW u)) (.str (sW v)) = some z ∧ Φ z := r_addS (by rw [len_sW, len_sW]; omega) (by rw [sW_app]; exact p)
end Ks

set_option linter.all false
set_option maxRecDepth 100000
set_option pp.maxSteps 500
set_option maxHeartbeats 1000000
namespace Ks
open PySem PySem.Spec PyProof.Rows L2 DF TL NumText
variable [TbC]
/-! ### one step -/
local macro_rules | `(tactic| walk_at "set") => `(tactic| (refine' e_set ?qa ?_; (case qa => (simp only [wipeF, backF, List.set, List.getD_cons_succ, List.getD_cons_zero, Int.reduceToNat]; rfl))))
local macro_rules | `(tactic| walk_at "cnd") => `(tactic| first | assumption | decide | omega)
local macro_rules | `(tactic| walk_at "mul") => `(tactic| first | exact mulOk_r (by decide) (by decide) | exact mulOk_l (by decide) (by decide) | exact mulOk_l (by omega) (by omega) | exact mulOk_r (by omega) (by omega))
local macro_rules | `(tactic| walk_at "x") => `(tactic| first
  | with_reducible apply x_seq
  | with_reducible apply k_nx
  | with_reducible apply k_rt
  | with_reducible apply x_nx
  | with_reducible refine x_asgK (fa := fLstO _) ?_
  | with_reducible refine x_asgK (fa := fLcO _ _ _ _ _) ?_
  | with_reducible apply ak_own
  | with_reducible apply ak_val
  | with_reducible apply x_asg
  | with_reducible refine x_retK (fa := fLstO _) ?_
  | with_reducible apply rk_own
  | with_reducible apply x_ret
  | with_reducible apply x_ifS
  | with_reducible apply x_asgG
  | with_reducible apply x_drop
  | with_reducible apply x_par
  | with_reducible apply x_par3
  | with_reducible apply x_asg3
  | with_reducible apply x_for
  | with_reducible refine x_aug ⟨_, rfl, ?_⟩
  | with_reducible apply xv_c
  | (with_reducible refine xv_var rfl ?_)
  | (with_reducible refine x_varV rfl ?_)
  | (with_reducible refine x_varO rfl ?_)
  | with_reducible apply xv_op
  | with_reducible apply xv_un
  | with_reducible apply xv_cb
  | with_reducible apply xs_nil
  | with_reducible apply xs_cons
  | with_reducible apply xa_nil
  | with_reducible apply xa_cons
  | with_reducible apply xv_tup
  | with_reducible apply xv_lst
  | with_reducible apply x_lstO
  | with_reducible apply xv_if
  | with_reducible apply xv_andV
  | with_reducible apply xv_orV
  | with_reducible apply xv_notV
  | with_reducible apply xv_isN
  | with_reducible apply xv_notN
  | with_reducible apply xt_test
  | with_reducible apply xt_tru
  | with_reducible apply xt_not
  | with_reducible apply xt_and
  | with_reducible apply xt_or
  | with_reducible apply xt_yes
  | with_reducible apply xv_call
  | with_reducible apply xv_callN
  | with_reducible apply xv_cmeth
  | with_reducible apply xv_cmethN
  | with_reducible apply xv_fld
  | with_reducible apply xv_prop
  | with_reducible apply x_setF
  | with_reducible apply xv_make
  | with_reducible apply xv_makeN
  | (with_reducible refine xv_makeL rfl ?_)
  | with_reducible apply xg_name
  | with_reducible apply xg_nil
  | with_reducible apply xg_cons
  | (with_reducible refine xg_tup rfl ?_)
  | (with_reducible refine xg_unl rfl ?_)
  | (with_reducible refine xg_sub rfl ?_)
  | (with_reducible refine xv_ixO rfl ?_)
  | ((with_reducible refine' xv_pk ?qa ?_); (case qa => (simp only [List.map, seeO, odD]; rfl)))
  | ((with_reducible refine' xt_pk ?qa ?_); (case qa => (simp only [List.map, seeO, odD]; rfl)))
  | with_reducible apply xv_bm
  | with_reducible apply xv_bm0
  | with_reducible apply xv_sl
  | with_reducible apply xo_no
  | with_reducible apply xo_some
  | with_reducible apply xv_revS
  | with_reducible apply xv_revL
  | with_reducible apply xv_fmt
  | with_reducible apply xw_any
  | with_reducible apply xw_rng1
  | with_reducible apply xw_rng2
  | with_reducible apply xv_lc
  | with_reducible apply vk_val
  | with_reducible apply bk_none
  | with_reducible apply bk_tmp
  | (with_reducible refine bk_slot rfl ?_)
  | with_reducible apply rk_val
  | with_reducible apply fk_nx
  | with_reducible apply fk_rt
  | ((with_reducible refine' e_par ?qa ?_); (case qa => (simp only [List.set]; rfl)))
  | ((with_reducible refine' e_par3 ?qa ?_); (case qa => (simp only [List.set]; rfl)))
  | ((with_reducible refine' e_ixO ?qa ?qb ?_); (case qa => exact rfl); (case qb => exact rfl))
  | ((with_reducible refine' e_sub ?qa ?qb ?qc ?_); (case qa => exact rfl); (case qb => exact rfl); (case qc => (simp only [List.set, Int.reduceToNat]; rfl)))
  | ((with_reducible refine' e_setF ?qa ?qb ?qc ?_); (case qa => exact rfl); (case qb => (simp only [List.length_cons, List.length_nil]; decide)); (case qc => (simp only [List.set, Int.reduceToNat]; rfl)))
  | ((with_reducible refine' e_fields ?qa ?qb ?_); (case qa => exact rfl); (case qb => exact rfl))
  | ((with_reducible refine' e_has ?qa ?_); (case qa => exact rfl))
  | with_reducible apply r_addI
  | with_reducible apply r_sub
  | with_reducible apply r_lt
  | with_reducible apply r_gt
  | with_reducible apply r_le
  | with_reducible apply r_ge
  | with_reducible apply r_int
  | with_reducible apply r_intB
  | with_reducible apply r_abs
  | with_reducible refine r_dec2 (fun h => ?_) (fun h => ?_)
  | with_reducible refine r_decN2 (fun h => ?_) (fun h => ?_)
  | with_reducible refine r_decM2 (fun h => ?_) (fun h => ?_)
  | with_reducible apply r_bool
  | with_reducible apply r_truB
  | with_reducible apply r_len
  | with_reducible apply r_lenS
  | with_reducible apply r_orEqS
  | with_reducible apply r_orNeS
  | with_reducible apply r_orEqI
  | with_reducible apply r_orNeI
  | with_reducible apply xv_joined
  | with_reducible apply xj_cons
  | with_reducible apply xj_nil
  | with_reducible apply r_eqI
  | with_reducible apply r_neI
  | with_reducible apply r_eqS
  | with_reducible apply r_neS
  | ((with_reducible refine' e_addD ?qa ?_); (case qa => exact rfl))
  | ((with_reducible refine' e_subD ?qa ?_); (case qa => exact rfl))
  | ((with_reducible refine' r_mul ?qa ?_); (case qa => walk_at "mul"))
  | ((with_reducible refine' r_mod ?qa ?_); (case qa => walk_at "cnd"))
  | ((with_reducible refine' r_fdiv ?qa ?qb ?_); (case qa => walk_at "cnd"); (case qb => walk_at "cnd"))
  | ((with_reducible refine' r_divmod ?qa ?qb ?_); (case qa => walk_at "cnd"); (case qb => walk_at "cnd"))
  | ((with_reducible refine' e_ltD ?qa ?_); (case qa => exact rfl))
  | ((with_reducible refine' e_leD ?qa ?_); (case qa => exact rfl))
  | ((with_reducible refine' e_gtD ?qa ?_); (case qa => exact rfl))
  | ((with_reducible refine' e_geD ?qa ?_); (case qa => exact rfl))
  | ((with_reducible refine' e_negD ?qa ?_); (case qa => exact rfl))
  | ((with_reducible refine' e_ixD ?qa ?_); (case qa => exact rfl))
  | ((with_reducible refine' e_intD ?qa ?_); (case qa => exact rfl))
  | ((with_reducible refine' e_absD ?qa ?_); (case qa => exact rfl))
  | ((with_reducible refine' e_intOf ?qa ?_); (case qa => exact rfl))
  | ((with_reducible refine' e_tupOf ?qa ?_); (case qa => exact rfl))
  | ((with_reducible refine' e_lstOf ?qa ?_); (case qa => exact rfl))
  | ((with_reducible refine' e2_boolOf ?qa ?_ ?_); (case qa => exact rfl))
  | ((with_reducible refine' e_boolOf ?qa ?_); (case qa => exact rfl))
  | ((with_reducible refine' e_truD ?qa ?_); (case qa => exact rfl))
  | ((with_reducible refine' e_itemsOf ?qa ?_); (case qa => exact rfl))
  | ((with_reducible refine' e_slD ?qa ?_); (case qa => exact rfl))
  | ((with_reducible refine' e_isiD ?qa ?_); (case qa => exact rfl))
  | ((with_reducible refine' e_boolI ?qa ?_); (case qa => exact rfl))
  | ((with_reducible refine' e_rng ?qa ?_); (case qa => exact ⟨by omega, by omega⟩))
  | with_reducible apply e_some
  | with_reducible apply e_str
  | with_reducible apply e_rev
  | ((with_reducible refine' en_val ?qa ?_); (case qa => exact rfl))
  | ((with_reducible refine' en_own ?qa ?_); (case qa => exact rfl))
  | ((with_reducible refine' en_nx ?qa ?_); (case qa => exact rfl))
  | with_reducible apply x_call
  | with_reducible refine x_ofV (fa := fC _) ?_
  | with_reducible refine x_ofV (fa := fOp _ _ _) ?_
  | with_reducible refine x_ofV (fa := fUn _ _) ?_
  | with_reducible refine x_ofV (fa := fCB _ _) ?_
  | with_reducible refine x_ofV (fa := fTup _) ?_
  | with_reducible refine x_ofV (fa := fLst _) ?_
  | with_reducible refine x_ofV (fa := fBM _ _ _ _) ?_
  | with_reducible refine x_ofV (fa := fBM0 _ _ _) ?_
  | with_reducible refine x_ofV (fa := fLc _ _ _ _ _) ?_
  | with_reducible refine x_ofV (fa := fFld _ _ _) ?_
  | with_reducible refine x_ofV (fa := fProp _ _ _) ?_
  | with_reducible refine x_ofV (fa := fMake _ _ _) ?_
  | with_reducible refine x_ofV (fa := fMakeN _ _ _ _ _ _ _) ?_
  | with_reducible refine x_ofV (fa := fSl _ _ _) ?_
  | with_reducible refine x_ofV (fa := fJoined _) ?_
  | with_reducible refine x_ofV (fa := fAndV _ _) ?_
  | with_reducible refine x_ofV (fa := fOrV _ _) ?_
  | with_reducible refine x_ofV (fa := fNotV _) ?_
  | with_reducible refine x_ofV (fa := fIf _ _ _) ?_
  | with_reducible refine x_ofV (fa := fIxO _ _) ?_
  | with_reducible refine x_ofV (fa := fCMeth _ _ _) ?_
  | with_reducible refine x_ofV (fa := fCMethN _ _ _ _ _) ?_
  | with_reducible refine x_ofV (fa := fCallN _ _ _ _ _ _) ?_
  | with_reducible refine x_ofV (fa := fIsN _) ?_
  | with_reducible refine x_ofV (fa := fNotN _) ?_
  | with_reducible apply xl_nil
  | with_reducible refine xl_cons rfl ?_
  | (refine And.intro (show List.length _ ≤ 16777216 from by simp only [List.length_cons, List.length_nil]; decide) ?_)
  | (refine And.intro (show tyS _ = some _ from rfl) ?_)
  | (refine And.intro (show flat _ = true from rfl) ?_)
  | (refine And.intro (show List.length _ = _ from rfl) ?_)
  | (refine And.intro (show List.length _ < 16777216 from by simp only [List.length_cons, List.length_nil]; decide) ?_)
  | (refine And.intro (show List.map isOwn _ = List.map isOwn _ from rfl) ?_)
  | with_reducible apply tt_intro
  | with_reducible apply nt_intro
  | with_reducible apply nnf_intro
  | with_reducible apply nnt_intro
  | with_reducible apply nf_intro
  | with_reducible apply ff_intro
  | walk_at "set")
theorem rng_cons {lo hi : Int} (h : lo < hi) : rangeD lo hi = .int lo :: rangeD (lo + 1) hi := by
  unfold rangeD
  obtain ⟨n, e⟩ : ∃ n, (hi - lo).toNat = n + 1 := ⟨(hi - lo).toNat - 1, by omega⟩
  rw [e, show (hi - (lo + 1)).toNat = n by omega, List.range_succ_eq_map, List.map_cons, List.map_map]
  congr 1
  · congr 1
    show lo + ((0 : Nat) : Int) = lo
    omega
  · refine List.map_congr_left fun i _ => ?_
    show D.int (lo + ((i + 1 : Nat) : Int)) = D.int (lo + 1 + (i : Int))
    congr 1
    omega
theorem rng_nil {lo hi : Int} (h : hi ≤ lo) : rangeD lo hi = [] := by
  unfold rangeD
  rw [show (hi - lo).toNat = 0 by omega]
  rfl
theorem repS_tl (z : Str) (k : Int) : tl (repS z k) = (List.replicate k.toNat (tl z)).flatten := by
  unfold repS
  have h : ∀ (m : Nat) (a : Array Nat), ((List.replicate m z.cps).foldl (· ++ ·) a).toList = a.toList ++ (List.replicate m (tl z)).flatten := by
    intro m
    induction m with
    | zero => intro a; simp
    | succ m ih => intro a; rw [List.replicate_succ, List.foldl_cons, ih, List.replicate_succ, List.flatten_cons, Array.toList_append, List.append_assoc]
  show ((List.replicate k.toNat z.cps).foldl (· ++ ·) #[]).toList = _
  rw [h]
  rfl
theorem rep_flat (x : List Nat) : ∀ k, (List.replicate k x).flatten = rep x k
  | 0 => rfl
  | k + 1 => by rw [List.replicate_succ, List.flatten_cons, rep_flat x k]; rfl
theorem repS_sW (x : List Nat) (k : Int) : repS (sW x) k = sW (rep x k.toNat) := ext_tl (by rw [repS_tl, tl_sW, tl_sW, rep_flat])
theorem r_mulW {x : List Nat} {k : Int} {Φ : D → Prop} (h0 : 0 ≤ k) (h1 : k ≤ 1000) (h2 : x.length ≤ 1000) (p : Φ (.str (sW (rep x k.toNat)))) : ∃ w, mulSA (.str (sW x)) (.int k) = some w ∧ Φ w := r_mulSA h0 h1 (by rw [len_sW]; omega) (by rw [repS_sW]; exact p)
theorem take_parts {f : List Nat} {s : Nat} (h : 2 * s ≤ f.length) : f.take s ++ (f.drop s).take (f.length - s - s) ++ f.drop (f.length - s) = f := by
  have e1 : f.drop (f.length - s) = (f.drop s).drop (f.length - s - s) := by rw [List.drop_drop]; congr 1; omega
  rw [e1, List.append_assoc, List.take_append_drop, List.take_append_drop]
theorem f_neck {f : List Nat} (hf : AL f) (sf : Still f) (ne : f ≠ []) (nf : f.length ≤ 1000) : ∃ c m, NR f c m ∧ F_neck_and_round [.val (.str (sW f))] = some (.ok (.val (.tup [.str (sW c), .str (sW m)])) none) := by
  have n1 : 1 ≤ f.length := List.length_pos_iff.mpr ne
  -- the end of the loop
  have fin : ∀ s : Nat, 2 * s ≤ f.length → f.drop (f.length - s) = inv (f.take s) → (f.length ≤ 2 * s + 1 ∨ ∃ x y, f[s]? = some x ∧ f[f.length - 1 - s]? = some y ∧ x ≠ opp y) → NR f (f.take s) ((f.drop s).take (f.length - s - s)) := by
    intro s h2 hi hx
    have hp := take_parts h2
    rw [hi] at hp
    have hlen : ((f.drop s).take (f.length - s - s)).length = f.length - 2 * s := by rw [List.length_take, List.length_drop]; omega
    have hne : (f.drop s).take (f.length - s - s) ≠ [] := by
      intro e
      rw [e] at hlen
      have h3 : f.length = 2 * s := by simp at hlen; omega
      rw [e, List.append_nil] at hp
      rw [← hp] at sf
      obtain ⟨u, x, ex⟩ : ∃ u x, f.take s = u ++ [x] := by
        have : f.take s ≠ [] := by
          intro z
          have := congrArg List.length z
          rw [List.length_take, List.length_nil] at this
          omega
        exact ⟨_, _, (List.dropLast_concat_getLast this).symm⟩
      rw [ex, inv_app, inv_one] at sf
      have hxL : isL x := hf x (List.mem_of_mem_take (by rw [ex]; simp))
      exact Still.mid sf (opp x) x (by simp) rfl rfl
    refine ⟨hp.symm, fun a z e1 e2 => ?_, hne⟩
    have hlt : f.length ≠ 2 * s := fun e => hne (List.length_eq_zero_iff.mp (by omega))
    have ea : f[s]? = some a := by
      rw [List.head?_take, if_neg (by omega), List.head?_drop] at e1
      exact e1
    have ez : f[f.length - 1 - s]? = some z := by
      rw [List.getLast?_take, if_neg (by omega), List.getElem?_drop] at e2
      rw [show s + (f.length - s - s - 1) = f.length - 1 - s by omega] at e2
      obtain ⟨w, hw⟩ := get_ok (l := f) (j := f.length - 1 - s) (by omega)
      rw [hw] at e2 ⊢
      exact e2
    rcases hx with hx | ⟨x, y, hx, hy, hxy⟩
    · rw [show f.length - 1 - s = s by omega, ea] at ez
      cases ez
      exact fun e => opp_ne (hf.get ea) e.symm
    · rw [ea] at hx; rw [ez] at hy
      cases hx; cases hy
      exact hxy
  have main : Fp F_neck_and_round [.val (.str (sW f))] fun v o => ∃ c m, NR f c m ∧ v = .val (.tup [.str (sW c), .str (sW m)]) ∧ o = none := by
    refine f_def rfl ?_
    show X _ [_, _, _] _
    unfold B_neck_and_round
    repeat' walk_at "x"
    refine r_lenW nf ?_
    repeat' walk_at "x"
    refine x_while (fun m Γ => ∃ s : Nat, m + s = f.length ∧ 2 * s ≤ f.length ∧ f.drop (f.length - s) = inv (f.take s) ∧ Γ = [.val (.str (sW f)), .val (.int s), .val (.int (f.length - 1))]) ⟨f.length, by omega, 0, by omega, by omega, by rw [Nat.sub_zero, List.drop_length]; rfl, rfl⟩ ?_
    rintro m Γ ⟨s, hs, h2, hi, rfl⟩
    repeat' walk_at "x"
    · rename_i hlt
      have hlt : s < f.length - 1 - s := by omega
      obtain ⟨c, hc⟩ := get_ok (l := f) (j := s) (by omega)
      obtain ⟨d, hd⟩ := get_ok (l := f) (j := f.length - 1 - s) (by omega)
      refine e_ixD (ix_sW nf hc rfl) ?_
      repeat' walk_at "x"
      refine e_ixD (ix_sW nf hd (by omega)) ?_
      repeat' walk_at "x"
      refine ⟨_, swap_ch (hf.get hd), ?_⟩
      refine r_eqS (a := ch c) (b := ch (opp d)) ?_
      refine r_dec2 (fun h => ?_) (fun h => ?_)
      · have he : c = opp d := ch_inj.mp h
        repeat' walk_at "x"
        refine ⟨m - 1, by omega, s + 1, by omega, by omega, ?_, by simp⟩
        obtain ⟨q1, q2⟩ := List.getElem?_eq_some_iff.mp hd
        rw [show f.length - (s + 1) = f.length - 1 - s by omega, List.drop_eq_getElem_cons q1, q2, show f.length - 1 - s + 1 = f.length - s by omega, hi, List.take_succ, hc]
        show _ = inv (f.take s ++ [c])
        rw [inv_app, inv_one, he, opp_opp (hf.get hd)]
        rfl
      · have he : c ≠ opp d := fun x => h (ch_inj.mpr x)
        repeat' walk_at "x"
        have hN := fin s h2 hi (.inr ⟨c, d, hc, hd, he⟩)
        refine r_slLow nf (k := s) rfl (by omega) ?_
        repeat' walk_at "x"
        refine r_lenW nf ?_
        repeat' walk_at "x"
        refine r_slMid nf (a := s) (b := f.length - s) rfl (by omega) (by omega) (by omega) ?_
        repeat' walk_at "x"
        exact ⟨_, _, hN, rfl, rfl⟩
    · rename_i hlt
      have hN := fin s h2 hi (.inl (by omega))
      refine r_slLow nf (k := s) rfl (by omega) ?_
      repeat' walk_at "x"
      refine r_lenW nf ?_
      repeat' walk_at "x"
      refine r_slMid nf (a := s) (b := f.length - s) rfl (by omega) (by omega) (by omega) ?_
      repeat' walk_at "x"
      exact ⟨_, _, hN, rfl, rfl⟩
  obtain ⟨v, o, e, c, m, hN, rfl, rfl⟩ := main
  exact ⟨c, m, hN, e⟩
end Ks

set_option linter.all false
set_option maxRecDepth 100000
set_option pp.maxSteps 500
set_option maxHeartbeats 1000000
namespace Ks
open PySem PySem.Spec PyProof.Rows L2 DF TL NumText
variable [TbC]
theorem opp_Ln {n : Int} {c : Nat} (h : isLn n c) (hn : n ≤ 4) : isLn n (opp c) := by
  unfold isLn opp at *
  split <;> omega
theorem inv_Ln {n : Int} {l : List Nat} (h : ∀ c ∈ l, isLn n c) (hn : n ≤ 4) : ∀ c ∈ inv l, isLn n c := fun x hx => by
  unfold inv at hx
  obtain ⟨y, hy, e⟩ := List.mem_map.mp (List.mem_reverse.mp hx)
  rw [← e]
  exact opp_Ln (h y hy) hn
/-- a reduced word of so many letters -/
structure Wd (n : Int) (l : List Nat) : Prop where
  L : ∀ c ∈ l, isLn n c
  S : Still l
structure Nl (n : Int) : Prop where
  lo : 1 ≤ n
  hi : n ≤ 4
theorem Wd.a {n : Int} {l : List Nat} (h : Wd n l) (hn : Nl n) : AL l := fun c hc => (h.L c hc).L hn.hi
theorem Wd.inv {n : Int} {l : List Nat} (h : Wd n l) (hn : Nl n) : Wd n (Ks.inv l) := ⟨inv_Ln h.L hn.hi, inv_still (h.a hn) h.S⟩
theorem Wd.red {n : Int} {l : List Nat} (hn : Nl n) (h : ∀ c ∈ l, isLn n c) : Wd n (Ks.red l) := ⟨red_P h, red_Still fun c hc => (h c hc).L hn.hi⟩
theorem Wd.e {n : Int} {l : List Nat} (h : Wd n l) (hn : Nl n) : Ks.red l = l := red_still h.S (h.a hn)
theorem f_check {n : Int} {l : List Nat} : F_check_row [.val (rw' n l)] = some (.ok (.val .non) none) := by kernel_rfl
instance {u v : List Nat} : Decidable (Cm u v) := inferInstanceAs (Decidable (red (u ++ v) = red (v ++ u)))
theorem sW_inj {u v : List Nat} : sW u = sW v ↔ u = v := ⟨fun h => congrArg tl h, fun h => by rw [h]⟩
end Ks

set_option linter.all false
set_option maxRecDepth 100000
set_option pp.maxSteps 500
set_option maxHeartbeats 1000000
namespace Ks
open PySem PySem.Spec PyProof.Rows L2 DF TL NumText
variable [TbC]
/-! ### turns -/
def Rot (m g : List Nat) : Prop := ∃ p q, m = p ++ q ∧ g = q ++ p
theorem Rot.refl (m : List Nat) : Rot m m := ⟨[], m, rfl, (List.append_nil m).symm⟩
theorem Rot.symm {m g : List Nat} (h : Rot m g) : Rot g m := by
  obtain ⟨p, q, h1, h2⟩ := h
  exact ⟨q, p, h2, h1⟩
theorem Rot.trans {m g k : List Nat} (h : Rot m g) (h' : Rot g k) : Rot m k := by
  obtain ⟨p, q, rfl, rfl⟩ := h
  obtain ⟨r, s, e, rfl⟩ := h'
  rcases List.append_eq_append_iff.mp e with ⟨t, rfl, rfl⟩ | ⟨t, rfl, rfl⟩
  · exact ⟨t, s ++ q, by simp, by simp⟩
  · exact ⟨p ++ r, t, by simp, by simp⟩
theorem Rot.len {m g : List Nat} (h : Rot m g) : g.length = m.length := by
  obtain ⟨p, q, rfl, rfl⟩ := h
  simp only [List.length_append]
  omega
theorem Rot.P {Q : Nat → Prop} {m g : List Nat} (h : Rot m g) (k : ∀ c ∈ m, Q c) : ∀ c ∈ g, Q c := by
  obtain ⟨p, q, rfl, rfl⟩ := h
  intro c hc
  exact k c (List.mem_append.mpr (List.mem_append.mp hc).symm)
theorem Rot.ne {m g : List Nat} (h : Rot m g) (k : m ≠ []) : g ≠ [] := fun z => k (List.length_eq_zero_iff.mp (by rw [← h.len, z]; rfl))
theorem Rot.ok {m g : List Nat} (h : Rot m g) (sm : Still m) (cm : Cyc m) : Still g ∧ Cyc g := by
  obtain ⟨p, q, rfl, rfl⟩ := h
  by_cases hp : p = []
  · subst hp
    rw [List.nil_append] at sm cm
    rw [List.append_nil]
    exact ⟨sm, cm⟩
  by_cases hq : q = []
  · subst hq
    rw [List.append_nil] at sm cm
    exact ⟨sm, cm⟩
  have c1 : ∀ a z, p.head? = some a → q.getLast? = some z → a ≠ opp z := fun a z h1 h2 => cm a z (by rw [head_app hp]; exact h1) (by rw [last_app hq]; exact h2)
  refine ⟨still_app (Still.right sm) (Still.left sm) fun a z h1 h2 => c1 a z h2 h1, fun a z h1 h2 => ?_⟩
  rw [head_app hq] at h1
  rw [last_app hp] at h2
  exact Still.mid sm a z h2 h1
theorem opp_inj {x y : Nat} (hx : isL x) (hy : isL y) (h : opp x = opp y) : x = y := by rw [← opp_opp hx, h, opp_opp hy]
theorem last_of {m : List Nat} (h : m ≠ []) : ∃ r z, m = r ++ [z] := ⟨m.dropLast, m.getLast h, (List.dropLast_concat_getLast h).symm⟩
/-- a letter ahead, its opposite behind -/
theorem step4 {f c m : List Nat} {x : Nat} (af : AL f) (sf : Still f) (h : NR f c m) (hx : isL x) :
    (c = [] ∧ ∃ r, m = opp x :: r ∧ red (x :: (f ++ [opp x])) = r ++ [opp x]) ∨ (c = [] ∧ ∃ r, m = r ++ [x] ∧ red (x :: (f ++ [opp x])) = x :: r) ∨
    (∃ c2, c = opp x :: c2 ∧ red (x :: (f ++ [opp x])) = c2 ++ m ++ inv c2) ∨ (red (x :: (f ++ [opp x])) = x :: (f ++ [opp x]) ∧ NR (x :: (f ++ [opp x])) (x :: c) m) := by
  have ho := opp_L hx
  have nrD : NR (x :: (f ++ [opp x])) (x :: c) m := ⟨by rw [h.e, inv_cons]; simp, h.y, h.n⟩
  have ad : AL (x :: (f ++ [opp x])) := fun y hy => by
    rcases List.mem_cons.mp hy with rfl | hy
    · exact hx
    · rcases List.mem_append.mp hy with hy | hy
      · exact af y hy
      · rw [List.mem_singleton.mp hy]; exact ho
  have fin : (∀ a, f.head? = some a → a ≠ opp x) → (∀ z, f.getLast? = some z → x ≠ z) → red (x :: (f ++ [opp x])) = x :: (f ++ [opp x]) := fun h1 h2 => by
    have fne : f ≠ [] := fun z => h.n (by have := h.e; rw [z] at this; simp at this; exact this.2.1)
    refine red_still (l := x :: (f ++ [opp x])) ?_ ad
    refine still_app (u := x :: f) (v := [opp x]) (still_app (u := [x]) (v := f) trivial sf fun a z e1 e2 => ?_) trivial fun a z e1 e2 => ?_
    · cases e1
      exact h1 a e2
    · cases e2
      have e1 : ([x] ++ f).getLast? = some z := e1
      rw [last_app fne] at e1
      have hz : isL z := af z (List.mem_of_getLast? e1)
      exact fun e => h2 z e1 (opp_inj hx hz e)
  cases c with
  | nil =>
    have e : f = m := by have := h.e; simpa [inv] using this
    subst e
    obtain ⟨a, r, er⟩ : ∃ a r, f = a :: r := by
      cases f with
      | nil => exact absurd rfl h.n
      | cons a r => exact ⟨a, r, rfl⟩
    by_cases h1 : a = opp x
    · left
      refine ⟨rfl, r, by rw [er, h1], ?_⟩
      have hR : Rot f (r ++ [opp x]) := ⟨[opp x], r, by rw [er, h1]; rfl, rfl⟩
      have := red_cut (u := []) (v := r ++ [opp x]) AL.nil hx
      rw [er, h1]
      show red (x :: (opp x :: r ++ [opp x])) = _
      rw [show x :: (opp x :: r ++ [opp x]) = [] ++ x :: opp x :: (r ++ [opp x]) from rfl, this]
      exact red_still (hR.ok sf h.y).1 (hR.P af)
    · obtain ⟨r', z, ez⟩ := last_of h.n
      by_cases h2 : z = x
      · right; left
        refine ⟨rfl, r', by rw [ez, h2], ?_⟩
        have hR : Rot f (x :: r') := ⟨r', [x], by rw [ez, h2], rfl⟩
        have ar : AL (x :: r') := hR.P af
        have := red_cut (u := x :: r') (v := []) ar hx
        rw [ez, h2, show x :: (r' ++ [x] ++ [opp x]) = (x :: r') ++ x :: opp x :: [] by simp, this, List.append_nil]
        exact red_still (hR.ok sf h.y).1 ar
      · right; right; right
        refine ⟨fin (fun b hb => ?_) (fun b hb => ?_), nrD⟩
        · rw [er] at hb
          cases hb
          exact h1
        · rw [ez, last_app (by simp)] at hb
          cases hb
          exact fun e => h2 e.symm
  | cons y c2 =>
    have e := h.e
    rw [inv_cons] at e
    have e' : f = y :: (c2 ++ m ++ inv c2) ++ [opp y] := by rw [e]; simp
    have hy : isL y := af y (by rw [e']; simp)
    by_cases h1 : y = opp x
    · right; right; left
      refine ⟨c2, by rw [h1], ?_⟩
      have ey : opp y = x := by rw [h1, opp_opp hx]
      have s2 : Still (c2 ++ m ++ inv c2) := by
        rw [e'] at sf
        exact Still.right (u := [y]) (Still.left sf)
      have a2 : AL (c2 ++ m ++ inv c2) := fun w hw => af w (by rw [e']; simp only [List.mem_append, List.mem_cons] at hw ⊢; exact .inl (.inr hw))
      rw [e', ey, h1]
      rw [show x :: (opp x :: (c2 ++ m ++ inv c2) ++ [x] ++ [opp x]) = [] ++ x :: opp x :: ((c2 ++ m ++ inv c2) ++ x :: opp x :: []) by simp, red_cut AL.nil hx, List.nil_append, red_cut a2 hx, List.append_nil]
      exact red_still s2 a2
    · right; right; right
      refine ⟨fin (fun b hb => ?_) (fun b hb => ?_), nrD⟩
      · rw [e'] at hb
        cases hb
        exact h1
      · rw [e', last_app (by simp)] at hb
        have hb : opp y = b := by cases hb; rfl
        exact fun z => h1 (by rw [z, ← hb, opp_opp hy])
theorem conj_one {f c m : List Nat} {x : Nat} (af : AL f) (sf : Still f) (h : NR f c m) (hx : isL x) : ∃ c' m', NR (red (x :: (f ++ [opp x]))) c' m' ∧ Rot m m' := by
  have sm : Still m := by
    have := sf
    rw [h.e] at this
    exact Still.right (Still.left this)
  rcases step4 af sf h hx with ⟨rfl, r, rfl, e⟩ | ⟨rfl, r, rfl, e⟩ | ⟨c2, rfl, e⟩ | ⟨e, n⟩
  · have hR : Rot (opp x :: r) (r ++ [opp x]) := ⟨[opp x], r, rfl, rfl⟩
    exact ⟨[], r ++ [opp x], ⟨by rw [e, inv_nil]; simp, (hR.ok sm h.y).2, hR.ne h.n⟩, hR⟩
  · have hR : Rot (r ++ [x]) (x :: r) := ⟨r, [x], rfl, rfl⟩
    exact ⟨[], x :: r, ⟨by rw [e, inv_nil]; simp, (hR.ok sm h.y).2, hR.ne h.n⟩, hR⟩
  · exact ⟨c2, m, ⟨e, h.y, h.n⟩, Rot.refl m⟩
  · exact ⟨x :: c, m, by rw [e]; exact n, Rot.refl m⟩
theorem conj_all {u : List Nat} : ∀ {f c m : List Nat}, AL u → AL f → Still f → NR f c m → ∃ c' m', NR (red (u ++ f ++ inv u)) c' m' ∧ Rot m m' := by
  refine snoc_ind (P := fun u => ∀ {f c m : List Nat}, AL u → AL f → Still f → NR f c m → ∃ c' m', NR (red (u ++ f ++ inv u)) c' m' ∧ Rot m m') ?_ ?_ u
  · intro f c m _ af sf h
    rw [inv_nil, List.nil_append, List.append_nil, red_still sf af]
    exact ⟨c, m, h, Rot.refl m⟩
  · intro u x ih f c m au af sf h
    have hu : AL u := au.left
    have hx : isL x := au x (by simp)
    have a1 : AL (x :: (f ++ [opp x])) := fun y hy => by
      rcases List.mem_cons.mp hy with rfl | hy
      · exact hx
      · rcases List.mem_append.mp hy with hy | hy
        · exact af y hy
        · rw [List.mem_singleton.mp hy]; exact opp_L hx
    obtain ⟨c1, m1, n1, r1⟩ := conj_one af sf h hx
    obtain ⟨c2, m2, n2, r2⟩ := ih hu (red_L a1) (red_Still a1) n1
    refine ⟨c2, m2, ?_, r1.trans r2⟩
    have e : red (u ++ [x] ++ f ++ inv (u ++ [x])) = red (u ++ red (x :: (f ++ [opp x])) ++ inv u) := by
      rw [red_ctx hu (red_L a1) a1 (inv_AL hu) (red_red a1), inv_app, inv_one]
      congr 1
      simp
    rw [e]
    exact n2
end Ks

set_option linter.all false
set_option maxRecDepth 100000
set_option pp.maxSteps 500
set_option maxHeartbeats 1000000
namespace Ks
open PySem PySem.Spec PyProof.Rows L2 DF TL NumText
variable [TbC]
theorem neck_nil : F_neck_and_round [.val (.str (sW []))] = some (.ok (.val (.tup [.str (sW []), .str (sW [])])) none) := by kernel_rfl
def NR0 (f c m : List Nat) : Prop := (f = [] ∧ c = [] ∧ m = []) ∨ NR f c m
theorem NR0.e {f c m : List Nat} (h : NR0 f c m) : f = c ++ m ++ inv c := by
  rcases h with ⟨rfl, rfl, rfl⟩ | h
  · rfl
  · exact h.e
theorem nr0_uniq {f c m d k : List Nat} (hf : AL f) (h : NR0 f c m) (h' : NR0 f d k) : c = d ∧ m = k := by
  rcases h with ⟨e1, e2, e3⟩ | h
  · rcases h' with ⟨_, e5, e6⟩ | h'
    · exact ⟨e2.trans e5.symm, e3.trans e6.symm⟩
    · exfalso
      have := h'.e
      rw [e1] at this
      simp at this
      exact h'.n this.2.1
  · rcases h' with ⟨e1, e2, e3⟩ | h'
    · exfalso
      have := h.e
      rw [e1] at this
      simp at this
      exact h.n this.2.1
    · exact nr_uniq hf h h'
def Al (f g : List Nat) : Prop := ∃ c m d k, NR0 f c m ∧ NR0 g d k ∧ Rot m k
theorem Al.symm {f g : List Nat} (h : Al f g) : Al g f := by
  obtain ⟨c, m, d, k, h1, h2, h3⟩ := h
  exact ⟨d, k, c, m, h2, h1, h3.symm⟩
theorem f_neck0 {f : List Nat} (hf : AL f) (sf : Still f) (nf : f.length ≤ 1000) : ∃ c m, NR0 f c m ∧ F_neck_and_round [.val (.str (sW f))] = some (.ok (.val (.tup [.str (sW c), .str (sW m)])) none) := by
  by_cases h : f = []
  · subst h
    exact ⟨[], [], .inl ⟨rfl, rfl, rfl⟩, neck_nil⟩
  · obtain ⟨c, m, h1, h2⟩ := f_neck hf sf h nf
    exact ⟨c, m, .inr h1, h2⟩
theorem inv_red {w : List Nat} (hw : AL w) : red (inv (red w)) = red (inv w) := by
  have h1 := red_pair (a := []) (b := []) AL.nil (red_L hw)
  have h2 := red_pair (a := []) (b := []) AL.nil hw
  simp only [List.nil_append, List.append_nil] at h1 h2
  refine (can_l (red_L hw) (inv_AL (red_L hw)) (inv_AL hw)).mp ?_
  rw [h1, red_left hw, h2]
/-- what puts the one in the place of the other -/
theorem shown {f g c d p q : List Nat} (hf : AL f) (hg : AL g) (sg : Still g) (ef : f = c ++ (p ++ q) ++ inv c) (eg : g = d ++ (q ++ p) ++ inv d) :
    red (red (red (d ++ inv p) ++ inv c) ++ f ++ inv (red (red (d ++ inv p) ++ inv c))) = g := by
  have ac : AL c := by rw [ef, List.append_assoc] at hf; exact hf.left
  have apq : AL (p ++ q) := by rw [ef, List.append_assoc] at hf; exact hf.right.left
  have ad : AL d := by rw [eg, List.append_assoc] at hg; exact hg.left
  have ap := apq.left
  have aq := apq.right
  have aw : AL (d ++ inv p ++ inv c) := (ad.app (inv_AL ap)).app (inv_AL ac)
  rw [red_left (ad.app (inv_AL ap))]
  have e1 : red (red (d ++ inv p ++ inv c) ++ f ++ inv (red (d ++ inv p ++ inv c))) = red ((d ++ inv p ++ inv c) ++ f ++ inv (d ++ inv p ++ inv c)) := by
    rw [List.append_assoc, red_left aw, ← List.append_assoc]
    exact red_l (aw.app hf) (inv_AL (red_L aw)) (inv_AL aw) (inv_red aw)
  rw [e1]
  have e2 : inv (d ++ inv p ++ inv c) = c ++ (p ++ inv d) := by
    rw [inv_app, inv_app, inv_inv ac, inv_inv ap]
  rw [e2, ef]
  have s1 : red (d ++ inv p ++ inv c ++ (c ++ (p ++ q) ++ inv c) ++ (c ++ (p ++ inv d))) = red ((d ++ inv p) ++ (inv c ++ c) ++ ((p ++ q) ++ inv c ++ (c ++ (p ++ inv d)))) := by
    congr 1
    simp only [List.append_assoc]
  rw [s1, red_pair' (ad.app (inv_AL ap)) ac]
  have s2 : red (d ++ inv p ++ ((p ++ q) ++ inv c ++ (c ++ (p ++ inv d)))) = red ((d ++ inv p ++ (p ++ q)) ++ (inv c ++ c) ++ (p ++ inv d)) := by
    congr 1
    simp only [List.append_assoc]
  rw [s2, red_pair' ((ad.app (inv_AL ap)).app apq) ac]
  have s3 : red (d ++ inv p ++ (p ++ q) ++ (p ++ inv d)) = red (d ++ (inv p ++ p) ++ (q ++ (p ++ inv d))) := by
    congr 1
    simp only [List.append_assoc]
  rw [s3, red_pair' ad ap]
  have s4 : d ++ (q ++ (p ++ inv d)) = g := by
    rw [eg]
    simp only [List.append_assoc]
  rw [s4]
  exact red_still sg hg
end Ks

set_option linter.all false
set_option maxRecDepth 100000
set_option pp.maxSteps 500
set_option maxHeartbeats 1000000
namespace Ks
open PySem PySem.Spec PyProof.Rows L2 DF TL NumText
variable [TbC]
end Ks

set_option linter.all false
set_option maxRecDepth 100000
set_option pp.maxSteps 500
set_option maxHeartbeats 1000000
namespace Ks
open PySem PySem.Spec PyProof.Rows L2 DF TL NumText
variable [TbC]
/-! ### the words around a word -/
def Nb (n : Int) (g h : List Nat) : Prop := ∃ x, isLn n x ∧ h = red (x :: (g ++ [opp x])) ∧ h.length ≤ g.length
def InB (c m g : List Nat) : Prop := (∃ j, j ≤ c.length ∧ g = c.drop j ++ m ++ inv (c.drop j)) ∨ Rot m g
theorem strip_len (c m : List Nat) (j : Nat) : (c.drop j ++ m ++ inv (c.drop j)).length = m.length + 2 * (c.length - j) := by
  simp only [List.length_append, inv_len, List.length_drop]
  omega
structure Base (n : Int) (w c m : List Nat) : Prop where
  nl : Nl n
  wd : Wd n w
  r : NR0 w c m
theorem Base.m_wd {n : Int} {w c m : List Nat} (b : Base n w c m) : Wd n m := by
  have e := b.r.e
  have s := b.wd.S
  rw [e] at s
  exact ⟨fun x hx => b.wd.L x (by rw [e]; simp [hx]), Still.right (Still.left s)⟩
theorem Base.cyc {n : Int} {w c m : List Nat} (b : Base n w c m) : Cyc m := by
  rcases b.r with ⟨_, _, rfl⟩ | h
  · intro a z h1
    cases h1
  · exact h.y
theorem Base.strip_wd {n : Int} {w c m : List Nat} (b : Base n w c m) (j : Nat) : Wd n (c.drop j ++ m ++ inv (c.drop j)) := by
  have e : w = c.take j ++ (c.drop j ++ m ++ inv (c.drop j)) ++ inv (c.take j) := by
    have h1 : c = c.take j ++ c.drop j := (List.take_append_drop j c).symm
    have h2 : inv c = inv (c.drop j) ++ inv (c.take j) := by
      conv => lhs; rw [h1]
      exact inv_app _ _
    calc w = c ++ m ++ inv c := b.r.e
      _ = (c.take j ++ c.drop j) ++ m ++ (inv (c.drop j) ++ inv (c.take j)) := by rw [← h2, ← h1]
      _ = _ := by simp only [List.append_assoc]
  have s := b.wd.S
  rw [e] at s
  exact ⟨fun x hx => b.wd.L x (by rw [e]; exact List.mem_append.mpr (.inl (List.mem_append.mpr (.inr hx)))), Still.right (Still.left s)⟩
theorem Base.inB_wd {n : Int} {w c m g : List Nat} (b : Base n w c m) (h : InB c m g) : Wd n g := by
  rcases h with ⟨j, _, rfl⟩ | h
  · exact b.strip_wd j
  · exact ⟨h.P b.m_wd.L, (h.ok b.m_wd.S b.cyc).1⟩
theorem Base.len {n : Int} {w c m : List Nat} (b : Base n w c m) : w.length = m.length + 2 * c.length := by
  have := congrArg List.length b.r.e
  simp only [List.length_append, inv_len] at this
  omega
theorem Base.inB_len {n : Int} {w c m g : List Nat} (b : Base n w c m) (h : InB c m g) : m.length ≤ g.length ∧ g.length ≤ w.length ∧ (g.length = m.length → Rot m g) := by
  have hl := b.len
  rcases h with ⟨j, hj, rfl⟩ | h
  · rw [strip_len]
    refine ⟨by omega, by omega, fun e => ?_⟩
    have : j = c.length := by omega
    rw [this, List.drop_length, inv_nil, List.nil_append, List.append_nil]
    exact Rot.refl m
  · rw [h.len]
    exact ⟨Nat.le_refl _, by omega, fun _ => h⟩
theorem one_red {x : Nat} (hx : isL x) : red [x, opp x] = [] := red_cut (u := []) (v := []) AL.nil hx
theorem no_grow {x : Nat} {g : List Nat} (h : red (x :: (g ++ [opp x])) = x :: (g ++ [opp x])) (k : (red (x :: (g ++ [opp x]))).length ≤ g.length) : False := by
  rw [h] at k
  simp at k
  omega
theorem Base.nb {n : Int} {w c m g h : List Nat} (b : Base n w c m) (hg : InB c m g) (k : Nb n g h) : InB c m h := by
  obtain ⟨x, hx, rfl, hl⟩ := k
  have hxl := hx.L b.nl.hi
  have gw := b.inB_wd hg
  have ag := gw.a b.nl
  rcases b.r with ⟨rfl, rfl, rfl⟩ | r
  · have : g = [] := by
      rcases hg with ⟨j, _, rfl⟩ | hg
      · simp [inv]
      · exact List.length_eq_zero_iff.mp hg.len
    subst this
    show InB [] [] (red [x, opp x])
    rw [one_red hxl]
    exact .inr (Rot.refl _)
  · rcases hg with ⟨j, hj, rfl⟩ | hg
    · have nr : NR (c.drop j ++ m ++ inv (c.drop j)) (c.drop j) m := ⟨rfl, r.y, r.n⟩
      rcases step4 ag gw.S nr hxl with ⟨_, q, em, e⟩ | ⟨_, q, em, e⟩ | ⟨c2, ec, e⟩ | ⟨e, _⟩
      · rw [e]
        exact .inr ⟨[opp x], q, em, rfl⟩
      · rw [e]
        exact .inr ⟨q, [x], em, rfl⟩
      · rw [e]
        left
        have e2 : c2 = c.drop (j + 1) := by
          rw [← List.drop_drop, ec]
          rfl
        refine ⟨j + 1, ?_, by rw [e2]⟩
        have := congrArg List.length ec
        rw [List.length_drop, List.length_cons] at this
        omega
      · exact (no_grow e hl).elim
    · have gk := hg.ok b.m_wd.S b.cyc
      have nr : NR g [] g := ⟨by rw [inv_nil]; simp, gk.2, hg.ne r.n⟩
      rcases step4 ag gw.S nr hxl with ⟨_, q, em, e⟩ | ⟨_, q, em, e⟩ | ⟨c2, ec, e⟩ | ⟨e, _⟩
      · rw [e]
        exact .inr (hg.trans ⟨[opp x], q, em, rfl⟩)
      · rw [e]
        exact .inr (hg.trans ⟨q, [x], em, rfl⟩)
      · cases ec
      · exact (no_grow e hl).elim
theorem still_head {x y : Nat} {r : List Nat} (h : Still (x :: y :: r)) : y ≠ opp x := h.1
/-- what is closed holds all turns -/
theorem Base.all {n : Int} {w c m : List Nat} {S : List (List Nat)} (b : Base n w c m) (hw : w ∈ S) (hc : ∀ g ∈ S, ∀ h, Nb n g h → h ∈ S) {g : List Nat} (hg : Rot m g) : g ∈ S := by
  rcases b.r with ⟨rfl, rfl, rfl⟩ | r
  · rw [List.length_eq_zero_iff.mp hg.len]
    exact hw
  have strips : ∀ j, j ≤ c.length → c.drop j ++ m ++ inv (c.drop j) ∈ S := by
    intro j
    induction j with
    | zero =>
      intro _
      rw [List.drop_zero, ← r.e]
      exact hw
    | succ j ih =>
      intro hj
      have h0 := ih (by omega)
      obtain ⟨y, ey⟩ : ∃ y, c.drop j = y :: c.drop (j + 1) := ⟨c[j], (List.drop_eq_getElem_cons (by omega))⟩
      have gw := b.strip_wd j
      have hy : isLn n y := gw.L y (by rw [ey]; simp)
      have hyl := hy.L b.nl.hi
      have nr : NR (c.drop j ++ m ++ inv (c.drop j)) (c.drop j) m := ⟨rfl, r.y, r.n⟩
      have hx := opp_L hyl
      refine hc _ h0 _ ⟨opp y, opp_Ln hy b.nl.hi, ?_, ?_⟩
      · rcases step4 (gw.a b.nl) gw.S nr hx with ⟨z, _⟩ | ⟨z, _⟩ | ⟨c2, ec, e⟩ | ⟨e, nn⟩
        · rw [ey] at z; cases z
        · rw [ey] at z; cases z
        · rw [e]
          rw [ey] at ec
          obtain ⟨_, rfl⟩ := List.cons.inj ec
          rfl
        · exfalso
          have s : Still (opp y :: (c.drop j ++ m ++ inv (c.drop j) ++ [opp (opp y)])) := by
            rw [← e]
            refine red_Still fun z hz => ?_
            rcases List.mem_cons.mp hz with rfl | hz
            · exact hx
            · rcases List.mem_append.mp hz with hz | hz
              · exact gw.a b.nl z hz
              · rw [List.mem_singleton.mp hz, opp_opp hyl]; exact hyl
          rw [ey] at s
          exact still_head s (opp_opp hyl).symm
      · rw [strip_len, strip_len]
        omega
  have m0 : m ∈ S := by
    have := strips c.length (Nat.le_refl _)
    rwa [List.drop_length, inv_nil, List.nil_append, List.append_nil] at this
  have turn : ∀ a q, Rot m (a :: q) → a :: q ∈ S → q ++ [a] ∈ S := by
    intro a q hR h0
    have gk := hR.ok b.m_wd.S b.cyc
    have gL := hR.P b.m_wd.L
    have ga : isLn n a := gL a List.mem_cons_self
    have hal := ga.L b.nl.hi
    have ag : AL (a :: q) := fun z hz => (gL z hz).L b.nl.hi
    have nr : NR (a :: q) [] (a :: q) := ⟨by rw [inv_nil]; simp, gk.2, by simp⟩
    have hx := opp_L hal
    refine hc _ h0 _ ⟨opp a, opp_Ln ga b.nl.hi, ?_, by simp⟩
    rcases step4 ag gk.1 nr hx with ⟨_, q', em, e⟩ | ⟨_, q', em, e⟩ | ⟨c2, ec, e⟩ | ⟨e, nn⟩
    · rw [e]
      rw [opp_opp hal] at em ⊢
      obtain ⟨_, rfl⟩ := List.cons.inj em
      rfl
    · exfalso
      refine gk.2 a (opp a) rfl (by rw [em]; simp) (opp_opp hal).symm
    · cases ec
    · exfalso
      have s : Still (opp a :: (a :: q ++ [opp (opp a)])) := by
        rw [← e]
        refine red_Still fun z hz => ?_
        rcases List.mem_cons.mp hz with rfl | hz
        · exact hx
        · rcases List.mem_append.mp hz with hz | hz
          · exact ag z hz
          · rw [List.mem_singleton.mp hz, opp_opp hal]; exact hal
      exact still_head s (opp_opp hal).symm
  have many : ∀ p q, Rot m (p ++ q) → p ++ q ∈ S → q ++ p ∈ S := by
    intro p
    induction p with
    | nil =>
      intro q _ h
      rwa [List.append_nil]
    | cons a p ih =>
      intro q hR h
      have h1 := turn a (p ++ q) hR h
      have hR1 : Rot m (p ++ (q ++ [a])) := hR.trans ⟨[a], p ++ q, rfl, by simp⟩
      have := ih (q ++ [a]) hR1 (by rw [← List.append_assoc]; exact h1)
      rwa [List.append_assoc] at this
  obtain ⟨p, q, e1, rfl⟩ := hg
  exact many p q ⟨[], p ++ q, by rw [e1]; rfl, by simp⟩ (by rw [← e1]; exact m0)
/-- how many they can be -/
def allB (c m : List Nat) : List (List Nat) := (List.range (c.length + 1)).map (fun j => c.drop j ++ m ++ inv (c.drop j)) ++ (List.range m.length).map fun i => m.drop i ++ m.take i
theorem inB_all {c m g : List Nat} (h : InB c m g) : g ∈ allB c m := by
  unfold allB
  rw [List.mem_append, List.mem_map, List.mem_map]
  rcases h with ⟨j, hj, rfl⟩ | ⟨p, q, e, rfl⟩
  · exact .inl ⟨j, List.mem_range.mpr (by omega), rfl⟩
  · by_cases hq : q = []
    · subst hq
      left
      refine ⟨c.length, List.mem_range.mpr (by omega), ?_⟩
      rw [List.drop_length, inv_nil, e]
      simp
    · right
      refine ⟨p.length, List.mem_range.mpr ?_, ?_⟩
      · rw [e, List.length_append]
        have := List.length_pos_iff.mpr hq
        omega
      · rw [e, List.drop_left, List.take_left]
theorem nodup_le : ∀ {l k : List (List Nat)}, l.Nodup → (∀ x ∈ l, x ∈ k) → l.length ≤ k.length
  | [], _, _, _ => Nat.zero_le _
  | a :: l, k, hn, hs => by
    have hn := List.nodup_cons.mp hn
    have ha := hs a List.mem_cons_self
    have := nodup_le (l := l) (k := k.erase a) hn.2 fun x hx => (List.mem_erase_of_ne (fun e => hn.1 (by rw [← e]; exact hx))).mpr (hs x (List.mem_cons_of_mem _ hx))
    rw [List.length_erase_of_mem ha] at this
    have := List.length_pos_iff.mpr (List.ne_nil_of_mem ha)
    rw [List.length_cons]
    omega
theorem Base.few {n : Int} {w c m : List Nat} (b : Base n w c m) {S : List (List Nat)} (hn : S.Nodup) (hs : ∀ g ∈ S, InB c m g) : S.length ≤ w.length + 1 := by
  have h1 := nodup_le hn fun x hx => inB_all (hs x hx)
  have h2 : (allB c m).length = c.length + 1 + m.length := by
    unfold allB
    rw [List.length_append, List.length_map, List.length_map, List.length_range, List.length_range]
  have := b.len
  omega
end Ks

set_option linter.all false
set_option maxRecDepth 100000
set_option pp.maxSteps 500
set_option maxHeartbeats 1000000
namespace Ks
open PySem PySem.Spec PyProof.Rows L2 DF TL NumText
variable [TbC]
/-! ### one step -/
local macro_rules | `(tactic| walk_at "set") => `(tactic| (refine' e_set ?qa ?_; (case qa => (simp only [wipeF, backF, List.set, List.getD_cons_succ, List.getD_cons_zero, Int.reduceToNat]; rfl))))
local macro_rules | `(tactic| walk_at "cnd") => `(tactic| first | assumption | decide | omega)
local macro_rules | `(tactic| walk_at "mul") => `(tactic| first | exact mulOk_r (by decide) (by decide) | exact mulOk_l (by decide) (by decide) | exact mulOk_l (by omega) (by omega) | exact mulOk_r (by omega) (by omega))
local macro_rules | `(tactic| walk_at "x") => `(tactic| first
  | with_reducible apply x_seq
  | with_reducible apply k_nx
  | with_reducible apply k_rt
  | with_reducible apply x_nx
  | with_reducible refine x_asgK (fa := fLstO _) ?_
  | with_reducible refine x_asgK (fa := fLcO _ _ _ _ _) ?_
  | with_reducible apply ak_own
  | with_reducible apply ak_val
  | with_reducible apply x_asg
  | with_reducible refine x_retK (fa := fLstO _) ?_
  | with_reducible apply rk_own
  | with_reducible apply x_ret
  | with_reducible apply x_ifS
  | with_reducible apply x_asgG
  | with_reducible apply x_drop
  | with_reducible apply x_par
  | with_reducible apply x_par3
  | with_reducible apply x_asg3
  | with_reducible apply x_for
  | with_reducible refine x_aug ⟨_, rfl, ?_⟩
  | with_reducible apply xv_c
  | (with_reducible refine xv_var rfl ?_)
  | (with_reducible refine x_varV rfl ?_)
  | (with_reducible refine x_varO rfl ?_)
  | with_reducible apply xv_op
  | with_reducible apply xv_un
  | with_reducible apply xv_cb
  | with_reducible apply xs_nil
  | with_reducible apply xs_cons
  | with_reducible apply xa_nil
  | with_reducible apply xa_cons
  | with_reducible apply xv_tup
  | with_reducible apply xv_lst
  | with_reducible apply x_lstO
  | with_reducible apply xv_if
  | with_reducible apply xv_andV
  | with_reducible apply xv_orV
  | with_reducible apply xv_notV
  | with_reducible apply xv_isN
  | with_reducible apply xv_notN
  | with_reducible apply xt_test
  | with_reducible apply xt_tru
  | with_reducible apply xt_not
  | with_reducible apply xt_and
  | with_reducible apply xt_or
  | with_reducible apply xt_yes
  | with_reducible apply xv_call
  | with_reducible apply xv_callN
  | with_reducible apply xv_cmeth
  | with_reducible apply xv_cmethN
  | with_reducible apply xv_fld
  | with_reducible apply xv_prop
  | with_reducible apply x_setF
  | with_reducible apply xv_make
  | with_reducible apply xv_makeN
  | (with_reducible refine xv_makeL rfl ?_)
  | with_reducible apply xg_name
  | with_reducible apply xg_nil
  | with_reducible apply xg_cons
  | (with_reducible refine xg_tup rfl ?_)
  | (with_reducible refine xg_unl rfl ?_)
  | (with_reducible refine xg_sub rfl ?_)
  | (with_reducible refine xv_ixO rfl ?_)
  | ((with_reducible refine' xv_pk ?qa ?_); (case qa => (simp only [List.map, seeO, odD]; rfl)))
  | ((with_reducible refine' xt_pk ?qa ?_); (case qa => (simp only [List.map, seeO, odD]; rfl)))
  | with_reducible apply xv_bm
  | with_reducible apply xv_bm0
  | with_reducible apply xv_sl
  | with_reducible apply xo_no
  | with_reducible apply xo_some
  | with_reducible apply xv_revS
  | with_reducible apply xv_revL
  | with_reducible apply xv_fmt
  | with_reducible apply xw_any
  | with_reducible apply xw_rng1
  | with_reducible apply xw_rng2
  | with_reducible apply xv_lc
  | with_reducible apply vk_val
  | with_reducible apply bk_none
  | with_reducible apply bk_tmp
  | (with_reducible refine bk_slot rfl ?_)
  | with_reducible apply rk_val
  | with_reducible apply fk_nx
  | with_reducible apply fk_rt
  | ((with_reducible refine' e_par ?qa ?_); (case qa => (simp only [List.set]; rfl)))
  | ((with_reducible refine' e_par3 ?qa ?_); (case qa => (simp only [List.set]; rfl)))
  | ((with_reducible refine' e_ixO ?qa ?qb ?_); (case qa => exact rfl); (case qb => exact rfl))
  | ((with_reducible refine' e_sub ?qa ?qb ?qc ?_); (case qa => exact rfl); (case qb => exact rfl); (case qc => (simp only [List.set, Int.reduceToNat]; rfl)))
  | ((with_reducible refine' e_setF ?qa ?qb ?qc ?_); (case qa => exact rfl); (case qb => (simp only [List.length_cons, List.length_nil]; decide)); (case qc => (simp only [List.set, Int.reduceToNat]; rfl)))
  | ((with_reducible refine' e_fields ?qa ?qb ?_); (case qa => exact rfl); (case qb => exact rfl))
  | ((with_reducible refine' e_has ?qa ?_); (case qa => exact rfl))
  | with_reducible apply r_addI
  | with_reducible apply r_sub
  | with_reducible apply r_lt
  | with_reducible apply r_gt
  | with_reducible apply r_le
  | with_reducible apply r_ge
  | with_reducible apply r_int
  | with_reducible apply r_intB
  | with_reducible apply r_abs
  | with_reducible refine r_dec2 (fun h => ?_) (fun h => ?_)
  | with_reducible refine r_decN2 (fun h => ?_) (fun h => ?_)
  | with_reducible refine r_decM2 (fun h => ?_) (fun h => ?_)
  | with_reducible apply r_bool
  | with_reducible apply r_truB
  | with_reducible apply r_len
  | with_reducible apply r_lenS
  | with_reducible apply r_orEqS
  | with_reducible apply r_orNeS
  | with_reducible apply r_orEqI
  | with_reducible apply r_orNeI
  | with_reducible apply xv_joined
  | with_reducible apply xj_cons
  | with_reducible apply xj_nil
  | with_reducible apply r_eqI
  | with_reducible apply r_neI
  | with_reducible apply r_eqS
  | with_reducible apply r_neS
  | ((with_reducible refine' e_addD ?qa ?_); (case qa => exact rfl))
  | ((with_reducible refine' e_subD ?qa ?_); (case qa => exact rfl))
  | ((with_reducible refine' r_mul ?qa ?_); (case qa => walk_at "mul"))
  | ((with_reducible refine' r_mod ?qa ?_); (case qa => walk_at "cnd"))
  | ((with_reducible refine' r_fdiv ?qa ?qb ?_); (case qa => walk_at "cnd"); (case qb => walk_at "cnd"))
  | ((with_reducible refine' r_divmod ?qa ?qb ?_); (case qa => walk_at "cnd"); (case qb => walk_at "cnd"))
  | ((with_reducible refine' e_ltD ?qa ?_); (case qa => exact rfl))
  | ((with_reducible refine' e_leD ?qa ?_); (case qa => exact rfl))
  | ((with_reducible refine' e_gtD ?qa ?_); (case qa => exact rfl))
  | ((with_reducible refine' e_geD ?qa ?_); (case qa => exact rfl))
  | ((with_reducible refine' e_negD ?qa ?_); (case qa => exact rfl))
  | ((with_reducible refine' e_ixD ?qa ?_); (case qa => exact rfl))
  | ((with_reducible refine' e_intD ?qa ?_); (case qa => exact rfl))
  | ((with_reducible refine' e_absD ?qa ?_); (case qa => exact rfl))
  | ((with_reducible refine' e_intOf ?qa ?_); (case qa => exact rfl))
  | ((with_reducible refine' e_tupOf ?qa ?_); (case qa => exact rfl))
  | ((with_reducible refine' e_lstOf ?qa ?_); (case qa => exact rfl))
  | ((with_reducible refine' e2_boolOf ?qa ?_ ?_); (case qa => exact rfl))
  | ((with_reducible refine' e_boolOf ?qa ?_); (case qa => exact rfl))
  | ((with_reducible refine' e_truD ?qa ?_); (case qa => exact rfl))
  | ((with_reducible refine' e_itemsOf ?qa ?_); (case qa => exact rfl))
  | ((with_reducible refine' e_slD ?qa ?_); (case qa => exact rfl))
  | ((with_reducible refine' e_isiD ?qa ?_); (case qa => exact rfl))
  | ((with_reducible refine' e_boolI ?qa ?_); (case qa => exact rfl))
  | ((with_reducible refine' e_rng ?qa ?_); (case qa => exact ⟨by omega, by omega⟩))
  | with_reducible apply e_some
  | with_reducible apply e_str
  | with_reducible apply e_rev
  | ((with_reducible refine' en_val ?qa ?_); (case qa => exact rfl))
  | ((with_reducible refine' en_own ?qa ?_); (case qa => exact rfl))
  | ((with_reducible refine' en_nx ?qa ?_); (case qa => exact rfl))
  | with_reducible apply x_call
  | with_reducible refine x_ofV (fa := fC _) ?_
  | with_reducible refine x_ofV (fa := fOp _ _ _) ?_
  | with_reducible refine x_ofV (fa := fUn _ _) ?_
  | with_reducible refine x_ofV (fa := fCB _ _) ?_
  | with_reducible refine x_ofV (fa := fTup _) ?_
  | with_reducible refine x_ofV (fa := fLst _) ?_
  | with_reducible refine x_ofV (fa := fBM _ _ _ _) ?_
  | with_reducible refine x_ofV (fa := fBM0 _ _ _) ?_
  | with_reducible refine x_ofV (fa := fLc _ _ _ _ _) ?_
  | with_reducible refine x_ofV (fa := fFld _ _ _) ?_
  | with_reducible refine x_ofV (fa := fProp _ _ _) ?_
  | with_reducible refine x_ofV (fa := fMake _ _ _) ?_
  | with_reducible refine x_ofV (fa := fMakeN _ _ _ _ _ _ _) ?_
  | with_reducible refine x_ofV (fa := fSl _ _ _) ?_
  | with_reducible refine x_ofV (fa := fJoined _) ?_
  | with_reducible refine x_ofV (fa := fAndV _ _) ?_
  | with_reducible refine x_ofV (fa := fOrV _ _) ?_
  | with_reducible refine x_ofV (fa := fNotV _) ?_
  | with_reducible refine x_ofV (fa := fIf _ _ _) ?_
  | with_reducible refine x_ofV (fa := fIxO _ _) ?_
  | with_reducible refine x_ofV (fa := fCMeth _ _ _) ?_
  | with_reducible refine x_ofV (fa := fCMethN _ _ _ _ _) ?_
  | with_reducible refine x_ofV (fa := fCallN _ _ _ _ _ _) ?_
  | with_reducible refine x_ofV (fa := fIsN _) ?_
  | with_reducible refine x_ofV (fa := fNotN _) ?_
  | with_reducible apply xl_nil
  | with_reducible refine xl_cons rfl ?_
  | (refine And.intro (show List.length _ ≤ 16777216 from by simp only [List.length_cons, List.length_nil]; decide) ?_)
  | (refine And.intro (show tyS _ = some _ from rfl) ?_)
  | (refine And.intro (show flat _ = true from rfl) ?_)
  | (refine And.intro (show List.length _ = _ from rfl) ?_)
  | (refine And.intro (show List.length _ < 16777216 from by simp only [List.length_cons, List.length_nil]; decide) ?_)
  | (refine And.intro (show List.map isOwn _ = List.map isOwn _ from rfl) ?_)
  | with_reducible apply tt_intro
  | with_reducible apply nt_intro
  | with_reducible apply nnf_intro
  | with_reducible apply nnt_intro
  | with_reducible apply nf_intro
  | with_reducible apply ff_intro
  | walk_at "set")
theorem menus2 {n : Int} (hn : Nl n) : ∃ a b : List Nat, slD (.str "abcd") none (some n) = some (.str (sW a)) ∧ slD (.str "ABCD") none (some n) = some (.str (sW b)) ∧ a.length ≤ 4 ∧ b.length ≤ 4 ∧ ∀ c, c ∈ a ++ b ↔ isLn n c := by
  have h1 := hn.lo
  have h2 := hn.hi
  have : n = 1 ∨ n = 2 ∨ n = 3 ∨ n = 4 := by omega
  have t1 : sW [97] = Str.ofString "a" ∧ sW [65] = Str.ofString "A" := ⟨ext_tl (by decide +kernel), ext_tl (by decide +kernel)⟩
  have t2 : sW [97, 98] = Str.ofString "ab" ∧ sW [65, 66] = Str.ofString "AB" := ⟨ext_tl (by decide +kernel), ext_tl (by decide +kernel)⟩
  have t3 : sW [97, 98, 99] = Str.ofString "abc" ∧ sW [65, 66, 67] = Str.ofString "ABC" := ⟨ext_tl (by decide +kernel), ext_tl (by decide +kernel)⟩
  have t4 : sW [97, 98, 99, 100] = Str.ofString "abcd" ∧ sW [65, 66, 67, 68] = Str.ofString "ABCD" := ⟨ext_tl (by decide +kernel), ext_tl (by decide +kernel)⟩
  rcases this with e | e | e | e <;> subst e
  · refine ⟨[97], [65], ?_, ?_, by decide, by decide, fun c => ?_⟩
    · rw [t1.1]; kernel_rfl
    · rw [t1.2]; kernel_rfl
    · unfold isLn; simp; omega
  · refine ⟨[97, 98], [65, 66], ?_, ?_, by decide, by decide, fun c => ?_⟩
    · rw [t2.1]; kernel_rfl
    · rw [t2.2]; kernel_rfl
    · unfold isLn; simp; omega
  · refine ⟨[97, 98, 99], [65, 66, 67], ?_, ?_, by decide, by decide, fun c => ?_⟩
    · rw [t3.1]; kernel_rfl
    · rw [t3.2]; kernel_rfl
    · unfold isLn; simp; omega
  · refine ⟨[97, 98, 99, 100], [65, 66, 67, 68], ?_, ?_, by decide, by decide, fun c => ?_⟩
    · rw [t4.1]; kernel_rfl
    · rw [t4.2]; kernel_rfl
    · unfold isLn; simp; omega
abbrev wD (l : List Nat) : D := .str (sW l)
theorem wD_map (L : List (List Nat)) : L.map wD = (L.map sW).map D.str := by rw [List.map_map]; rfl
theorem AL.code {l : List Nat} (h : AL l) : ∀ c ∈ tl (sW l), c < 1114112 := fun c hc => by
  have := h c hc
  unfold isL at this
  omega
theorem codes {L : List (List Nat)} (h : ∀ w ∈ L, AL w) : ∀ z ∈ L.map sW, ∀ c ∈ tl z, c < 1114112 := fun z hz => by
  obtain ⟨w, hw, rfl⟩ := List.mem_map.mp hz
  exact (h w hw).code
theorem mem_sW {a : List Nat} {L : List (List Nat)} : sW a ∈ L.map sW ↔ a ∈ L := by
  rw [List.mem_map]
  exact ⟨fun ⟨x, h, e⟩ => by rwa [sW_inj.mp e] at h, fun h => ⟨a, h, rfl⟩⟩
theorem r_notW {a : List Nat} {L : List (List Nat)} {Φ : D → Prop} (ha : AL a) (h : ∀ w ∈ L, AL w) (p : Φ (.bl !(decide (a ∈ L)))) : ∃ z, notInLD (wD a) (.lst (L.map wD)) = some z ∧ Φ z := by
  rw [wD_map]
  refine r_notInStrs ha.code (codes h) ?_
  rw [show decide (sW a ∈ L.map sW) = decide (a ∈ L) from decide_eq_decide.mpr mem_sW]
  exact p
structure Bfs (n : Int) (w c m : List Nat) (E F : List (List Nat)) : Prop where
  nd : F.Nodup
  ib : ∀ g ∈ F, InB c m g
  ef : ∀ g ∈ E, g ∈ F
  cl : ∀ g ∈ F, g ∉ E → ∀ h, Nb n g h → h ∈ F
  w : w ∈ F
theorem f_shortest {n : Int} {w : List Nat} (hn : Nl n) (hw : Wd n w) (nw : w.length ≤ 40) : ∃ (c m : List Nat) (R : List (List Nat)), NR0 w c m ∧ R.Nodup ∧ (∀ g, g ∈ R ↔ Rot m g) ∧
    F_l_shortest [.val (.int n), .val (.str (sW w))] = some (.ok (.val (.lst ((sortS (R.map sW)).map .str))) none) := by
  obtain ⟨c, m, hr, _⟩ := f_neck0 (hw.a hn) hw.S (by omega)
  have b : Base n w c m := ⟨hn, hw, hr⟩
  obtain ⟨wa, wb, ea, eb, la, lb, hab⟩ := menus2 hn
  have ea' : cutS (Str.ofString "abcd") none (some n) = sW wa := by
    have h : some (D.str (cutS (Str.ofString "abcd") none (some n))) = some (D.str (sW wa)) := by rw [← ea]; rfl
    cases h
    rfl
  have eb' : cutS (Str.ofString "ABCD") none (some n) = sW wb := by
    have h : some (D.str (cutS (Str.ofString "ABCD") none (some n))) = some (D.str (sW wb)) := by rw [← eb]; rfl
    cases h
    rfl
  suffices h : Fp F_l_shortest [.val (.int n), .val (.str (sW w))] fun v o => (∃ R : List (List Nat), R.Nodup ∧ (∀ g, g ∈ R ↔ Rot m g) ∧ v = .val (.lst ((sortS (R.map sW)).map .str))) ∧ o = none by
    obtain ⟨v, o, e, ⟨R, h1, h2, rfl⟩, rfl⟩ := h
    exact ⟨c, m, R, hr, h1, h2, e⟩
  refine f_def rfl ?_
  show X _ [_, _, _, _, _, _, _, _, _, _, _] _
  unfold B_l_shortest
  refine x_seq (x_parO ?_)
  repeat' walk_at "x"
  refine ⟨_, _, rfl, _, rfl, ?_⟩
  refine x_seq (X.imp (Φ := fun v Γ' => v = .nx ∧ ∃ (F : List (List Nat)) (s2 s4 s6 s7 s8 s9 : Sl), Bfs n w c m [] F ∧ Γ' = [.val (.int n), .val (wD w), s2, .own 0 (.lst (F.map wD)), s4, .no, s6, s7, s8, s9, .no]) ?_ ?_)
  · repeat' walk_at "x"
    refine x_forL (fun ds Γ => ∃ (t : Nat) (E F : List (List Nat)) (s4 s6 s7 s8 s9 : Sl), ds = rangeD t 500 ∧ t ≤ 500 ∧ Bfs n w c m E F ∧ t + 1 ≤ F.length ∧ Γ = [.val (.int n), .val (wD w), .val (.lst (E.map wD)), .own 0 (.lst (F.map wD)), s4, .no, s6, s7, s8, s9, .no]) ?_ ?_ ?_
    · refine ⟨0, [w], [w], _, _, _, _, _, rfl, by decide, ⟨by simp, fun g hg => ?_, fun g hg => hg, fun g hg hn => absurd hg hn, List.mem_singleton.mpr rfl⟩, Nat.le_refl _, rfl⟩
      rw [List.mem_singleton.mp hg]
      exact .inl ⟨0, Nat.zero_le _, by rw [List.drop_zero]; exact hr.e⟩
    · rintro d ds Γ ⟨t, E, F, s4, s6, s7, s8, s9, ed, t5, hB, ht, rfl⟩
      rcases Nat.lt_or_ge 499 t with hs | hs
      · rw [rng_nil (by omega)] at ed
        cases ed
      rw [rng_cons (by omega)] at ed
      obtain ⟨rfl, rfl⟩ := List.cons.inj ed
      have hts : rangeD ((t : Int) + 1) 500 = rangeD ((t + 1 : Nat) : Int) 500 := by rw [Int.natCast_add]; rfl
      repeat' walk_at "x"
      refine x_forL (fun ds Γ => ∃ (ms L : List (List Nat)) (s7 s8 s9 : Sl), ds = ms.map wD ∧ (∀ e ∈ ms, e ∈ E) ∧ (F ++ L).Nodup ∧ (∀ g ∈ F ++ L, InB c m g) ∧ (∀ g ∈ E, g ∉ ms → ∀ h, Nb n g h → h ∈ F ++ L) ∧ Γ = [.val (.int n), .val (wD w), .val (.lst (E.map wD)), .own 0 (.lst ((F ++ L).map wD)), .val (.int t), .no, .own 0 (.lst (L.map wD)), s7, s8, s9, .no]) ?_ ?_ ?_
      · exact ⟨E, [], _, _, _, rfl, fun e he => he, by rw [List.append_nil]; exact hB.nd, by rw [List.append_nil]; exact hB.ib, fun g hg hn => absurd hg hn, by rw [List.append_nil]; rfl⟩
      · rintro d ds Γ ⟨ms, L, s7, s8, s9, em, hms, hnd, hib, hcl, rfl⟩
        cases ms with
        | nil => cases em
        | cons e ms =>
          obtain ⟨rfl, rfl⟩ := List.cons.inj em
          have heE := hms e List.mem_cons_self
          have heB := hB.ib e (hB.ef e heE)
          have ew := b.inB_wd heB
          have el := (b.inB_len heB).2.1
          have ae := ew.a hn
          repeat' walk_at "x"
          rw [ea', eb']
          refine r_addW (by omega) (by omega) ?_
          repeat' walk_at "x"
          refine x_forL (fun ds Γ => ∃ (xs : List Nat) (L : List (List Nat)) (s8 s9 : Sl), ds = xs.map chrD ∧ (∀ x ∈ xs, isLn n x) ∧ (F ++ L).Nodup ∧ (∀ g ∈ F ++ L, InB c m g) ∧ (∀ g ∈ E, g ∉ e :: ms → ∀ h, Nb n g h → h ∈ F ++ L) ∧ (∀ x, isLn n x → x ∉ xs → (red (x :: (e ++ [opp x]))).length ≤ e.length → red (x :: (e ++ [opp x])) ∈ F ++ L) ∧ Γ = [.val (.int n), .val (wD w), .val (.lst (E.map wD)), .own 0 (.lst ((F ++ L).map wD)), .val (.int t), .no, .own 0 (.lst (L.map wD)), .val (wD e), s8, s9, .no]) ?_ ?_ ?_
          · exact ⟨wa ++ wb, L, _, _, rfl, fun x hx => (hab x).mp hx, hnd, hib, hcl, fun x hx hn => absurd ((hab x).mpr hx) hn, rfl⟩
          · rintro d ds Γ ⟨xs, L, s8, s9, ex, hxs, hnd, hib, hcl, hin, rfl⟩
            cases xs with
            | nil => cases ex
            | cons x xs =>
              obtain ⟨rfl, rfl⟩ := List.cons.inj ex
              have hx := hxs x List.mem_cons_self
              have hxl := hx.L hn.hi
              have ax : AL [x] := fun y hy => by rw [List.mem_singleton.mp hy]; exact hxl
              have hxs' : ∀ y ∈ xs, isLn n y := fun y hy => hxs y (List.mem_cons_of_mem _ hy)
              have lr : (red (x :: (e ++ [opp x]))).length ≤ 100 := Nat.le_trans (red_len _) (by simp only [List.length_cons, List.length_append, List.length_nil]; omega)
              have aj : AL (x :: (e ++ [opp x])) := by
                have := (ax.app ae).app (inv_AL ax)
                rw [inv_one] at this
                simpa using this
              repeat' walk_at "x"
              refine r_addW (u := [x]) (by simp) (by omega) ?_
              repeat' walk_at "x"
              refine x_callF rfl (fp_of (f_back (l := [x]) ax (by simp)) ?_)
              rw [inv_one]
              repeat' walk_at "x"
              refine r_addW (by simp only [List.length_cons, List.length_append, List.length_nil]; omega) (by simp) ?_
              repeat' walk_at "x"
              rw [show [x] ++ e ++ [opp x] = x :: (e ++ [opp x]) by simp]
              refine x_callF rfl (fp_of (f_struck aj (by simp only [List.length_cons, List.length_append, List.length_nil]; omega)) ?_)
              repeat' walk_at "x"
              refine r_lenW (by omega) ?_
              repeat' walk_at "x"
              refine r_lenW (by omega) ?_
              repeat' walk_at "x"
              · rename_i hle
                have hle : (red (x :: (e ++ [opp x]))).length ≤ e.length := by omega
                have hB2 : InB c m (red (x :: (e ++ [opp x]))) := b.nb heB ⟨x, hx, rfl, hle⟩
                have hfew := b.few hnd hib
                have hfl : F.length + L.length ≤ 41 := by rw [← List.length_append]; omega
                refine r_notW (red_L aj) (fun g hg => (b.inB_wd (hib g hg)).a hn) ?_
                refine r_decN2 (fun h1 => ?_) (fun h1 => ?_)
                · repeat' walk_at "x"
                  refine ⟨xs, L, _, _, rfl, hxs', hnd, hib, hcl, fun y hy hny hl => ?_, rfl⟩
                  by_cases z : y = x
                  · subst z
                    exact h1
                  · exact hin y hy (fun hm => (List.mem_cons.mp hm).elim z hny) hl
                · repeat' walk_at "x"
                  refine xv_append (k := 0) (ds := (F ++ L).map wD) (by rfl) ?_
                  repeat' walk_at "x"
                  refine ⟨_, _, _, rfl, by rw [List.length_map, List.length_append]; omega, rfl, ?_⟩
                  repeat' walk_at "x"
                  refine xv_append (k := 0) (ds := L.map wD) (by rfl) ?_
                  repeat' walk_at "x"
                  refine ⟨_, _, _, rfl, by rw [List.length_map]; omega, rfl, ?_⟩
                  repeat' walk_at "x"
                  have e1 : F ++ (L ++ [red (x :: (e ++ [opp x]))]) = (F ++ L) ++ [red (x :: (e ++ [opp x]))] := (List.append_assoc _ _ _).symm
                  refine ⟨xs, L ++ [red (x :: (e ++ [opp x]))], .val (chrD x), .val (.str (sW (red (x :: (e ++ [opp x]))))), rfl, hxs', ?_, ?_, ?_, ?_, ?_⟩
                  · rw [e1]
                    exact List.nodup_append.mpr ⟨hnd, by simp, fun a ha b hb => fun z => h1 (by rw [← List.mem_singleton.mp hb, ← z]; exact ha)⟩
                  · intro g hg
                    rw [e1] at hg
                    rcases List.mem_append.mp hg with hg | hg
                    · exact hib g hg
                    · rw [List.mem_singleton.mp hg]; exact hB2
                  · intro g hg hng h hh
                    rw [e1]
                    exact List.mem_append.mpr (.inl (hcl g hg hng h hh))
                  · intro y hy hny hl
                    rw [e1]
                    by_cases z : y = x
                    · subst z
                      exact List.mem_append.mpr (.inr (List.mem_singleton.mpr rfl))
                    · exact List.mem_append.mpr (.inl (hin y hy (fun hm => (List.mem_cons.mp hm).elim z hny) hl))
                  · simp
              · rename_i hle
                refine ⟨xs, L, _, _, rfl, hxs', hnd, hib, hcl, fun y hy hny hl => ?_, rfl⟩
                by_cases z : y = x
                · subst z
                  exfalso
                  omega
                · exact hin y hy (fun hm => (List.mem_cons.mp hm).elim z hny) hl
          · rintro Γ ⟨xs, L, s8, s9, ex, hxs, hnd, hib, hcl, hin, rfl⟩
            have : xs = [] := by cases xs with | nil => rfl | cons x xs => cases ex
            subst this
            refine ⟨ms, L, _, _, _, rfl, fun g hg => hms g (List.mem_cons_of_mem _ hg), hnd, hib, fun g hg hng h hh => ?_, rfl⟩
            by_cases z : g = e
            · subst z
              obtain ⟨x, hx, rfl, hl⟩ := hh
              exact hin x hx (fun h => List.not_mem_nil h) hl
            · refine hcl g hg (fun hm => ?_) h hh
              rcases List.mem_cons.mp hm with rfl | hm
              · exact z rfl
              · exact hng hm
      · rintro Γ ⟨ms, L, s7, s8, s9, em, hms, hnd, hib, hcl, rfl⟩
        have : ms = [] := by cases ms with | nil => rfl | cons x xs => cases em
        subst this
        have hcl' : ∀ g ∈ E, ∀ h, Nb n g h → h ∈ F ++ L := fun g hg => hcl g hg (fun h => List.not_mem_nil h)
        repeat' walk_at "x"
        refine x_frz rfl ?_
        repeat' walk_at "x"
        have hL : ∀ w ∈ L, AL w := fun g hg => (b.inB_wd (hib g (List.mem_append.mpr (.inr hg)))).a hn
        rw [wD_map]
        refine r_eqStrs (B := []) (codes hL) (fun z hz => (List.not_mem_nil hz).elim) ?_
        refine r_dec2 (fun h1 => ?_) (fun h1 => ?_)
        · have : L = [] := List.map_eq_nil_iff.mp h1
          subst this
          rw [List.append_nil] at hnd hib hcl'
          repeat' walk_at "x"
          refine ⟨_, _, rfl, ?_⟩
          refine ⟨rfl, F, .val (.lst []), .val (.int t), .val (.lst []), s7, s8, s9, ⟨hnd, hib, fun g hg => (List.not_mem_nil hg).elim, fun g hg _ h hh => ?_, hB.w⟩, by rw [List.append_nil]; rfl⟩
          by_cases z : g ∈ E
          · exact hcl' g z h hh
          · exact hB.cl g hg z h hh
        · have : L ≠ [] := fun z => h1 (by rw [z]; rfl)
          have := List.length_pos_iff.mpr this
          repeat' walk_at "x"
          refine ⟨t + 1, L, F ++ L, _, _, _, _, _, hts, by omega, ⟨hnd, hib, fun g hg => List.mem_append.mpr (.inr hg), fun g hg hng h hh => ?_, List.mem_append.mpr (.inl hB.w)⟩, by rw [List.length_append]; omega, by rw [wD_map L]⟩
          rcases List.mem_append.mp hg with hg | hg
          · by_cases z : g ∈ E
            · exact hcl' g z h hh
            · exact List.mem_append.mpr (.inl (hB.cl g hg z h hh))
          · exact absurd hg hng
    · rintro Γ ⟨t, E, F, s4, s6, s7, s8, s9, ed, t5, hB, ht, rfl⟩
      exfalso
      have := b.few hB.nd hB.ib
      rcases Nat.lt_or_ge t 500 with hs | hs
      · rw [rng_cons (by omega)] at ed
        cases ed
      · omega
  · rintro v Γ ⟨rfl, F, s2, s4, s6, s7, s8, s9, hB, rfl⟩
    have hfew := b.few hB.nd hB.ib
    have hall : ∀ g, Rot m g → g ∈ F := fun g hg => b.all hB.w (fun g hg h hh => hB.cl g hg (fun z => List.not_mem_nil z) h hh) hg
    have hlen : ∀ g ∈ F, g.length ≤ 40 := fun g hg => Nat.le_trans (b.inB_len (hB.ib g hg)).2.1 nw
    repeat' walk_at "x"
    refine x_frz rfl ?_
    repeat' walk_at "x"
    refine ⟨by rw [List.length_map]; omega, ?_⟩
    refine x_lcL (fun ds acc Γ => ∃ k d : List (List Nat), ds = d.map wD ∧ acc = k.map (fun g => D.int (g.length : Int)) ∧ k ++ d = F ∧ Γ = [.val (.int n), .val (wD w), s2, .val (.lst (F.map wD)), s4, .no, s6, s7, s8, s9, .no]) ?_ ?_ ?_
    · exact ⟨[], F, rfl, rfl, rfl, rfl⟩
    · rintro d ds acc Γ ⟨k, d', ed, rfl, ek, rfl⟩
      cases d' with
      | nil => cases ed
      | cons e d' =>
        obtain ⟨rfl, rfl⟩ := List.cons.inj ed
        have he := hlen e (by rw [← ek]; simp)
        refine ⟨_, rfl, rfl, ?_⟩
        show X _ [_, _, _, _, _, _, _, _, _, _, _] _
        repeat' walk_at "x"
        refine r_lenW (by omega) ?_
        repeat' walk_at "x"
        exact ⟨k ++ [e], d', rfl, by simp, by rw [← ek]; simp, rfl⟩
    · rintro acc Γ ⟨k, d', ed, rfl, ek, rfl⟩
      have : d' = [] := by cases d' with | nil => rfl | cons x xs => cases ed
      subst this
      rw [List.append_nil] at ek
      subst ek
      have mk : m ∈ k := hall m (Rot.refl m)
      have emin : minL (k.map fun g => (g.length : Int)) = m.length := by
        have hne : (k.map fun g => (g.length : Int)) ≠ [] := fun z => by rw [List.map_eq_nil_iff.mp z] at mk; exact List.not_mem_nil mk
        obtain ⟨g, hg, eg⟩ := List.mem_map.mp (minL_mem hne)
        have h1 := (b.inB_len (hB.ib g hg)).1
        have h2 : minL (k.map fun g => (g.length : Int)) ≤ (m.length : Int) := minL_le (List.mem_map.mpr ⟨m, mk, rfl⟩)
        have eg : (g.length : Int) = minL (k.map fun g => (g.length : Int)) := eg
        omega
      have hne : (k.map fun g => (g.length : Int)) ≠ [] := fun z => by rw [List.map_eq_nil_iff.mp z] at mk; exact List.not_mem_nil mk
      rw [show k.map (fun g => D.int (g.length : Int)) = (k.map fun g => (g.length : Int)).map D.int by rw [List.map_map]; rfl]
      repeat' walk_at "x"
      refine e_minOf hne ?_
      rw [emin]
      repeat' walk_at "x"
      refine ⟨by rw [List.length_map]; omega, ?_⟩
      refine x_lcL (fun ds acc Γ => ∃ d1 d2 : List (List Nat), ds = d2.map wD ∧ acc = (d1.filter fun g => decide (g.length = m.length)).map wD ∧ d1 ++ d2 = k ∧ Γ = [.val (.int n), .val (wD w), s2, .val (.lst (k.map wD)), s4, .val (.int m.length), s6, s7, s8, s9, .no]) ?_ ?_ ?_
      · exact ⟨[], k, rfl, rfl, rfl, rfl⟩
      · rintro d ds acc Γ ⟨d1, d2, ed, rfl, ek, rfl⟩
        cases d2 with
        | nil => cases ed
        | cons e d2 =>
          obtain ⟨rfl, rfl⟩ := List.cons.inj ed
          have he := hlen e (by rw [← ek]; simp)
          refine ⟨_, rfl, rfl, ?_⟩
          show X _ [_, _, _, _, _, _, _, _, _, _, _] _
          repeat' walk_at "x"
          refine r_lenW (by omega) ?_
          repeat' walk_at "x"
          · rename_i h1
            refine ⟨d1 ++ [e], d2, rfl, ?_, by rw [← ek]; simp, rfl⟩
            have h1 : e.length = m.length := by omega
            simp [List.filter_append, h1]
          · rename_i h1
            refine ⟨d1 ++ [e], d2, rfl, ?_, by rw [← ek]; simp, rfl⟩
            have h1 : ¬ e.length = m.length := fun z => h1 (by omega)
            simp [List.filter_append, h1]
      · rintro acc Γ ⟨d1, d2, ed, rfl, ek, rfl⟩
        have : d2 = [] := by cases d2 with | nil => rfl | cons x xs => cases ed
        subst this
        rw [List.append_nil] at ek
        subst ek
        repeat' walk_at "x"
        rw [wD_map]
        refine e_sortS (by rw [List.length_map]; have := List.length_filter_le (fun g : List Nat => decide (g.length = m.length)) d1; omega) ?_
        repeat' walk_at "x"
        refine ⟨⟨_, hB.nd.filter _, fun g => ?_, rfl⟩, rfl⟩
        rw [List.mem_filter, decide_eq_true_iff]
        exact ⟨fun h => (b.inB_len (hB.ib g h.1)).2.2 h.2, fun h => ⟨hall g h, h.len⟩⟩
end Ks

set_option linter.all false
set_option maxRecDepth 100000
set_option pp.maxSteps 500
set_option maxHeartbeats 1000000
namespace Ks
open PySem PySem.Spec PyProof.Rows L2 DF TL NumText
variable [TbC]
/-! ### one step -/
local macro_rules | `(tactic| walk_at "set") => `(tactic| (refine' e_set ?qa ?_; (case qa => (simp only [wipeF, backF, List.set, List.getD_cons_succ, List.getD_cons_zero, Int.reduceToNat]; rfl))))
local macro_rules | `(tactic| walk_at "cnd") => `(tactic| first | assumption | decide | omega)
local macro_rules | `(tactic| walk_at "mul") => `(tactic| first | exact mulOk_r (by decide) (by decide) | exact mulOk_l (by decide) (by decide) | exact mulOk_l (by omega) (by omega) | exact mulOk_r (by omega) (by omega))
local macro_rules | `(tactic| walk_at "x") => `(tactic| first
  | with_reducible apply x_seq
  | with_reducible apply k_nx
  | with_reducible apply k_rt
  | with_reducible apply x_nx
  | with_reducible refine x_asgK (fa := fLstO _) ?_
  | with_reducible refine x_asgK (fa := fLcO _ _ _ _ _) ?_
  | with_reducible apply ak_own
  | with_reducible apply ak_val
  | with_reducible apply x_asg
  | with_reducible refine x_retK (fa := fLstO _) ?_
  | with_reducible apply rk_own
  | with_reducible apply x_ret
  | with_reducible apply x_ifS
  | with_reducible apply x_asgG
  | with_reducible apply x_drop
  | with_reducible apply x_par
  | with_reducible apply x_par3
  | with_reducible apply x_asg3
  | with_reducible apply x_for
  | with_reducible refine x_aug ⟨_, rfl, ?_⟩
  | with_reducible apply xv_c
  | (with_reducible refine xv_var rfl ?_)
  | (with_reducible refine x_varV rfl ?_)
  | (with_reducible refine x_varO rfl ?_)
  | with_reducible apply xv_op
  | with_reducible apply xv_un
  | with_reducible apply xv_cb
  | with_reducible apply xs_nil
  | with_reducible apply xs_cons
  | with_reducible apply xa_nil
  | with_reducible apply xa_cons
  | with_reducible apply xv_tup
  | with_reducible apply xv_lst
  | with_reducible apply x_lstO
  | with_reducible apply xv_if
  | with_reducible apply xv_andV
  | with_reducible apply xv_orV
  | with_reducible apply xv_notV
  | with_reducible apply xv_isN
  | with_reducible apply xv_notN
  | with_reducible apply xt_test
  | with_reducible apply xt_tru
  | with_reducible apply xt_not
  | with_reducible apply xt_and
  | with_reducible apply xt_or
  | with_reducible apply xt_yes
  | with_reducible apply xv_call
  | with_reducible apply xv_callN
  | with_reducible apply xv_cmeth
  | with_reducible apply xv_cmethN
  | with_reducible apply xv_fld
  | with_reducible apply xv_prop
  | with_reducible apply x_setF
  | with_reducible apply xv_make
  | with_reducible apply xv_makeN
  | (with_reducible refine xv_makeL rfl ?_)
  | with_reducible apply xg_name
  | with_reducible apply xg_nil
  | with_reducible apply xg_cons
  | (with_reducible refine xg_tup rfl ?_)
  | (with_reducible refine xg_unl rfl ?_)
  | (with_reducible refine xg_sub rfl ?_)
  | (with_reducible refine xv_ixO rfl ?_)
  | ((with_reducible refine' xv_pk ?qa ?_); (case qa => (simp only [List.map, seeO, odD]; rfl)))
  | ((with_reducible refine' xt_pk ?qa ?_); (case qa => (simp only [List.map, seeO, odD]; rfl)))
  | with_reducible apply xv_bm
  | with_reducible apply xv_bm0
  | with_reducible apply xv_sl
  | with_reducible apply xo_no
  | with_reducible apply xo_some
  | with_reducible apply xv_revS
  | with_reducible apply xv_revL
  | with_reducible apply xv_fmt
  | with_reducible apply xw_any
  | with_reducible apply xw_rng1
  | with_reducible apply xw_rng2
  | with_reducible apply xv_lc
  | with_reducible apply vk_val
  | with_reducible apply bk_none
  | with_reducible apply bk_tmp
  | (with_reducible refine bk_slot rfl ?_)
  | with_reducible apply rk_val
  | with_reducible apply fk_nx
  | with_reducible apply fk_rt
  | ((with_reducible refine' e_par ?qa ?_); (case qa => (simp only [List.set]; rfl)))
  | ((with_reducible refine' e_par3 ?qa ?_); (case qa => (simp only [List.set]; rfl)))
  | ((with_reducible refine' e_ixO ?qa ?qb ?_); (case qa => exact rfl); (case qb => exact rfl))
  | ((with_reducible refine' e_sub ?qa ?qb ?qc ?_); (case qa => exact rfl); (case qb => exact rfl); (case qc => (simp only [List.set, Int.reduceToNat]; rfl)))
  | ((with_reducible refine' e_setF ?qa ?qb ?qc ?_); (case qa => exact rfl); (case qb => (simp only [List.length_cons, List.length_nil]; decide)); (case qc => (simp only [List.set, Int.reduceToNat]; rfl)))
  | ((with_reducible refine' e_fields ?qa ?qb ?_); (case qa => exact rfl); (case qb => exact rfl))
  | ((with_reducible refine' e_has ?qa ?_); (case qa => exact rfl))
  | with_reducible apply r_addI
  | with_reducible apply r_sub
  | with_reducible apply r_lt
  | with_reducible apply r_gt
  | with_reducible apply r_le
  | with_reducible apply r_ge
  | with_reducible apply r_int
  | with_reducible apply r_intB
  | with_reducible apply r_abs
  | with_reducible refine r_dec2 (fun h => ?_) (fun h => ?_)
  | with_reducible refine r_decN2 (fun h => ?_) (fun h => ?_)
  | with_reducible refine r_decM2 (fun h => ?_) (fun h => ?_)
  | with_reducible apply r_bool
  | with_reducible apply r_truB
  | with_reducible apply r_len
  | with_reducible apply r_lenS
  | with_reducible apply r_orEqS
  | with_reducible apply r_orNeS
  | with_reducible apply r_orEqI
  | with_reducible apply r_orNeI
  | with_reducible apply xv_joined
  | with_reducible apply xj_cons
  | with_reducible apply xj_nil
  | with_reducible apply r_eqI
  | with_reducible apply r_neI
  | with_reducible apply r_eqS
  | with_reducible apply r_neS
  | ((with_reducible refine' e_addD ?qa ?_); (case qa => exact rfl))
  | ((with_reducible refine' e_subD ?qa ?_); (case qa => exact rfl))
  | ((with_reducible refine' r_mul ?qa ?_); (case qa => walk_at "mul"))
  | ((with_reducible refine' r_mod ?qa ?_); (case qa => walk_at "cnd"))
  | ((with_reducible refine' r_fdiv ?qa ?qb ?_); (case qa => walk_at "cnd"); (case qb => walk_at "cnd"))
  | ((with_reducible refine' r_divmod ?qa ?qb ?_); (case qa => walk_at "cnd"); (case qb => walk_at "cnd"))
  | ((with_reducible refine' e_ltD ?qa ?_); (case qa => exact rfl))
  | ((with_reducible refine' e_leD ?qa ?_); (case qa => exact rfl))
  | ((with_reducible refine' e_gtD ?qa ?_); (case qa => exact rfl))
  | ((with_reducible refine' e_geD ?qa ?_); (case qa => exact rfl))
  | ((with_reducible refine' e_negD ?qa ?_); (case qa => exact rfl))
  | ((with_reducible refine' e_ixD ?qa ?_); (case qa => exact rfl))
  | ((with_reducible refine' e_intD ?qa ?_); (case qa => exact rfl))
  | ((with_reducible refine' e_absD ?qa ?_); (case qa => exact rfl))
  | ((with_reducible refine' e_intOf ?qa ?_); (case qa => exact rfl))
  | ((with_reducible refine' e_tupOf ?qa ?_); (case qa => exact rfl))
  | ((with_reducible refine' e_lstOf ?qa ?_); (case qa => exact rfl))
  | ((with_reducible refine' e2_boolOf ?qa ?_ ?_); (case qa => exact rfl))
  | ((with_reducible refine' e_boolOf ?qa ?_); (case qa => exact rfl))
  | ((with_reducible refine' e_truD ?qa ?_); (case qa => exact rfl))
  | ((with_reducible refine' e_itemsOf ?qa ?_); (case qa => exact rfl))
  | ((with_reducible refine' e_slD ?qa ?_); (case qa => exact rfl))
  | ((with_reducible refine' e_isiD ?qa ?_); (case qa => exact rfl))
  | ((with_reducible refine' e_boolI ?qa ?_); (case qa => exact rfl))
  | ((with_reducible refine' e_rng ?qa ?_); (case qa => exact ⟨by omega, by omega⟩))
  | with_reducible apply e_some
  | with_reducible apply e_str
  | with_reducible apply e_rev
  | ((with_reducible refine' en_val ?qa ?_); (case qa => exact rfl))
  | ((with_reducible refine' en_own ?qa ?_); (case qa => exact rfl))
  | ((with_reducible refine' en_nx ?qa ?_); (case qa => exact rfl))
  | with_reducible apply x_call
  | with_reducible refine x_ofV (fa := fC _) ?_
  | with_reducible refine x_ofV (fa := fOp _ _ _) ?_
  | with_reducible refine x_ofV (fa := fUn _ _) ?_
  | with_reducible refine x_ofV (fa := fCB _ _) ?_
  | with_reducible refine x_ofV (fa := fTup _) ?_
  | with_reducible refine x_ofV (fa := fLst _) ?_
  | with_reducible refine x_ofV (fa := fBM _ _ _ _) ?_
  | with_reducible refine x_ofV (fa := fBM0 _ _ _) ?_
  | with_reducible refine x_ofV (fa := fLc _ _ _ _ _) ?_
  | with_reducible refine x_ofV (fa := fFld _ _ _) ?_
  | with_reducible refine x_ofV (fa := fProp _ _ _) ?_
  | with_reducible refine x_ofV (fa := fMake _ _ _) ?_
  | with_reducible refine x_ofV (fa := fMakeN _ _ _ _ _ _ _) ?_
  | with_reducible refine x_ofV (fa := fSl _ _ _) ?_
  | with_reducible refine x_ofV (fa := fJoined _) ?_
  | with_reducible refine x_ofV (fa := fAndV _ _) ?_
  | with_reducible refine x_ofV (fa := fOrV _ _) ?_
  | with_reducible refine x_ofV (fa := fNotV _) ?_
  | with_reducible refine x_ofV (fa := fIf _ _ _) ?_
  | with_reducible refine x_ofV (fa := fIxO _ _) ?_
  | with_reducible refine x_ofV (fa := fCMeth _ _ _) ?_
  | with_reducible refine x_ofV (fa := fCMethN _ _ _ _ _) ?_
  | with_reducible refine x_ofV (fa := fCallN _ _ _ _ _ _) ?_
  | with_reducible refine x_ofV (fa := fIsN _) ?_
  | with_reducible refine x_ofV (fa := fNotN _) ?_
  | with_reducible apply xl_nil
  | with_reducible refine xl_cons rfl ?_
  | (refine And.intro (show List.length _ ≤ 16777216 from by simp only [List.length_cons, List.length_nil]; decide) ?_)
  | (refine And.intro (show tyS _ = some _ from rfl) ?_)
  | (refine And.intro (show flat _ = true from rfl) ?_)
  | (refine And.intro (show List.length _ = _ from rfl) ?_)
  | (refine And.intro (show List.length _ < 16777216 from by simp only [List.length_cons, List.length_nil]; decide) ?_)
  | (refine And.intro (show List.map isOwn _ = List.map isOwn _ from rfl) ?_)
  | with_reducible apply tt_intro
  | with_reducible apply nt_intro
  | with_reducible apply nnf_intro
  | with_reducible apply nnt_intro
  | with_reducible apply nf_intro
  | with_reducible apply ff_intro
  | walk_at "set")
theorem r_slFrom {m : List Nat} {k : Nat} {i : Int} {Φ : D → Prop} (hn : m.length ≤ 1000) (h : i = k) (p : Φ (.str (sW (m.drop k)))) : ∃ z, slD (.str (sW m)) (some i) none = some z ∧ Φ z := ⟨_, by
  rw [h, sl_all hn]
  congr 2
  refine ext_tl ?_
  rw [tl_cutS, tl_sW]
  have e : HT.sIx m.length 0 (some (k : Int)) = min k m.length := by
    unfold HT.sIx
    show (if (k : Int) < 0 then ((k : Int) + (m.length : Int)).toNat else min (k : Int).toNat m.length) = _
    rw [if_neg (by omega), Int.toNat_natCast]
  rw [e, show HT.sIx m.length m.length none = m.length from rfl, tl_sW]
  rcases Nat.le_total k m.length with h | h
  · rw [Nat.min_eq_left h]
    exact List.take_of_length_le (by rw [List.length_drop]; omega)
  · rw [Nat.min_eq_right h, List.drop_length, List.drop_of_length_le h, List.take_nil], p⟩
theorem low_menu {m : Int} (h : m = 2 ∨ m = 3 ∨ m = 4) : ∃ l : List Nat, slD (.str "abcd") none (some m) = some (.str (sW l)) ∧ 0 < l.length ∧ l.length ≤ 4 ∧ ∀ c ∈ l, 97 ≤ c ∧ (c : Int) < 97 + m := by
  have t2 : sW [97, 98] = Str.ofString "ab" := ext_tl (by decide +kernel)
  have t3 : sW [97, 98, 99] = Str.ofString "abc" := ext_tl (by decide +kernel)
  have t4 : sW [97, 98, 99, 100] = Str.ofString "abcd" := ext_tl (by decide +kernel)
  rcases h with e | e | e <;> subst e
  · refine ⟨[97, 98], by rw [t2]; kernel_rfl, by decide, by decide, fun c hc => ?_⟩
    simp at hc; omega
  · refine ⟨[97, 98, 99], by rw [t3]; kernel_rfl, by decide, by decide, fun c hc => ?_⟩
    simp at hc; omega
  · refine ⟨[97, 98, 99, 100], by rw [t4]; kernel_rfl, by decide, by decide, fun c hc => ?_⟩
    simp at hc; omega
theorem p_plain {r a b c m : Int} {s : Nat} {Φ : Vr → Option OD → Prop} (h : RO r a b c) (hr : r ≤ 10 ^ 11) (hm : m = 2 ∨ m = 3 ∨ m = 4) (hs : s ≤ 400)
    (k : ∀ (z : List Nat) a b c, z.length = s → (∀ c ∈ z, 97 ≤ c ∧ (c : Int) < 97 + m) → RO (r + s) a b c → Φ (.val (.str (sW z))) (some (rl a b c))) : Fp F_l_plain [.own 1 (rl a b c), .val (.int m), .val (.int s)] Φ := by
  obtain ⟨l, el, l0, l4, hl⟩ := low_menu hm
  have hlen : (rangeD 0 (s : Int)).length = s := by rw [len_rng, Int.toNat_natCast]
  refine f_def rfl ?_
  show X _ [_, _, _, _] _
  unfold B_l_plain
  repeat' walk_at "x"
  refine ⟨by rw [hlen]; omega, ?_⟩
  refine lc_signs (Pc := fun c => 97 ≤ c ∧ (c : Int) < 97 + m) (menu := sW l) (v := 2) h (by rw [hlen]; omega) (by rw [len_sW]; exact l0) (by rw [len_sW]; omega) (fun c hc => hl c hc) rfl (fun o d => ?_) fun l a b c hl hc h => ?_
  · show fSl (fC (.str "abcd")) fNoPart (fPart (fVar 1)) _ = _
    unfold fSl fC fNoPart fPart fVar fV fR FM.bind FM.pure fOf
    simp only [List.getElem?_cons_succ, List.getElem?_cons_zero, List.set, el]
    rfl
  · rw [hlen] at hl h
    repeat' walk_at "x"
    refine e_joinD (join_chr (by omega)) ?_
    repeat' walk_at "x"
    exact k l a b c hl hc h
end Ks

set_option linter.all false
set_option maxRecDepth 100000
set_option pp.maxSteps 500
set_option maxHeartbeats 1000000
namespace Ks
open PySem PySem.Spec PyProof.Rows L2 DF TL NumText
variable [TbC]
/-! ### one step -/
local macro_rules | `(tactic| walk_at "set") => `(tactic| (refine' e_set ?qa ?_; (case qa => (simp only [wipeF, backF, List.set, List.getD_cons_succ, List.getD_cons_zero, Int.reduceToNat]; rfl))))
local macro_rules | `(tactic| walk_at "cnd") => `(tactic| first | assumption | decide | omega)
local macro_rules | `(tactic| walk_at "mul") => `(tactic| first | exact mulOk_r (by decide) (by decide) | exact mulOk_l (by decide) (by decide) | exact mulOk_l (by omega) (by omega) | exact mulOk_r (by omega) (by omega))
local macro_rules | `(tactic| walk_at "x") => `(tactic| first
  | with_reducible apply x_seq
  | with_reducible apply k_nx
  | with_reducible apply k_rt
  | with_reducible apply x_nx
  | with_reducible refine x_asgK (fa := fLstO _) ?_
  | with_reducible refine x_asgK (fa := fLcO _ _ _ _ _) ?_
  | with_reducible apply ak_own
  | with_reducible apply ak_val
  | with_reducible apply x_asg
  | with_reducible refine x_retK (fa := fLstO _) ?_
  | with_reducible apply rk_own
  | with_reducible apply x_ret
  | with_reducible apply x_ifS
  | with_reducible apply x_asgG
  | with_reducible apply x_drop
  | with_reducible apply x_par
  | with_reducible apply x_par3
  | with_reducible apply x_asg3
  | with_reducible apply x_for
  | with_reducible refine x_aug ⟨_, rfl, ?_⟩
  | with_reducible apply xv_c
  | (with_reducible refine xv_var rfl ?_)
  | (with_reducible refine x_varV rfl ?_)
  | (with_reducible refine x_varO rfl ?_)
  | with_reducible apply xv_op
  | with_reducible apply xv_un
  | with_reducible apply xv_cb
  | with_reducible apply xs_nil
  | with_reducible apply xs_cons
  | with_reducible apply xa_nil
  | with_reducible apply xa_cons
  | with_reducible apply xv_tup
  | with_reducible apply xv_lst
  | with_reducible apply x_lstO
  | with_reducible apply xv_if
  | with_reducible apply xv_andV
  | with_reducible apply xv_orV
  | with_reducible apply xv_notV
  | with_reducible apply xv_isN
  | with_reducible apply xv_notN
  | with_reducible apply xt_test
  | with_reducible apply xt_tru
  | with_reducible apply xt_not
  | with_reducible apply xt_and
  | with_reducible apply xt_or
  | with_reducible apply xt_yes
  | with_reducible apply xv_call
  | with_reducible apply xv_callN
  | with_reducible apply xv_cmeth
  | with_reducible apply xv_cmethN
  | with_reducible apply xv_fld
  | with_reducible apply xv_prop
  | with_reducible apply x_setF
  | with_reducible apply xv_make
  | with_reducible apply xv_makeN
  | (with_reducible refine xv_makeL rfl ?_)
  | with_reducible apply xg_name
  | with_reducible apply xg_nil
  | with_reducible apply xg_cons
  | (with_reducible refine xg_tup rfl ?_)
  | (with_reducible refine xg_unl rfl ?_)
  | (with_reducible refine xg_sub rfl ?_)
  | (with_reducible refine xv_ixO rfl ?_)
  | ((with_reducible refine' xv_pk ?qa ?_); (case qa => (simp only [List.map, seeO, odD]; rfl)))
  | ((with_reducible refine' xt_pk ?qa ?_); (case qa => (simp only [List.map, seeO, odD]; rfl)))
  | with_reducible apply xv_bm
  | with_reducible apply xv_bm0
  | with_reducible apply xv_sl
  | with_reducible apply xo_no
  | with_reducible apply xo_some
  | with_reducible apply xv_revS
  | with_reducible apply xv_revL
  | with_reducible apply xv_fmt
  | with_reducible apply xw_any
  | with_reducible apply xw_rng1
  | with_reducible apply xw_rng2
  | with_reducible apply xv_lc
  | with_reducible apply vk_val
  | with_reducible apply bk_none
  | with_reducible apply bk_tmp
  | (with_reducible refine bk_slot rfl ?_)
  | with_reducible apply rk_val
  | with_reducible apply fk_nx
  | with_reducible apply fk_rt
  | ((with_reducible refine' e_par ?qa ?_); (case qa => (simp only [List.set]; rfl)))
  | ((with_reducible refine' e_par3 ?qa ?_); (case qa => (simp only [List.set]; rfl)))
  | ((with_reducible refine' e_ixO ?qa ?qb ?_); (case qa => exact rfl); (case qb => exact rfl))
  | ((with_reducible refine' e_sub ?qa ?qb ?qc ?_); (case qa => exact rfl); (case qb => exact rfl); (case qc => (simp only [List.set, Int.reduceToNat]; rfl)))
  | ((with_reducible refine' e_setF ?qa ?qb ?qc ?_); (case qa => exact rfl); (case qb => (simp only [List.length_cons, List.length_nil]; decide)); (case qc => (simp only [List.set, Int.reduceToNat]; rfl)))
  | ((with_reducible refine' e_fields ?qa ?qb ?_); (case qa => exact rfl); (case qb => exact rfl))
  | ((with_reducible refine' e_has ?qa ?_); (case qa => exact rfl))
  | with_reducible apply r_addI
  | with_reducible apply r_sub
  | with_reducible apply r_lt
  | with_reducible apply r_gt
  | with_reducible apply r_le
  | with_reducible apply r_ge
  | with_reducible apply r_int
  | with_reducible apply r_intB
  | with_reducible apply r_abs
  | with_reducible refine r_dec2 (fun h => ?_) (fun h => ?_)
  | with_reducible refine r_decN2 (fun h => ?_) (fun h => ?_)
  | with_reducible refine r_decM2 (fun h => ?_) (fun h => ?_)
  | with_reducible apply r_bool
  | with_reducible apply r_truB
  | with_reducible apply r_len
  | with_reducible apply r_lenS
  | with_reducible apply r_orEqS
  | with_reducible apply r_orNeS
  | with_reducible apply r_orEqI
  | with_reducible apply r_orNeI
  | with_reducible apply xv_joined
  | with_reducible apply xj_cons
  | with_reducible apply xj_nil
  | with_reducible apply r_eqI
  | with_reducible apply r_neI
  | with_reducible apply r_eqS
  | with_reducible apply r_neS
  | ((with_reducible refine' e_addD ?qa ?_); (case qa => exact rfl))
  | ((with_reducible refine' e_subD ?qa ?_); (case qa => exact rfl))
  | ((with_reducible refine' r_mul ?qa ?_); (case qa => walk_at "mul"))
  | ((with_reducible refine' r_mod ?qa ?_); (case qa => walk_at "cnd"))
  | ((with_reducible refine' r_fdiv ?qa ?qb ?_); (case qa => walk_at "cnd"); (case qb => walk_at "cnd"))
  | ((with_reducible refine' r_divmod ?qa ?qb ?_); (case qa => walk_at "cnd"); (case qb => walk_at "cnd"))
  | ((with_reducible refine' e_ltD ?qa ?_); (case qa => exact rfl))
  | ((with_reducible refine' e_leD ?qa ?_); (case qa => exact rfl))
  | ((with_reducible refine' e_gtD ?qa ?_); (case qa => exact rfl))
  | ((with_reducible refine' e_geD ?qa ?_); (case qa => exact rfl))
  | ((with_reducible refine' e_negD ?qa ?_); (case qa => exact rfl))
  | ((with_reducible refine' e_ixD ?qa ?_); (case qa => exact rfl))
  | ((with_reducible refine' e_intD ?qa ?_); (case qa => exact rfl))
  | ((with_reducible refine' e_absD ?qa ?_); (case qa => exact rfl))
  | ((with_reducible refine' e_intOf ?qa ?_); (case qa => exact rfl))
  | ((with_reducible refine' e_tupOf ?qa ?_); (case qa => exact rfl))
  | ((with_reducible refine' e_lstOf ?qa ?_); (case qa => exact rfl))
  | ((with_reducible refine' e2_boolOf ?qa ?_ ?_); (case qa => exact rfl))
  | ((with_reducible refine' e_boolOf ?qa ?_); (case qa => exact rfl))
  | ((with_reducible refine' e_truD ?qa ?_); (case qa => exact rfl))
  | ((with_reducible refine' e_itemsOf ?qa ?_); (case qa => exact rfl))
  | ((with_reducible refine' e_slD ?qa ?_); (case qa => exact rfl))
  | ((with_reducible refine' e_isiD ?qa ?_); (case qa => exact rfl))
  | ((with_reducible refine' e_boolI ?qa ?_); (case qa => exact rfl))
  | ((with_reducible refine' e_rng ?qa ?_); (case qa => exact ⟨by omega, by omega⟩))
  | with_reducible apply e_some
  | with_reducible apply e_str
  | with_reducible apply e_rev
  | ((with_reducible refine' en_val ?qa ?_); (case qa => exact rfl))
  | ((with_reducible refine' en_own ?qa ?_); (case qa => exact rfl))
  | ((with_reducible refine' en_nx ?qa ?_); (case qa => exact rfl))
  | with_reducible apply x_call
  | with_reducible refine x_ofV (fa := fC _) ?_
  | with_reducible refine x_ofV (fa := fOp _ _ _) ?_
  | with_reducible refine x_ofV (fa := fUn _ _) ?_
  | with_reducible refine x_ofV (fa := fCB _ _) ?_
  | with_reducible refine x_ofV (fa := fTup _) ?_
  | with_reducible refine x_ofV (fa := fLst _) ?_
  | with_reducible refine x_ofV (fa := fBM _ _ _ _) ?_
  | with_reducible refine x_ofV (fa := fBM0 _ _ _) ?_
  | with_reducible refine x_ofV (fa := fLc _ _ _ _ _) ?_
  | with_reducible refine x_ofV (fa := fFld _ _ _) ?_
  | with_reducible refine x_ofV (fa := fProp _ _ _) ?_
  | with_reducible refine x_ofV (fa := fMake _ _ _) ?_
  | with_reducible refine x_ofV (fa := fMakeN _ _ _ _ _ _ _) ?_
  | with_reducible refine x_ofV (fa := fSl _ _ _) ?_
  | with_reducible refine x_ofV (fa := fJoined _) ?_
  | with_reducible refine x_ofV (fa := fAndV _ _) ?_
  | with_reducible refine x_ofV (fa := fOrV _ _) ?_
  | with_reducible refine x_ofV (fa := fNotV _) ?_
  | with_reducible refine x_ofV (fa := fIf _ _ _) ?_
  | with_reducible refine x_ofV (fa := fIxO _ _) ?_
  | with_reducible refine x_ofV (fa := fCMeth _ _ _) ?_
  | with_reducible refine x_ofV (fa := fCMethN _ _ _ _ _) ?_
  | with_reducible refine x_ofV (fa := fCallN _ _ _ _ _ _) ?_
  | with_reducible refine x_ofV (fa := fIsN _) ?_
  | with_reducible refine x_ofV (fa := fNotN _) ?_
  | with_reducible apply xl_nil
  | with_reducible refine xl_cons rfl ?_
  | (refine And.intro (show List.length _ ≤ 16777216 from by simp only [List.length_cons, List.length_nil]; decide) ?_)
  | (refine And.intro (show tyS _ = some _ from rfl) ?_)
  | (refine And.intro (show flat _ = true from rfl) ?_)
  | (refine And.intro (show List.length _ = _ from rfl) ?_)
  | (refine And.intro (show List.length _ < 16777216 from by simp only [List.length_cons, List.length_nil]; decide) ?_)
  | (refine And.intro (show List.map isOwn _ = List.map isOwn _ from rfl) ?_)
  | with_reducible apply tt_intro
  | with_reducible apply nt_intro
  | with_reducible apply nnf_intro
  | with_reducible apply nnt_intro
  | with_reducible apply nf_intro
  | with_reducible apply ff_intro
  | walk_at "set")
/-! ### the turns, sorted -/
def rots (m : List Nat) : List (List Nat) := (List.range (max 1 m.length)).map fun i => m.drop i ++ m.take i
theorem mem_rots {m g : List Nat} : g ∈ rots m ↔ Rot m g := by
  unfold rots
  rw [List.mem_map]
  constructor
  · rintro ⟨i, _, rfl⟩
    exact ⟨m.take i, m.drop i, (List.take_append_drop i m).symm, rfl⟩
  · rintro ⟨p, q, rfl, rfl⟩
    by_cases hq : q = []
    · subst hq
      refine ⟨0, List.mem_range.mpr (by omega), ?_⟩
      simp
    · have : 0 < q.length := List.length_pos_iff.mpr hq
      refine ⟨p.length, List.mem_range.mpr (by rw [List.length_append]; omega), ?_⟩
      rw [List.drop_left, List.take_left]
theorem sort_eq {A B : List Str} (h1 : A.Nodup) (h2 : B.Nodup) (h : ∀ z, z ∈ A ↔ z ∈ B) : sortS A = sortS B :=
  sort_uniq ((sort_perm A).trans (perm_nd h1 h2 h)) (sort_pair A)
theorem sW_nodup {R : List (List Nat)} (h : R.Nodup) : (R.map sW).Nodup := List.Pairwise.map sW (fun a b (hab : a ≠ b) e => hab (sW_inj.mp e)) h
/-- the turns of m, each once -/
def trn (m : List Nat) : List Str := ddup ((rots m).map sW)
theorem mem_trn {m : List Nat} {z : Str} : z ∈ trn m ↔ ∃ g, Rot m g ∧ z = sW g := by
  unfold trn
  rw [mem_ddup, List.mem_map]
  exact ⟨fun ⟨g, h, e⟩ => ⟨g, mem_rots.mp h, e.symm⟩, fun ⟨g, h, e⟩ => ⟨g, mem_rots.mpr h, e.symm⟩⟩
theorem trn_nd (m : List Nat) : (trn m).Nodup := nd_ddup _
theorem trn_R {m : List Nat} {R : List (List Nat)} (nr : R.Nodup) (hr : ∀ g, g ∈ R ↔ Rot m g) : sortS (R.map sW) = sortS (trn m) := sort_eq (sW_nodup nr) (trn_nd m) fun z => by
  rw [mem_trn, List.mem_map]
  exact ⟨fun ⟨g, h, e⟩ => ⟨g, (hr g).mp h, e.symm⟩, fun ⟨g, h, e⟩ => ⟨g, (hr g).mpr h, e.symm⟩⟩
theorem trn_rot {m k : List Nat} (h : Rot m k) : sortS (trn m) = sortS (trn k) := sort_eq (trn_nd m) (trn_nd k) fun z => by
  rw [mem_trn, mem_trn]
  exact ⟨fun ⟨g, h1, e⟩ => ⟨g, h.symm.trans h1, e⟩, fun ⟨g, h1, e⟩ => ⟨g, h.trans h1, e⟩⟩
theorem f_turns {m : List Nat} (hm : m.length ≤ 400) (few : (trn m).length < 64) : F_turns_of [.val (.str (sW m))] = some (.ok (.val (.lst ((sortS (trn m)).map .str))) none) := by
  refine Fp.eq (f_def rfl ?_)
  show X _ [_, _] _
  unfold B_turns_of
  repeat' walk_at "x"
  refine r_lenW (by omega) ?_
  repeat' walk_at "x"
  refine ⟨_, rfl, ?_⟩
  repeat' walk_at "x"
  have em : (if (m.length : Int) > 1 then (m.length : Int) else 1) = ((max 1 m.length : Nat) : Int) := by split <;> omega
  rw [em]
  refine ⟨by rw [lenR]; omega, ?_⟩
  refine x_lcI (fun i acc Γ => Γ = [.val (.str (sW m)), .no] ∧ acc = (List.range i.toNat).map fun i => wD (m.drop i ++ m.take i)) (by omega) ⟨rfl, rfl⟩ ?_ ?_
  · rintro i acc Γ i0 i1 ⟨rfl, rfl⟩
    refine ⟨_, rfl, rfl, ?_⟩
    show X _ [_, _] _
    repeat' walk_at "x"
    refine r_slFrom (k := i.toNat) (by omega) (by omega) ?_
    repeat' walk_at "x"
    refine r_slLow (k := i.toNat) (by omega) (by omega) (by omega) ?_
    repeat' walk_at "x"
    refine r_addW (by rw [List.length_drop]; omega) (by rw [List.length_take]; omega) ?_
    repeat' walk_at "x"
    refine ⟨rfl, ?_⟩
    rw [show (i + 1).toNat = i.toNat + 1 by omega, List.range_succ, List.map_append]
    rfl
  · rintro acc Γ ⟨rfl, rfl⟩
    repeat' walk_at "x"
    have e : ((List.range ((max 1 m.length : Nat) : Int).toNat).map fun i => wD (m.drop i ++ m.take i)) = ((rots m).map sW).map D.str := by
      rw [Int.toNat_natCast]
      unfold rots
      rw [List.map_map, List.map_map]
      rfl
    rw [e]
    refine e_sortSet (by rw [List.length_map]; unfold rots; rw [List.length_map, List.length_range]; omega) few ?_
    repeat' walk_at "x"
    exact ⟨rfl, rfl⟩
theorem wd_rot {n : Int} {f c m g : List Nat} (hn : Nl n) (hf : Wd n f) (hr : NR0 f c m) (h : Rot m g) : Wd n g := Base.inB_wd (w := f) (c := c) ⟨hn, hf, hr⟩ (.inr h)
theorem f_row_turns {n : Int} {f c m : List Nat} (hn : Nl n) (hf : Wd n f) (nf : f.length ≤ 400) (hr : NR0 f c m) (few : (trn m).length < 64) :
    F_row_turns [.val (rw' n f)] = some (.ok (.val (.tup ((sortS (trn m)).map fun z => .ins "Row" [("_letters", .int n), ("_word", .str z)]))) none) := by
  obtain ⟨c', m', h1, h2⟩ := f_neck0 (hf.a hn) hf.S (by omega)
  obtain ⟨rfl, rfl⟩ := nr0_uniq (hf.a hn) hr h1
  refine Fp.eq (f_def rfl ?_)
  show X _ [_, _, _] _
  unfold B_row_turns
  repeat' walk_at "x"
  refine x_callF rfl (fp_of f_check ?_)
  repeat' walk_at "x"
  refine x_callF rfl (fp_of f_word ?_)
  repeat' walk_at "x"
  refine x_callF rfl (fp_of h2 ?_)
  repeat' walk_at "x"
  refine x_callF rfl (fp_of (f_turns (by have := congrArg List.length hr.e; simp only [List.length_append] at this; omega) few) ?_)
  repeat' walk_at "x"
  refine ⟨by rw [List.length_map, (sort_perm _).length_eq]; omega, ?_⟩
  have al : ∀ z ∈ sortS (trn m), ∃ g, z = sW g ∧ Wd n g := fun z hz => by
    obtain ⟨g, h, e⟩ := mem_trn.mp ((sort_perm _).mem_iff.mp hz)
    exact ⟨g, e, wd_rot hn hf hr h⟩
  have lg : ∀ g, sW g ∈ sortS (trn m) → g.length ≤ 400 := fun g hg => by
    obtain ⟨g', h, e⟩ := mem_trn.mp ((sort_perm _).mem_iff.mp hg)
    rw [sW_inj.mp e, h.len]
    have := congrArg List.length hr.e
    simp only [List.length_append] at this
    omega
  generalize sortS (trn m) = L at *
  refine x_lcL (fun ds acc Γ => Γ = [.val (rw' n f), .val (.str (sW m)), .no] ∧ ∃ l k : List Str, l ++ k = L ∧ ds = k.map D.str ∧ acc = l.map fun z => .ins "Row" [("_letters", .int n), ("_word", .str z)]) ⟨rfl, [], L, rfl, rfl, rfl⟩ ?_ ?_
  · rintro d ds acc Γ ⟨rfl, l, k, e, e2, rfl⟩
    cases k with
    | nil => cases e2
    | cons z k =>
      rw [List.map_cons] at e2
      cases e2
      obtain ⟨g, rfl, wg⟩ := al z (by rw [← e]; simp)
      have gl := lg g (by rw [← e]; simp)
      refine ⟨_, rfl, rfl, ?_⟩
      show X _ [_, _, _] _
      repeat' walk_at "x"
      refine x_callF rfl (fp_of f_letters ?_)
      repeat' walk_at "x"
      refine fp_of (f_init hn.lo hn.hi wg.L gl) ⟨rfl, _, _, rfl, ?_⟩
      rw [wg.e hn]
      repeat' walk_at "x"
      exact ⟨rfl, l ++ [sW g], k, by rw [List.append_assoc]; exact e, rfl, by rw [List.map_append]; rfl⟩
  · rintro acc Γ ⟨rfl, l, k, e, e2, rfl⟩
    cases k with
    | cons _ _ => cases e2
    | nil =>
      rw [List.append_nil] at e
      subst e
      repeat' walk_at "x"
      exact ⟨rfl, rfl⟩
end Ks

set_option linter.all false
set_option maxRecDepth 100000
set_option pp.maxSteps 500
set_option maxHeartbeats 1000000
namespace Ks
open PySem PySem.Spec PyProof.Rows L2 DF TL NumText
variable [TbC]
/-! ### one step -/
local macro_rules | `(tactic| walk_at "set") => `(tactic| (refine' e_set ?qa ?_; (case qa => (simp only [wipeF, backF, List.set, List.getD_cons_succ, List.getD_cons_zero, Int.reduceToNat]; rfl))))
local macro_rules | `(tactic| walk_at "cnd") => `(tactic| first | assumption | decide | omega)
local macro_rules | `(tactic| walk_at "mul") => `(tactic| first | exact mulOk_r (by decide) (by decide) | exact mulOk_l (by decide) (by decide) | exact mulOk_l (by omega) (by omega) | exact mulOk_r (by omega) (by omega))
local macro_rules | `(tactic| walk_at "x") => `(tactic| first
  | with_reducible apply x_seq
  | with_reducible apply k_nx
  | with_reducible apply k_rt
  | with_reducible apply x_nx
  | with_reducible refine x_asgK (fa := fLstO _) ?_
  | with_reducible refine x_asgK (fa := fLcO _ _ _ _ _) ?_
  | with_reducible apply ak_own
  | with_reducible apply ak_val
  | with_reducible apply x_asg
  | with_reducible refine x_retK (fa := fLstO _) ?_
  | with_reducible apply rk_own
  | with_reducible apply x_ret
  | with_reducible apply x_ifS
  | with_reducible apply x_asgG
  | with_reducible apply x_drop
  | with_reducible apply x_par
  | with_reducible apply x_par3
  | with_reducible apply x_asg3
  | with_reducible apply x_for
  | with_reducible refine x_aug ⟨_, rfl, ?_⟩
  | with_reducible apply xv_c
  | (with_reducible refine xv_var rfl ?_)
  | (with_reducible refine x_varV rfl ?_)
  | (with_reducible refine x_varO rfl ?_)
  | with_reducible apply xv_op
  | with_reducible apply xv_un
  | with_reducible apply xv_cb
  | with_reducible apply xs_nil
  | with_reducible apply xs_cons
  | with_reducible apply xa_nil
  | with_reducible apply xa_cons
  | with_reducible apply xv_tup
  | with_reducible apply xv_lst
  | with_reducible apply x_lstO
  | with_reducible apply xv_if
  | with_reducible apply xv_andV
  | with_reducible apply xv_orV
  | with_reducible apply xv_notV
  | with_reducible apply xv_isN
  | with_reducible apply xv_notN
  | with_reducible apply xt_test
  | with_reducible apply xt_tru
  | with_reducible apply xt_not
  | with_reducible apply xt_and
  | with_reducible apply xt_or
  | with_reducible apply xt_yes
  | with_reducible apply xv_call
  | with_reducible apply xv_callN
  | with_reducible apply xv_cmeth
  | with_reducible apply xv_cmethN
  | with_reducible apply xv_fld
  | with_reducible apply xv_prop
  | with_reducible apply x_setF
  | with_reducible apply xv_make
  | with_reducible apply xv_makeN
  | (with_reducible refine xv_makeL rfl ?_)
  | with_reducible apply xg_name
  | with_reducible apply xg_nil
  | with_reducible apply xg_cons
  | (with_reducible refine xg_tup rfl ?_)
  | (with_reducible refine xg_unl rfl ?_)
  | (with_reducible refine xg_sub rfl ?_)
  | (with_reducible refine xv_ixO rfl ?_)
  | ((with_reducible refine' xv_pk ?qa ?_); (case qa => (simp only [List.map, seeO, odD]; rfl)))
  | ((with_reducible refine' xt_pk ?qa ?_); (case qa => (simp only [List.map, seeO, odD]; rfl)))
  | with_reducible apply xv_bm
  | with_reducible apply xv_bm0
  | with_reducible apply xv_sl
  | with_reducible apply xo_no
  | with_reducible apply xo_some
  | with_reducible apply xv_revS
  | with_reducible apply xv_revL
  | with_reducible apply xv_fmt
  | with_reducible apply xw_any
  | with_reducible apply xw_rng1
  | with_reducible apply xw_rng2
  | with_reducible apply xv_lc
  | with_reducible apply vk_val
  | with_reducible apply bk_none
  | with_reducible apply bk_tmp
  | (with_reducible refine bk_slot rfl ?_)
  | with_reducible apply rk_val
  | with_reducible apply fk_nx
  | with_reducible apply fk_rt
  | ((with_reducible refine' e_par ?qa ?_); (case qa => (simp only [List.set]; rfl)))
  | ((with_reducible refine' e_par3 ?qa ?_); (case qa => (simp only [List.set]; rfl)))
  | ((with_reducible refine' e_ixO ?qa ?qb ?_); (case qa => exact rfl); (case qb => exact rfl))
  | ((with_reducible refine' e_sub ?qa ?qb ?qc ?_); (case qa => exact rfl); (case qb => exact rfl); (case qc => (simp only [List.set, Int.reduceToNat]; rfl)))
  | ((with_reducible refine' e_setF ?qa ?qb ?qc ?_); (case qa => exact rfl); (case qb => (simp only [List.length_cons, List.length_nil]; decide)); (case qc => (simp only [List.set, Int.reduceToNat]; rfl)))
  | ((with_reducible refine' e_fields ?qa ?qb ?_); (case qa => exact rfl); (case qb => exact rfl))
  | ((with_reducible refine' e_has ?qa ?_); (case qa => exact rfl))
  | with_reducible apply r_addI
  | with_reducible apply r_sub
  | with_reducible apply r_lt
  | with_reducible apply r_gt
  | with_reducible apply r_le
  | with_reducible apply r_ge
  | with_reducible apply r_int
  | with_reducible apply r_intB
  | with_reducible apply r_abs
  | with_reducible refine r_dec2 (fun h => ?_) (fun h => ?_)
  | with_reducible refine r_decN2 (fun h => ?_) (fun h => ?_)
  | with_reducible refine r_decM2 (fun h => ?_) (fun h => ?_)
  | with_reducible apply r_bool
  | with_reducible apply r_truB
  | with_reducible apply r_len
  | with_reducible apply r_lenS
  | with_reducible apply r_orEqS
  | with_reducible apply r_orNeS
  | with_reducible apply r_orEqI
  | with_reducible apply r_orNeI
  | with_reducible apply xv_joined
  | with_reducible apply xj_cons
  | with_reducible apply xj_nil
  | with_reducible apply r_eqI
  | with_reducible apply r_neI
  | with_reducible apply r_eqS
  | with_reducible apply r_neS
  | ((with_reducible refine' e_addD ?qa ?_); (case qa => exact rfl))
  | ((with_reducible refine' e_subD ?qa ?_); (case qa => exact rfl))
  | ((with_reducible refine' r_mul ?qa ?_); (case qa => walk_at "mul"))
  | ((with_reducible refine' r_mod ?qa ?_); (case qa => walk_at "cnd"))
  | ((with_reducible refine' r_fdiv ?qa ?qb ?_); (case qa => walk_at "cnd"); (case qb => walk_at "cnd"))
  | ((with_reducible refine' r_divmod ?qa ?qb ?_); (case qa => walk_at "cnd"); (case qb => walk_at "cnd"))
  | ((with_reducible refine' e_ltD ?qa ?_); (case qa => exact rfl))
  | ((with_reducible refine' e_leD ?qa ?_); (case qa => exact rfl))
  | ((with_reducible refine' e_gtD ?qa ?_); (case qa => exact rfl))
  | ((with_reducible refine' e_geD ?qa ?_); (case qa => exact rfl))
  | ((with_reducible refine' e_negD ?qa ?_); (case qa => exact rfl))
  | ((with_reducible refine' e_ixD ?qa ?_); (case qa => exact rfl))
  | ((with_reducible refine' e_intD ?qa ?_); (case qa => exact rfl))
  | ((with_reducible refine' e_absD ?qa ?_); (case qa => exact rfl))
  | ((with_reducible refine' e_intOf ?qa ?_); (case qa => exact rfl))
  | ((with_reducible refine' e_tupOf ?qa ?_); (case qa => exact rfl))
  | ((with_reducible refine' e_lstOf ?qa ?_); (case qa => exact rfl))
  | ((with_reducible refine' e2_boolOf ?qa ?_ ?_); (case qa => exact rfl))
  | ((with_reducible refine' e_boolOf ?qa ?_); (case qa => exact rfl))
  | ((with_reducible refine' e_truD ?qa ?_); (case qa => exact rfl))
  | ((with_reducible refine' e_itemsOf ?qa ?_); (case qa => exact rfl))
  | ((with_reducible refine' e_slD ?qa ?_); (case qa => exact rfl))
  | ((with_reducible refine' e_isiD ?qa ?_); (case qa => exact rfl))
  | ((with_reducible refine' e_boolI ?qa ?_); (case qa => exact rfl))
  | ((with_reducible refine' e_rng ?qa ?_); (case qa => exact ⟨by omega, by omega⟩))
  | with_reducible apply e_some
  | with_reducible apply e_str
  | with_reducible apply e_rev
  | ((with_reducible refine' en_val ?qa ?_); (case qa => exact rfl))
  | ((with_reducible refine' en_own ?qa ?_); (case qa => exact rfl))
  | ((with_reducible refine' en_nx ?qa ?_); (case qa => exact rfl))
  | with_reducible apply x_call
  | with_reducible refine x_ofV (fa := fC _) ?_
  | with_reducible refine x_ofV (fa := fOp _ _ _) ?_
  | with_reducible refine x_ofV (fa := fUn _ _) ?_
  | with_reducible refine x_ofV (fa := fCB _ _) ?_
  | with_reducible refine x_ofV (fa := fTup _) ?_
  | with_reducible refine x_ofV (fa := fLst _) ?_
  | with_reducible refine x_ofV (fa := fBM _ _ _ _) ?_
  | with_reducible refine x_ofV (fa := fBM0 _ _ _) ?_
  | with_reducible refine x_ofV (fa := fLc _ _ _ _ _) ?_
  | with_reducible refine x_ofV (fa := fFld _ _ _) ?_
  | with_reducible refine x_ofV (fa := fProp _ _ _) ?_
  | with_reducible refine x_ofV (fa := fMake _ _ _) ?_
  | with_reducible refine x_ofV (fa := fMakeN _ _ _ _ _ _ _) ?_
  | with_reducible refine x_ofV (fa := fSl _ _ _) ?_
  | with_reducible refine x_ofV (fa := fJoined _) ?_
  | with_reducible refine x_ofV (fa := fAndV _ _) ?_
  | with_reducible refine x_ofV (fa := fOrV _ _) ?_
  | with_reducible refine x_ofV (fa := fNotV _) ?_
  | with_reducible refine x_ofV (fa := fIf _ _ _) ?_
  | with_reducible refine x_ofV (fa := fIxO _ _) ?_
  | with_reducible refine x_ofV (fa := fCMeth _ _ _) ?_
  | with_reducible refine x_ofV (fa := fCMethN _ _ _ _ _) ?_
  | with_reducible refine x_ofV (fa := fCallN _ _ _ _ _ _) ?_
  | with_reducible refine x_ofV (fa := fIsN _) ?_
  | with_reducible refine x_ofV (fa := fNotN _) ?_
  | with_reducible apply xl_nil
  | with_reducible refine xl_cons rfl ?_
  | (refine And.intro (show List.length _ ≤ 16777216 from by simp only [List.length_cons, List.length_nil]; decide) ?_)
  | (refine And.intro (show tyS _ = some _ from rfl) ?_)
  | (refine And.intro (show flat _ = true from rfl) ?_)
  | (refine And.intro (show List.length _ = _ from rfl) ?_)
  | (refine And.intro (show List.length _ < 16777216 from by simp only [List.length_cons, List.length_nil]; decide) ?_)
  | (refine And.intro (show List.map isOwn _ = List.map isOwn _ from rfl) ?_)
  | with_reducible apply tt_intro
  | with_reducible apply nt_intro
  | with_reducible apply nnf_intro
  | with_reducible apply nnt_intro
  | with_reducible apply nf_intro
  | with_reducible apply ff_intro
  | walk_at "set")
abbrev mkR (n : Int) (z : Str) : D := .ins "Row" [("_letters", .int n), ("_word", .str z)]
theorem f_eq2 {n m : Int} {z y : Str} : F_Row_eq [.val (mkR n z), .val (mkR m y)] = some (.ok (.val (.bl (decide (n = m) && decide (z = y)))) none) := by
  refine Fp.eq (f_def rfl ?_)
  show X _ [_, _] _
  unfold B_Row_eq
  repeat' walk_at "x"
  · refine ⟨?_, rfl⟩
    rw [decide_eq_true ‹n = m›, Bool.true_and]
  · refine ⟨?_, rfl⟩
    rw [decide_eq_false ‹¬ n = m›, Bool.false_and]
theorem same_rows {n : Int} : ∀ L : List Str, allT cs_ tb_ "Row" F_Row_eq (L.map (mkR n)) (L.map (mkR n)) = true
  | [] => rfl
  | z :: L => by
    show (sameI cs_ tb_ "Row" F_Row_eq (mkR n z) (mkR n z) && allT cs_ tb_ "Row" F_Row_eq (L.map (mkR n)) (L.map (mkR n))) = true
    rw [same_rows L, Bool.and_true]
    have e : eqI cs_ tb_ "Row" F_Row_eq false (mkR n z) (mkR n z) = some (.bl true) := by
      obtain ⟨w, h1, h2⟩ := r_eqIns (cs := cs_) (tb := tb_) (neg := false) (Φ := fun w => w = .bl true) (show behind "Row" tb_ (mkR n z) = true from rfl) (show inCs cs_ (mkR n z) = true from rfl) (f_eq2 (n := n) (m := n) (z := z) (y := z)) (by rw [decide_eq_true rfl, decide_eq_true rfl]; rfl)
      rw [h1, h2]
    show (match eqI cs_ tb_ "Row" F_Row_eq false (mkR n z) (mkR n z) with | some (.bl true) => true | _ => false) = true
    rw [e]
theorem ne_rows {n : Int} {z : Str} {L : List Str} {Φ : D → Prop} (p : Φ (.bl false)) : ∃ w, orD neD (eqT cs_ tb_ "Row" F_Row_eq false) (.tup ((z :: L).map (mkR n))) (.tup ((z :: L).map (mkR n))) = some w ∧ Φ w := by
  refine r_orT ?_ (same_rows _) p
  unfold neD
  have : eqB (.tup ((z :: L).map (mkR n))) (.tup ((z :: L).map (mkR n))) = none := by
    unfold eqB
    exact if_neg fun h => by cases h.1
  rw [this]
  rfl
theorem ix_hdT {d : D} {ds : List D} : ixD (.tup (d :: ds)) (.int 0) = some d := (atI_nat (n := 0) (ds := d :: ds)).trans rfl
theorem ix_hdL {d : D} {ds : List D} : ixD (.lst (d :: ds)) (.int 0) = some d := (atI_nat (n := 0) (ds := d :: ds)).trans rfl
theorem f_least {n : Int} {f c m : List Nat} {z : Str} {L : List Str} (hn : Nl n) (hf : Wd n f) (nf : f.length ≤ 400) (hr : NR0 f c m) (few : (trn m).length < 64) (e : sortS (trn m) = z :: L) :
    F_row_least [.val (rw' n f)] = some (.ok (.val (mkR n z)) none) := by
  refine Fp.eq (f_def rfl ?_)
  show X _ [_] _
  unfold B_row_least
  repeat' walk_at "x"
  refine x_callF rfl (fp_of (f_row_turns hn hf nf hr few) ?_)
  rw [e]
  repeat' walk_at "x"
  refine e_ixD ix_hdT ?_
  repeat' walk_at "x"
  exact ⟨rfl, rfl⟩
theorem f_letters2 {n : Int} {z : Str} : F_Row_letters [.val (mkR n z)] = some (.ok (.val (.int n)) none) := by kernel_rfl
theorem f_word2 {n : Int} {z : Str} : F_Row_word [.val (mkR n z)] = some (.ok (.val (.str z)) none) := by kernel_rfl
theorem mul_int {n : Int} {k : Nat} (h : k ≤ 1000) : mulD (.lst [.int n]) (.int k) = some (.lst (List.replicate k (.int n))) := by
  show (if (0 : Int) ≤ k ∧ (k : Int) ≤ 1000000 ∧ [D.int n].length * (k : Int).toNat ≤ 16777216 then some (D.lst (List.replicate (k : Int).toNat [D.int n]).flatten) else none) = _
  rw [if_pos ⟨by omega, by omega, by simp; omega⟩, Int.toNat_natCast]
  congr 2
  induction k with
  | zero => rfl
  | succ k ih => rw [List.replicate_succ, List.flatten_cons, ih (by omega)]; rfl
theorem ok_rep {i : Int} (h : i.natAbs < 10 ^ 200) : ∀ k, okL (List.replicate k (D.int i)) ∧ depL (List.replicate k (D.int i)) = 0
  | 0 => ⟨trivial, rfl⟩
  | k + 1 => by
    rw [List.replicate_succ]
    exact ⟨⟨h, (ok_rep h k).1⟩, by show max 0 (depL _) = 0; rw [(ok_rep h k).2]; rfl⟩
theorem f_turns_right {n : Int} {f c m : List Nat} (hn : Nl n) (hf : Wd n f) (nf : f.length ≤ 400) (hr : NR0 f c m) (few : (trn m).length < 64) :
    F_l_turns_right [.val (.int n), .val (.str (sW f)), .val (.lst ((sortS (trn m)).map .str))] = some (.ok (.val (.bl true)) none) := by
  have co : ∀ z ∈ sortS (trn m), ∀ c ∈ tl z, c < 1114112 := fun z hz => by
    obtain ⟨g, h, e⟩ := mem_trn.mp ((sort_perm _).mem_iff.mp hz)
    rw [e]
    exact ((wd_rot hn hf hr h).a hn).code
  have ft := f_row_turns hn hf nf hr few
  have len : (sortS (trn m)).length < 64 := by rw [(sort_perm _).length_eq]; exact few
  obtain ⟨z, L, e⟩ : ∃ z L, sortS (trn m) = z :: L := by
    cases e : sortS (trn m) with
    | nil =>
      have : sW m ∈ sortS (trn m) := (sort_perm _).mem_iff.mpr (mem_trn.mpr ⟨m, Rot.refl m, rfl⟩)
      rw [e] at this
      cases this
    | cons z L => exact ⟨z, L, rfl⟩
  have fl := f_least hn hf nf hr few e
  rw [e] at ft co len ⊢
  refine Fp.eq (f_def rfl ?_)
  show X _ [_, _, _, _, _, _] _
  unfold B_l_turns_right
  repeat' walk_at "x"
  refine fp_of (f_init hn.lo hn.hi hf.L nf) ⟨rfl, _, _, rfl, ?_⟩
  rw [hf.e hn]
  repeat' walk_at "x"
  refine x_callF rfl (fp_of ft ?_)
  repeat' walk_at "x"
  refine x_callF rfl (fp_of ft ?_)
  repeat' walk_at "x"
  refine r_orL (r_ne (b := true) rfl rfl rfl ?_)
  repeat' walk_at "x"
  refine ne_rows ?_
  repeat' walk_at "x"
  refine ⟨by rw [List.length_map]; exact Nat.lt_trans len (by decide), ?_⟩
  refine x_lcL (fun ds acc Γ => Γ = [.val (.int n), .val (.str (sW f)), .val (.lst (List.map D.str (z :: L))), .val (mkR n (sW f)), .val (.lst [.tup ((z :: L).map (mkR n)), .tup ((z :: L).map (mkR n))]), .no] ∧ ∃ l k : List Str, l ++ k = z :: L ∧ ds = k.map (mkR n) ∧ acc = l.map D.str) ⟨rfl, [], z :: L, rfl, rfl, rfl⟩ ?_ ?_
  · rintro d ds acc Γ ⟨rfl, l, k, e, e2, rfl⟩
    cases k with
    | nil => cases e2
    | cons y k =>
      rw [List.map_cons] at e2
      cases e2
      refine ⟨_, rfl, rfl, ?_⟩
      show X _ [_, _, _, _, _, _] _
      repeat' walk_at "x"
      refine x_callF rfl (fp_of f_word2 ?_)
      repeat' walk_at "x"
      exact ⟨rfl, l ++ [y], k, by rw [List.append_assoc]; exact e, rfl, by rw [List.map_append]; rfl⟩
  rintro acc Γ ⟨rfl, l, k, e2, e3, rfl⟩
  cases k with
  | cons _ _ => cases e3
  | nil =>
  rw [List.append_nil] at e2
  subst e2
  repeat' walk_at "x"
  refine r_orL (r_ne (okEq_strs co) (okEq_strs co) eqv_strs ?_)
  repeat' walk_at "x"
  rotate_left
  · exact absurd rfl ‹¬ _›
  refine ⟨by rw [List.length_map]; exact Nat.lt_trans len (by decide), ?_⟩
  refine x_lcL (fun ds acc Γ => Γ = [.val (.int n), .val (.str (sW f)), .val (.lst (List.map D.str (z :: L))), .val (mkR n (sW f)), .val (.lst [.tup ((z :: L).map (mkR n)), .tup ((z :: L).map (mkR n))]), .no] ∧ ∃ l k : List Str, l ++ k = z :: L ∧ ds = k.map (mkR n) ∧ acc = List.replicate l.length (.int n)) ⟨rfl, [], z :: L, rfl, rfl, rfl⟩ ?_ ?_
  · rintro d ds acc Γ ⟨rfl, l, k, e, e2, rfl⟩
    cases k with
    | nil => cases e2
    | cons y k =>
      rw [List.map_cons] at e2
      cases e2
      refine ⟨_, rfl, rfl, ?_⟩
      show X _ [_, _, _, _, _, _] _
      repeat' walk_at "x"
      refine x_callF rfl (fp_of f_letters2 ?_)
      repeat' walk_at "x"
      exact ⟨rfl, l ++ [y], k, by rw [List.append_assoc]; exact e, rfl, by rw [List.length_append, List.length_singleton, List.replicate_succ']⟩
  rintro acc Γ ⟨rfl, l, k, e2, e3, rfl⟩
  cases k with
  | cons _ _ => cases e3
  | nil =>
  rw [List.append_nil] at e2
  subst e2
  repeat' walk_at "x"
  rw [List.length_map]
  refine ⟨_, mul_int (by omega), ?_⟩
  have ok := ok_rep (i := n) (show n.natAbs < 10 ^ 200 from Nat.lt_of_le_of_lt (show n.natAbs ≤ 4 by have := hn.lo; have := hn.hi; omega) (by decide +kernel)) (z :: L).length
  refine r_orL (r_neSelf (x := .lst (List.replicate (z :: L).length (.int n))) ok.1 (by show depL _ + 1 ≤ 64; rw [ok.2]; decide) ?_)
  repeat' walk_at "x"
  refine x_callF rfl (fp_of fl ?_)
  repeat' walk_at "x"
  refine x_callF rfl (fp_of f_word2 ?_)
  repeat' walk_at "x"
  refine x_callF rfl (fp_of fl ?_)
  repeat' walk_at "x"
  refine x_callF rfl (fp_of f_word2 ?_)
  repeat' walk_at "x"
  refine e_ixD ix_hdL ?_
  repeat' walk_at "x"
  refine e_ixD ix_hdL ?_
  repeat' walk_at "x"
  have cz := co z List.mem_cons_self
  refine r_orL (r_eqSelf (x := .lst [.str z, .str z]) ⟨cz, cz, trivial⟩ (by show max 0 (max 0 0) + 1 ≤ 64; decide) ?_)
  repeat' walk_at "x"
  exact ⟨rfl, rfl⟩
end Ks

set_option linter.all false
set_option maxRecDepth 100000
set_option pp.maxSteps 500
set_option maxHeartbeats 1000000
namespace Ks
open PySem PySem.Spec PyProof.Rows L2 DF TL NumText
variable [TbC]
/-! ### one step -/
local macro_rules | `(tactic| walk_at "set") => `(tactic| (refine' e_set ?qa ?_; (case qa => (simp only [wipeF, backF, List.set, List.getD_cons_succ, List.getD_cons_zero, Int.reduceToNat]; rfl))))
local macro_rules | `(tactic| walk_at "cnd") => `(tactic| first | assumption | decide | omega)
local macro_rules | `(tactic| walk_at "mul") => `(tactic| first | exact mulOk_r (by decide) (by decide) | exact mulOk_l (by decide) (by decide) | exact mulOk_l (by omega) (by omega) | exact mulOk_r (by omega) (by omega))
local macro_rules | `(tactic| walk_at "x") => `(tactic| first
  | with_reducible apply x_seq
  | with_reducible apply k_nx
  | with_reducible apply k_rt
  | with_reducible apply x_nx
  | with_reducible refine x_asgK (fa := fLstO _) ?_
  | with_reducible refine x_asgK (fa := fLcO _ _ _ _ _) ?_
  | with_reducible apply ak_own
  | with_reducible apply ak_val
  | with_reducible apply x_asg
  | with_reducible refine x_retK (fa := fLstO _) ?_
  | with_reducible apply rk_own
  | with_reducible apply x_ret
  | with_reducible apply x_ifS
  | with_reducible apply x_asgG
  | with_reducible apply x_drop
  | with_reducible apply x_par
  | with_reducible apply x_par3
  | with_reducible apply x_asg3
  | with_reducible apply x_for
  | with_reducible refine x_aug ⟨_, rfl, ?_⟩
  | with_reducible apply xv_c
  | (with_reducible refine xv_var rfl ?_)
  | (with_reducible refine x_varV rfl ?_)
  | (with_reducible refine x_varO rfl ?_)
  | with_reducible apply xv_op
  | with_reducible apply xv_un
  | with_reducible apply xv_cb
  | with_reducible apply xs_nil
  | with_reducible apply xs_cons
  | with_reducible apply xa_nil
  | with_reducible apply xa_cons
  | with_reducible apply xv_tup
  | with_reducible apply xv_lst
  | with_reducible apply x_lstO
  | with_reducible apply xv_if
  | with_reducible apply xv_andV
  | with_reducible apply xv_orV
  | with_reducible apply xv_notV
  | with_reducible apply xv_isN
  | with_reducible apply xv_notN
  | with_reducible apply xt_test
  | with_reducible apply xt_tru
  | with_reducible apply xt_not
  | with_reducible apply xt_and
  | with_reducible apply xt_or
  | with_reducible apply xt_yes
  | with_reducible apply xv_call
  | with_reducible apply xv_callN
  | with_reducible apply xv_cmeth
  | with_reducible apply xv_cmethN
  | with_reducible apply xv_fld
  | with_reducible apply xv_prop
  | with_reducible apply x_setF
  | with_reducible apply xv_make
  | with_reducible apply xv_makeN
  | (with_reducible refine xv_makeL rfl ?_)
  | with_reducible apply xg_name
  | with_reducible apply xg_nil
  | with_reducible apply xg_cons
  | (with_reducible refine xg_tup rfl ?_)
  | (with_reducible refine xg_unl rfl ?_)
  | (with_reducible refine xg_sub rfl ?_)
  | (with_reducible refine xv_ixO rfl ?_)
  | ((with_reducible refine' xv_pk ?qa ?_); (case qa => (simp only [List.map, seeO, odD]; rfl)))
  | ((with_reducible refine' xt_pk ?qa ?_); (case qa => (simp only [List.map, seeO, odD]; rfl)))
  | with_reducible apply xv_bm
  | with_reducible apply xv_bm0
  | with_reducible apply xv_sl
  | with_reducible apply xo_no
  | with_reducible apply xo_some
  | with_reducible apply xv_revS
  | with_reducible apply xv_revL
  | with_reducible apply xv_fmt
  | with_reducible apply xw_any
  | with_reducible apply xw_rng1
  | with_reducible apply xw_rng2
  | with_reducible apply xv_lc
  | with_reducible apply vk_val
  | with_reducible apply bk_none
  | with_reducible apply bk_tmp
  | (with_reducible refine bk_slot rfl ?_)
  | with_reducible apply rk_val
  | with_reducible apply fk_nx
  | with_reducible apply fk_rt
  | ((with_reducible refine' e_par ?qa ?_); (case qa => (simp only [List.set]; rfl)))
  | ((with_reducible refine' e_par3 ?qa ?_); (case qa => (simp only [List.set]; rfl)))
  | ((with_reducible refine' e_ixO ?qa ?qb ?_); (case qa => exact rfl); (case qb => exact rfl))
  | ((with_reducible refine' e_sub ?qa ?qb ?qc ?_); (case qa => exact rfl); (case qb => exact rfl); (case qc => (simp only [List.set, Int.reduceToNat]; rfl)))
  | ((with_reducible refine' e_setF ?qa ?qb ?qc ?_); (case qa => exact rfl); (case qb => (simp only [List.length_cons, List.length_nil]; decide)); (case qc => (simp only [List.set, Int.reduceToNat]; rfl)))
  | ((with_reducible refine' e_fields ?qa ?qb ?_); (case qa => exact rfl); (case qb => exact rfl))
  | ((with_reducible refine' e_has ?qa ?_); (case qa => exact rfl))
  | with_reducible apply r_addI
  | with_reducible apply r_sub
  | with_reducible apply r_lt
  | with_reducible apply r_gt
  | with_reducible apply r_le
  | with_reducible apply r_ge
  | with_reducible apply r_int
  | with_reducible apply r_intB
  | with_reducible apply r_abs
  | with_reducible refine r_dec2 (fun h => ?_) (fun h => ?_)
  | with_reducible refine r_decN2 (fun h => ?_) (fun h => ?_)
  | with_reducible refine r_decM2 (fun h => ?_) (fun h => ?_)
  | with_reducible apply r_bool
  | with_reducible apply r_truB
  | with_reducible apply r_len
  | with_reducible apply r_lenS
  | with_reducible apply r_orEqS
  | with_reducible apply r_orNeS
  | with_reducible apply r_orEqI
  | with_reducible apply r_orNeI
  | with_reducible apply xv_joined
  | with_reducible apply xj_cons
  | with_reducible apply xj_nil
  | with_reducible apply r_eqI
  | with_reducible apply r_neI
  | with_reducible apply r_eqS
  | with_reducible apply r_neS
  | ((with_reducible refine' e_addD ?qa ?_); (case qa => exact rfl))
  | ((with_reducible refine' e_subD ?qa ?_); (case qa => exact rfl))
  | ((with_reducible refine' r_mul ?qa ?_); (case qa => walk_at "mul"))
  | ((with_reducible refine' r_mod ?qa ?_); (case qa => walk_at "cnd"))
  | ((with_reducible refine' r_fdiv ?qa ?qb ?_); (case qa => walk_at "cnd"); (case qb => walk_at "cnd"))
  | ((with_reducible refine' r_divmod ?qa ?qb ?_); (case qa => walk_at "cnd"); (case qb => walk_at "cnd"))
  | ((with_reducible refine' e_ltD ?qa ?_); (case qa => exact rfl))
  | ((with_reducible refine' e_leD ?qa ?_); (case qa => exact rfl))
  | ((with_reducible refine' e_gtD ?qa ?_); (case qa => exact rfl))
  | ((with_reducible refine' e_geD ?qa ?_); (case qa => exact rfl))
  | ((with_reducible refine' e_negD ?qa ?_); (case qa => exact rfl))
  | ((with_reducible refine' e_ixD ?qa ?_); (case qa => exact rfl))
  | ((with_reducible refine' e_intD ?qa ?_); (case qa => exact rfl))
  | ((with_reducible refine' e_absD ?qa ?_); (case qa => exact rfl))
  | ((with_reducible refine' e_intOf ?qa ?_); (case qa => exact rfl))
  | ((with_reducible refine' e_tupOf ?qa ?_); (case qa => exact rfl))
  | ((with_reducible refine' e_lstOf ?qa ?_); (case qa => exact rfl))
  | ((with_reducible refine' e2_boolOf ?qa ?_ ?_); (case qa => exact rfl))
  | ((with_reducible refine' e_boolOf ?qa ?_); (case qa => exact rfl))
  | ((with_reducible refine' e_truD ?qa ?_); (case qa => exact rfl))
  | ((with_reducible refine' e_itemsOf ?qa ?_); (case qa => exact rfl))
  | ((with_reducible refine' e_slD ?qa ?_); (case qa => exact rfl))
  | ((with_reducible refine' e_isiD ?qa ?_); (case qa => exact rfl))
  | ((with_reducible refine' e_boolI ?qa ?_); (case qa => exact rfl))
  | ((with_reducible refine' e_rng ?qa ?_); (case qa => exact ⟨by omega, by omega⟩))
  | with_reducible apply e_some
  | with_reducible apply e_str
  | with_reducible apply e_rev
  | ((with_reducible refine' en_val ?qa ?_); (case qa => exact rfl))
  | ((with_reducible refine' en_own ?qa ?_); (case qa => exact rfl))
  | ((with_reducible refine' en_nx ?qa ?_); (case qa => exact rfl))
  | with_reducible apply x_call
  | with_reducible refine x_ofV (fa := fC _) ?_
  | with_reducible refine x_ofV (fa := fOp _ _ _) ?_
  | with_reducible refine x_ofV (fa := fUn _ _) ?_
  | with_reducible refine x_ofV (fa := fCB _ _) ?_
  | with_reducible refine x_ofV (fa := fTup _) ?_
  | with_reducible refine x_ofV (fa := fLst _) ?_
  | with_reducible refine x_ofV (fa := fBM _ _ _ _) ?_
  | with_reducible refine x_ofV (fa := fBM0 _ _ _) ?_
  | with_reducible refine x_ofV (fa := fLc _ _ _ _ _) ?_
  | with_reducible refine x_ofV (fa := fFld _ _ _) ?_
  | with_reducible refine x_ofV (fa := fProp _ _ _) ?_
  | with_reducible refine x_ofV (fa := fMake _ _ _) ?_
  | with_reducible refine x_ofV (fa := fMakeN _ _ _ _ _ _ _) ?_
  | with_reducible refine x_ofV (fa := fSl _ _ _) ?_
  | with_reducible refine x_ofV (fa := fJoined _) ?_
  | with_reducible refine x_ofV (fa := fAndV _ _) ?_
  | with_reducible refine x_ofV (fa := fOrV _ _) ?_
  | with_reducible refine x_ofV (fa := fNotV _) ?_
  | with_reducible refine x_ofV (fa := fIf _ _ _) ?_
  | with_reducible refine x_ofV (fa := fIxO _ _) ?_
  | with_reducible refine x_ofV (fa := fCMeth _ _ _) ?_
  | with_reducible refine x_ofV (fa := fCMethN _ _ _ _ _) ?_
  | with_reducible refine x_ofV (fa := fCallN _ _ _ _ _ _) ?_
  | with_reducible refine x_ofV (fa := fIsN _) ?_
  | with_reducible refine x_ofV (fa := fNotN _) ?_
  | with_reducible apply xl_nil
  | with_reducible refine xl_cons rfl ?_
  | (refine And.intro (show List.length _ ≤ 16777216 from by simp only [List.length_cons, List.length_nil]; decide) ?_)
  | (refine And.intro (show tyS _ = some _ from rfl) ?_)
  | (refine And.intro (show flat _ = true from rfl) ?_)
  | (refine And.intro (show List.length _ = _ from rfl) ?_)
  | (refine And.intro (show List.length _ < 16777216 from by simp only [List.length_cons, List.length_nil]; decide) ?_)
  | (refine And.intro (show List.map isOwn _ = List.map isOwn _ from rfl) ?_)
  | with_reducible apply tt_intro
  | with_reducible apply nt_intro
  | with_reducible apply nnf_intro
  | with_reducible apply nnt_intro
  | with_reducible apply nf_intro
  | with_reducible apply ff_intro
  | walk_at "set")
theorem ddup_len : ∀ l : List Str, (ddup l).length ≤ l.length
  | [] => Nat.le_refl _
  | a :: l => by
    show (TX.ins a (ddup l)).length ≤ _
    have := TX.len_ins (k := a) (l := ddup l)
    have := ddup_len l
    rw [List.length_cons]
    omega
theorem trn_len (m : List Nat) : (trn m).length ≤ max 1 m.length := by
  have := ddup_len ((rots m).map sW)
  rw [List.length_map] at this
  unfold rots at this
  rw [List.length_map, List.length_range] at this
  exact this
/-- of a word so many times, the turns within the word are all -/
theorem rot_rep {z : List Nat} (hz : z ≠ []) {k : Nat} : ∀ (t : Nat) (p q : List Nat), p.length ≤ t → rep z k = p ++ q → ∃ j, j < z.length ∧ q ++ p = (rep z k).drop j ++ (rep z k).take j
  | t, p, q, ht, e => by
    have z0 : 0 < z.length := List.length_pos_iff.mpr hz
    by_cases hp : p.length < z.length
    · refine ⟨p.length, hp, ?_⟩
      rw [e, List.drop_left, List.take_left]
    · cases t with
      | zero => omega
      | succ t =>
        cases k with
        | zero =>
          have := congrArg List.length e
          rw [List.length_append] at this
          change 0 = _ at this
          omega
        | succ k =>
          have e2 : z ++ rep z k = p ++ q := e
          have ep : p = z ++ p.drop z.length := by
            have : p.take z.length = z := by
              have h1 := congrArg (List.take z.length) e2
              rw [List.take_left, List.take_append_of_le_length (by omega)] at h1
              exact h1.symm
            rw [← this, List.length_take, Nat.min_eq_left (by omega), List.take_append_drop]
          rw [ep, List.append_assoc] at e2
          have e3 : rep z k = p.drop z.length ++ q := List.append_cancel_left e2
          have e4 : rep z (k + 1) = p.drop z.length ++ (q ++ z) := by
            show z ++ rep z k = _
            rw [← rep_comm, e3, List.append_assoc]
          obtain ⟨j, hj, h⟩ := rot_rep hz (k := k + 1) t (p.drop z.length) (q ++ z) (by rw [List.length_drop]; omega) e4
          refine ⟨j, hj, ?_⟩
          rw [← h, List.append_assoc, ← ep]
theorem nodup_leS : ∀ {l k : List Str}, l.Nodup → (∀ x ∈ l, x ∈ k) → l.length ≤ k.length
  | [], _, _, _ => Nat.zero_le _
  | a :: l, k, hn, hs => by
    have hn := List.nodup_cons.mp hn
    have ha := hs a List.mem_cons_self
    have := nodup_leS (l := l) (k := k.erase a) hn.2 fun x hx => (List.mem_erase_of_ne (fun (e : x = a) => hn.1 (by rw [← e]; exact hx))).mpr (hs x (List.mem_cons_of_mem _ hx))
    rw [List.length_erase_of_mem ha] at this
    have := List.length_pos_of_mem ha
    rw [List.length_cons]
    omega
theorem trn_rep {z : List Nat} {k : Nat} (hz : z ≠ []) : (trn (rep z k)).length ≤ z.length := by
  have h := nodup_leS (trn_nd (rep z k)) (k := (List.range z.length).map fun j => sW ((rep z k).drop j ++ (rep z k).take j)) fun x hx => by
    obtain ⟨g, ⟨p, q, e1, e2⟩, rfl⟩ := mem_trn.mp hx
    obtain ⟨j, hj, e⟩ := rot_rep hz p.length p q (Nat.le_refl _) e1
    exact List.mem_map.mpr ⟨j, List.mem_range.mpr hj, by rw [e2, e]⟩
  rwa [List.length_map, List.length_range] at h
theorem low_menu1 {m : Int} (h1 : 1 ≤ m) (h4 : m ≤ 4) : ∃ l : List Nat, slD (.str "abcd") none (some m) = some (.str (sW l)) ∧ 0 < l.length ∧ l.length ≤ 4 ∧ ∀ c ∈ l, 97 ≤ c ∧ (c : Int) < 97 + m := by
  by_cases e : m = 1
  · subst e
    have t1 : sW [97] = Str.ofString "a" := ext_tl (by decide +kernel)
    refine ⟨[97], by rw [t1]; kernel_rfl, by decide, by decide, fun c hc => ?_⟩
    simp at hc; omega
  · exact low_menu (by omega)
theorem p_plain1 {r a b c m : Int} {s : Nat} {Φ : Vr → Option OD → Prop} (h : RO r a b c) (hr : r ≤ 10 ^ 11) (m1 : 1 ≤ m) (m4 : m ≤ 4) (hs : s ≤ 400)
    (k : ∀ (z : List Nat) a b c, z.length = s → (∀ c ∈ z, 97 ≤ c ∧ (c : Int) < 97 + m) → RO (r + s) a b c → Φ (.val (.str (sW z))) (some (rl a b c))) : Fp F_l_plain [.own 1 (rl a b c), .val (.int m), .val (.int s)] Φ := by
  obtain ⟨l, el, l0, l4, hl⟩ := low_menu1 m1 m4
  have hlen : (rangeD 0 (s : Int)).length = s := by rw [len_rng, Int.toNat_natCast]
  refine f_def rfl ?_
  show X _ [_, _, _, _] _
  unfold B_l_plain
  repeat' walk_at "x"
  refine ⟨by rw [hlen]; omega, ?_⟩
  refine lc_signs (Pc := fun c => 97 ≤ c ∧ (c : Int) < 97 + m) (menu := sW l) (v := 2) h (by rw [hlen]; omega) (by rw [len_sW]; exact l0) (by rw [len_sW]; omega) (fun c hc => hl c hc) rfl (fun o d => ?_) fun l a b c hl hc h => ?_
  · show fSl (fC (.str "abcd")) fNoPart (fPart (fVar 1)) _ = _
    unfold fSl fC fNoPart fPart fVar fV fR FM.bind FM.pure fOf
    simp only [List.getElem?_cons_succ, List.getElem?_cons_zero, List.set, el]
    rfl
  · rw [hlen] at hl h
    repeat' walk_at "x"
    refine e_joinD (join_chr (by omega)) ?_
    repeat' walk_at "x"
    exact k l a b c hl hc h
end Ks

set_option linter.all false
set_option maxRecDepth 100000
set_option pp.maxSteps 500
set_option maxHeartbeats 1000000
namespace Ks
open PySem PySem.Spec PyProof.Rows L2 DF TL NumText
variable [TbC]
/-! ### one step -/
local macro_rules | `(tactic| walk_at "set") => `(tactic| (refine' e_set ?qa ?_; (case qa => (simp only [wipeF, backF, List.set, List.getD_cons_succ, List.getD_cons_zero, Int.reduceToNat]; rfl))))
local macro_rules | `(tactic| walk_at "cnd") => `(tactic| first | assumption | decide | omega)
local macro_rules | `(tactic| walk_at "mul") => `(tactic| first | exact mulOk_r (by decide) (by decide) | exact mulOk_l (by decide) (by decide) | exact mulOk_l (by omega) (by omega) | exact mulOk_r (by omega) (by omega))
local macro_rules | `(tactic| walk_at "x") => `(tactic| first
  | with_reducible apply x_seq
  | with_reducible apply k_nx
  | with_reducible apply k_rt
  | with_reducible apply x_nx
  | with_reducible refine x_asgK (fa := fLstO _) ?_
  | with_reducible refine x_asgK (fa := fLcO _ _ _ _ _) ?_
  | with_reducible apply ak_own
  | with_reducible apply ak_val
  | with_reducible apply x_asg
  | with_reducible refine x_retK (fa := fLstO _) ?_
  | with_reducible apply rk_own
  | with_reducible apply x_ret
  | with_reducible apply x_ifS
  | with_reducible apply x_asgG
  | with_reducible apply x_drop
  | with_reducible apply x_par
  | with_reducible apply x_par3
  | with_reducible apply x_asg3
  | with_reducible apply x_for
  | with_reducible refine x_aug ⟨_, rfl, ?_⟩
  | with_reducible apply xv_c
  | (with_reducible refine xv_var rfl ?_)
  | (with_reducible refine x_varV rfl ?_)
  | (with_reducible refine x_varO rfl ?_)
  | with_reducible apply xv_op
  | with_reducible apply xv_un
  | with_reducible apply xv_cb
  | with_reducible apply xs_nil
  | with_reducible apply xs_cons
  | with_reducible apply xa_nil
  | with_reducible apply xa_cons
  | with_reducible apply xv_tup
  | with_reducible apply xv_lst
  | with_reducible apply x_lstO
  | with_reducible apply xv_if
  | with_reducible apply xv_andV
  | with_reducible apply xv_orV
  | with_reducible apply xv_notV
  | with_reducible apply xv_isN
  | with_reducible apply xv_notN
  | with_reducible apply xt_test
  | with_reducible apply xt_tru
  | with_reducible apply xt_not
  | with_reducible apply xt_and
  | with_reducible apply xt_or
  | with_reducible apply xt_yes
  | with_reducible apply xv_call
  | with_reducible apply xv_callN
  | with_reducible apply xv_cmeth
  | with_reducible apply xv_cmethN
  | with_reducible apply xv_fld
  | with_reducible apply xv_prop
  | with_reducible apply x_setF
  | with_reducible apply xv_make
  | with_reducible apply xv_makeN
  | (with_reducible refine xv_makeL rfl ?_)
  | with_reducible apply xg_name
  | with_reducible apply xg_nil
  | with_reducible apply xg_cons
  | (with_reducible refine xg_tup rfl ?_)
  | (with_reducible refine xg_unl rfl ?_)
  | (with_reducible refine xg_sub rfl ?_)
  | (with_reducible refine xv_ixO rfl ?_)
  | ((with_reducible refine' xv_pk ?qa ?_); (case qa => (simp only [List.map, seeO, odD]; rfl)))
  | ((with_reducible refine' xt_pk ?qa ?_); (case qa => (simp only [List.map, seeO, odD]; rfl)))
  | with_reducible apply xv_bm
  | with_reducible apply xv_bm0
  | with_reducible apply xv_sl
  | with_reducible apply xo_no
  | with_reducible apply xo_some
  | with_reducible apply xv_revS
  | with_reducible apply xv_revL
  | with_reducible apply xv_fmt
  | with_reducible apply xw_any
  | with_reducible apply xw_rng1
  | with_reducible apply xw_rng2
  | with_reducible apply xv_lc
  | with_reducible apply vk_val
  | with_reducible apply bk_none
  | with_reducible apply bk_tmp
  | (with_reducible refine bk_slot rfl ?_)
  | with_reducible apply rk_val
  | with_reducible apply fk_nx
  | with_reducible apply fk_rt
  | ((with_reducible refine' e_par ?qa ?_); (case qa => (simp only [List.set]; rfl)))
  | ((with_reducible refine' e_par3 ?qa ?_); (case qa => (simp only [List.set]; rfl)))
  | ((with_reducible refine' e_ixO ?qa ?qb ?_); (case qa => exact rfl); (case qb => exact rfl))
  | ((with_reducible refine' e_sub ?qa ?qb ?qc ?_); (case qa => exact rfl); (case qb => exact rfl); (case qc => (simp only [List.set, Int.reduceToNat]; rfl)))
  | ((with_reducible refine' e_setF ?qa ?qb ?qc ?_); (case qa => exact rfl); (case qb => (simp only [List.length_cons, List.length_nil]; decide)); (case qc => (simp only [List.set, Int.reduceToNat]; rfl)))
  | ((with_reducible refine' e_fields ?qa ?qb ?_); (case qa => exact rfl); (case qb => exact rfl))
  | ((with_reducible refine' e_has ?qa ?_); (case qa => exact rfl))
  | with_reducible apply r_addI
  | with_reducible apply r_sub
  | with_reducible apply r_lt
  | with_reducible apply r_gt
  | with_reducible apply r_le
  | with_reducible apply r_ge
  | with_reducible apply r_int
  | with_reducible apply r_intB
  | with_reducible apply r_abs
  | with_reducible refine r_dec2 (fun h => ?_) (fun h => ?_)
  | with_reducible refine r_decN2 (fun h => ?_) (fun h => ?_)
  | with_reducible refine r_decM2 (fun h => ?_) (fun h => ?_)
  | with_reducible apply r_bool
  | with_reducible apply r_truB
  | with_reducible apply r_len
  | with_reducible apply r_lenS
  | with_reducible apply r_orEqS
  | with_reducible apply r_orNeS
  | with_reducible apply r_orEqI
  | with_reducible apply r_orNeI
  | with_reducible apply xv_joined
  | with_reducible apply xj_cons
  | with_reducible apply xj_nil
  | with_reducible apply r_eqI
  | with_reducible apply r_neI
  | with_reducible apply r_eqS
  | with_reducible apply r_neS
  | ((with_reducible refine' e_addD ?qa ?_); (case qa => exact rfl))
  | ((with_reducible refine' e_subD ?qa ?_); (case qa => exact rfl))
  | ((with_reducible refine' r_mul ?qa ?_); (case qa => walk_at "mul"))
  | ((with_reducible refine' r_mod ?qa ?_); (case qa => walk_at "cnd"))
  | ((with_reducible refine' r_fdiv ?qa ?qb ?_); (case qa => walk_at "cnd"); (case qb => walk_at "cnd"))
  | ((with_reducible refine' r_divmod ?qa ?qb ?_); (case qa => walk_at "cnd"); (case qb => walk_at "cnd"))
  | ((with_reducible refine' e_ltD ?qa ?_); (case qa => exact rfl))
  | ((with_reducible refine' e_leD ?qa ?_); (case qa => exact rfl))
  | ((with_reducible refine' e_gtD ?qa ?_); (case qa => exact rfl))
  | ((with_reducible refine' e_geD ?qa ?_); (case qa => exact rfl))
  | ((with_reducible refine' e_negD ?qa ?_); (case qa => exact rfl))
  | ((with_reducible refine' e_ixD ?qa ?_); (case qa => exact rfl))
  | ((with_reducible refine' e_intD ?qa ?_); (case qa => exact rfl))
  | ((with_reducible refine' e_absD ?qa ?_); (case qa => exact rfl))
  | ((with_reducible refine' e_intOf ?qa ?_); (case qa => exact rfl))
  | ((with_reducible refine' e_tupOf ?qa ?_); (case qa => exact rfl))
  | ((with_reducible refine' e_lstOf ?qa ?_); (case qa => exact rfl))
  | ((with_reducible refine' e2_boolOf ?qa ?_ ?_); (case qa => exact rfl))
  | ((with_reducible refine' e_boolOf ?qa ?_); (case qa => exact rfl))
  | ((with_reducible refine' e_truD ?qa ?_); (case qa => exact rfl))
  | ((with_reducible refine' e_itemsOf ?qa ?_); (case qa => exact rfl))
  | ((with_reducible refine' e_slD ?qa ?_); (case qa => exact rfl))
  | ((with_reducible refine' e_isiD ?qa ?_); (case qa => exact rfl))
  | ((with_reducible refine' e_boolI ?qa ?_); (case qa => exact rfl))
  | ((with_reducible refine' e_rng ?qa ?_); (case qa => exact ⟨by omega, by omega⟩))
  | with_reducible apply e_some
  | with_reducible apply e_str
  | with_reducible apply e_rev
  | ((with_reducible refine' en_val ?qa ?_); (case qa => exact rfl))
  | ((with_reducible refine' en_own ?qa ?_); (case qa => exact rfl))
  | ((with_reducible refine' en_nx ?qa ?_); (case qa => exact rfl))
  | with_reducible apply x_call
  | with_reducible refine x_ofV (fa := fC _) ?_
  | with_reducible refine x_ofV (fa := fOp _ _ _) ?_
  | with_reducible refine x_ofV (fa := fUn _ _) ?_
  | with_reducible refine x_ofV (fa := fCB _ _) ?_
  | with_reducible refine x_ofV (fa := fTup _) ?_
  | with_reducible refine x_ofV (fa := fLst _) ?_
  | with_reducible refine x_ofV (fa := fBM _ _ _ _) ?_
  | with_reducible refine x_ofV (fa := fBM0 _ _ _) ?_
  | with_reducible refine x_ofV (fa := fLc _ _ _ _ _) ?_
  | with_reducible refine x_ofV (fa := fFld _ _ _) ?_
  | with_reducible refine x_ofV (fa := fProp _ _ _) ?_
  | with_reducible refine x_ofV (fa := fMake _ _ _) ?_
  | with_reducible refine x_ofV (fa := fMakeN _ _ _ _ _ _ _) ?_
  | with_reducible refine x_ofV (fa := fSl _ _ _) ?_
  | with_reducible refine x_ofV (fa := fJoined _) ?_
  | with_reducible refine x_ofV (fa := fAndV _ _) ?_
  | with_reducible refine x_ofV (fa := fOrV _ _) ?_
  | with_reducible refine x_ofV (fa := fNotV _) ?_
  | with_reducible refine x_ofV (fa := fIf _ _ _) ?_
  | with_reducible refine x_ofV (fa := fIxO _ _) ?_
  | with_reducible refine x_ofV (fa := fCMeth _ _ _) ?_
  | with_reducible refine x_ofV (fa := fCMethN _ _ _ _ _) ?_
  | with_reducible refine x_ofV (fa := fCallN _ _ _ _ _ _) ?_
  | with_reducible refine x_ofV (fa := fIsN _) ?_
  | with_reducible refine x_ofV (fa := fNotN _) ?_
  | with_reducible apply xl_nil
  | with_reducible refine xl_cons rfl ?_
  | (refine And.intro (show List.length _ ≤ 16777216 from by simp only [List.length_cons, List.length_nil]; decide) ?_)
  | (refine And.intro (show tyS _ = some _ from rfl) ?_)
  | (refine And.intro (show flat _ = true from rfl) ?_)
  | (refine And.intro (show List.length _ = _ from rfl) ?_)
  | (refine And.intro (show List.length _ < 16777216 from by simp only [List.length_cons, List.length_nil]; decide) ?_)
  | (refine And.intro (show List.map isOwn _ = List.map isOwn _ from rfl) ?_)
  | with_reducible apply tt_intro
  | with_reducible apply nt_intro
  | with_reducible apply nnf_intro
  | with_reducible apply nnt_intro
  | with_reducible apply nf_intro
  | with_reducible apply ff_intro
  | walk_at "set")
def Sm (l : List Nat) : Prop := ∀ c ∈ l, 97 ≤ c ∧ c ≤ 100
theorem Sm.al {l : List Nat} (h : Sm l) : AL l := fun c hc => .inl (h c hc)
theorem Sm.still : ∀ {l : List Nat}, Sm l → Still l
  | [], _ => trivial
  | [c], _ => trivial
  | c :: d :: r, h => by
    refine ⟨?_, Sm.still (l := d :: r) fun x hx => h x (List.mem_cons_of_mem _ hx)⟩
    have h1 := h c List.mem_cons_self
    have h2 := h d (List.mem_cons_of_mem _ List.mem_cons_self)
    unfold opp
    rw [if_pos h1.1]
    omega
theorem Sm.cyc {l : List Nat} (h : Sm l) : Cyc l := fun a z h1 h2 => by
  have q1 := h a (List.mem_of_mem_head? h1)
  have q2 := h z (List.mem_of_getLast? h2)
  unfold opp
  rw [if_pos q2.1]
  omega
theorem Sm.nr {l : List Nat} (h : Sm l) (n : l ≠ []) : NR l [] l := ⟨by rw [inv_nil]; simp, h.cyc, n⟩
theorem conj0 {u w c m : List Nat} (hu : AL u) (hw : AL w) (sw : Still w) (h : NR0 w c m) : ∃ c' m', NR0 (red (u ++ w ++ inv u)) c' m' ∧ Rot m m' := by
  rcases h with ⟨rfl, rfl, rfl⟩ | h
  · refine ⟨[], [], .inl ⟨?_, rfl, rfl⟩, Rot.refl _⟩
    have := red_pair (a := []) (u := u) (b := []) AL.nil hu
    rw [List.nil_append, List.append_nil, List.append_nil] at this
    rw [List.append_nil, this]
    rfl
  · obtain ⟨c', m', h1, h2⟩ := conj_all hu hw sw h
    exact ⟨c', m', .inr h1, h2⟩
theorem rep_mem {z : List Nat} : ∀ {k : Nat} {c : Nat}, c ∈ rep z k → c ∈ z
  | 0, _, h => (List.not_mem_nil h).elim
  | k + 1, c, h => (List.mem_append.mp (show c ∈ z ++ rep z k from h)).elim id rep_mem
theorem ix_map {L : List (List Nat)} {i : Int} {j : Nat} {x : List Nat} (e : i = j) (h : L[j]? = some x) : ixD (.lst (L.map wD)) (.int i) = some (wD x) := by
  subst e
  exact (atI_nat (n := j) (ds := L.map wD)).trans (by rw [List.getElem?_map, h]; rfl)
theorem cut_map {L : List (List Nat)} {i : Int} {j : Nat} (e : i = j) (h : j ≤ L.length) : DF.cutD (L.map wD) none (some i) = (L.take j).map wD := by
  subst e
  unfold DF.cutD
  show ((L.map wD).drop 0).take (HT.sIx (L.map wD).length (L.map wD).length (some (j : Int)) - 0) = _
  rw [HT.sIx_nat, List.length_map, Nat.min_eq_left h, List.drop_zero, List.map_take]
  rfl
theorem sort_e : sortS (trn []) = [sW []] := by
  have h : (sortS (trn [])).Perm [sW []] := (sort_perm _).trans (List.Perm.refl _)
  exact List.perm_singleton.mp h
theorem p_right {a b c : Int} {Φ : Vr → Option OD → Prop} (h : RO 1 a b c) (k : ∀ a b c, Φ (.val (.bl true)) (some (rl a b c))) : Fp F_l_right [.own 1 (rl a b c)] Φ := by
  have e0 : (Str.ofString "" : Str) = sW [] := (sW_nil.mpr rfl).symm
  refine f_def rfl ?_
  show X _ [_, _, _, _, _, _, _, _, _, _] _
  unfold B_l_right
  repeat' walk_at "x"
  refine x_forI (fun i Γ => ∃ (n a b c : Int) (s1 s2 s4 s6 s7 s8 : Sl), RO n a b c ∧ n + 100 * (4 - i) ≤ 10 ^ 7 ∧ i ≤ 4 ∧ Γ = [.own 1 (rl a b c), s1, s2, .no, s4, .no, s6, s7, s8, .no]) (by decide) ⟨1, _, _, _, .no, .no, .no, .no, .no, .no, h, by decide, by decide, rfl⟩ ?_ ?_
  · rintro i Γ i0 i1 ⟨n, a, b, c, s1, s2, s4, s6, s7, s8, h, hn, _, rfl⟩
    repeat' walk_at "x"
    refine x_callF rfl ?_
    refine p_wind h (by omega) (by omega) (by omega) fun g a b c g0 g1 h => ?_
    have hN : Nl (1 + g) := ⟨by omega, by omega⟩
    repeat' walk_at "x"
    refine x_callF rfl ?_
    refine p_line h (by omega) (by omega) (by omega) (by omega) (by omega) fun u a b c lu hu h => ?_
    repeat' walk_at "x"
    refine x_callF rfl ?_
    refine p_line h (by omega) (by omega) (by omega) (by omega) (by omega) fun f a b c lf hf h => ?_
    have af : AL f := fun c hc => (hf c hc).L hN.hi
    have au : AL u := fun c hc => (hu c hc).L hN.hi
    repeat' walk_at "x"
    refine r_addW (by omega) (by omega) ?_
    repeat' walk_at "x"
    refine x_callF rfl (fp_of (f_back au (by omega)) ?_)
    repeat' walk_at "x"
    refine r_addW (by rw [List.length_append]; omega) (by rw [inv_len]; omega) ?_
    repeat' walk_at "x"
    have hw : ∀ x ∈ u ++ f ++ inv u, isLn (1 + g) x := fun x hx => by
      rcases List.mem_append.mp hx with hx | hx
      · exact (List.mem_append.mp hx).elim (hu x) (hf x)
      · exact inv_Ln hu hN.hi x hx
    have ww := Wd.red hN hw
    have wl : (red (u ++ f ++ inv u)).length ≤ 14 := Nat.le_trans (red_len _) (by simp only [List.length_append, inv_len]; omega)
    refine x_callF rfl (fp_of (f_struck ((au.app af).app (inv_AL au)) (by simp only [List.length_append, inv_len]; omega)) ?_)
    generalize red (u ++ f ++ inv u) = w at ww wl
    repeat' walk_at "x"
    obtain ⟨cc, m, R, q1, nr, hr, e1⟩ := f_shortest hN ww (by omega)
    refine x_callF rfl (fp_of e1 ?_)
    rw [trn_R nr hr]
    have ml : m.length ≤ 14 := by
      have := congrArg List.length q1.e
      simp only [List.length_append] at this
      omega
    have few : (trn m).length < 64 := by have := trn_len m; omega
    repeat' walk_at "x"
    refine x_callF rfl (fp_of (f_turns_right hN ww (by omega) q1 few) ?_)
    repeat' walk_at "x"
    refine x_callF rfl ?_
    refine p_line h (by omega) (by omega) (by omega) (by omega) (by omega) fun v a b c lv hv h => ?_
    have av : AL v := fun c hc => (hv c hc).L hN.hi
    have aw := ww.a hN
    repeat' walk_at "x"
    refine r_addW (by omega) (by omega) ?_
    repeat' walk_at "x"
    refine x_callF rfl (fp_of (f_back av (by omega)) ?_)
    repeat' walk_at "x"
    refine r_addW (by rw [List.length_append]; omega) (by rw [inv_len]; omega) ?_
    repeat' walk_at "x"
    refine x_callF rfl (fp_of (f_struck ((av.app aw).app (inv_AL av)) (by simp only [List.length_append, inv_len]; omega)) ?_)
    repeat' walk_at "x"
    have hv2 : ∀ x ∈ v ++ w ++ inv v, isLn (1 + g) x := fun x hx => by
      rcases List.mem_append.mp hx with hx | hx
      · exact (List.mem_append.mp hx).elim (hv x) (ww.L x)
      · exact inv_Ln hv hN.hi x hx
    have wv := Wd.red hN hv2
    have vl : (red (v ++ w ++ inv v)).length ≤ 30 := Nat.le_trans (red_len _) (by simp only [List.length_append, inv_len]; omega)
    obtain ⟨c2, m2, q2, rr⟩ := conj0 av aw ww.S q1
    have few2 : (trn m2).length < 64 := by have := trn_len m2; have := rr.len; omega
    rw [trn_rot rr]
    refine x_callF rfl (fp_of (f_turns_right hN wv (by omega) q2 few2) ?_)
    repeat' walk_at "x"
    exact ⟨_, _, _, _, _, _, _, _, _, _, h, by omega, by omega, rfl⟩
  · rintro Γ ⟨n, a, b, c, s1, s2, s4, s6, s7, s8, h, hn, _, rfl⟩
    repeat' walk_at "x"
    refine x_callF rfl ?_
    refine p_wind h (by omega) (by omega) (by omega) fun g a b c g0 g1 h => ?_
    have hN : Nl (1 + g) := ⟨by omega, by omega⟩
    repeat' walk_at "x"
    refine x_callF rfl ?_
    refine p_wind h (by omega) (by omega) (by omega) fun s a b c s0 s1 h => ?_
    repeat' walk_at "x"
    obtain ⟨S, hS⟩ : ∃ S : Nat, (1 + s) = (S : Int) := ⟨(1 + s).toNat, by omega⟩
    rw [hS]
    refine x_callF rfl (p_plain1 h (by omega) hN.lo hN.hi (by omega) fun z a b c lz hz h => ?_)
    repeat' walk_at "x"
    refine x_callF rfl (p_one_of h (by omega) (m := 4) rfl (by decide) (by decide) fun o a b c o0 o1 h => ?_)
    have : ∃ k : Nat, ixD (.lst [.int 1, .int 1, .int 2, .int 20]) (.int o) = some (.int (k : Int)) ∧ 1 ≤ k ∧ k ≤ 20 := by
      have : o = 0 ∨ o = 1 ∨ o = 2 ∨ o = 3 := by omega
      rcases this with rfl | rfl | rfl | rfl
      · exact ⟨1, rfl, by decide, by decide⟩
      · exact ⟨1, rfl, by decide, by decide⟩
      · exact ⟨2, rfl, by decide, by decide⟩
      · exact ⟨20, rfl, by decide, by decide⟩
    obtain ⟨t, ed, t1, t20⟩ := this
    refine ⟨_, ed, ?_⟩
    clear ed
    repeat' walk_at "x"
    refine r_mulW (by omega) (by omega) (by omega) ?_
    rw [Int.toNat_natCast]
    have zn : z ≠ [] := fun e => by rw [e] at lz; simp at lz; omega
    have few : (trn (rep z t)).length < 64 := by have := trn_rep (k := t) zn; omega
    have wl : (rep z t).length ≤ 400 := by
      rw [rep_len]
      exact Nat.le_trans (Nat.mul_le_mul t20 (show z.length ≤ 20 by omega)) (by decide)
    have sm : ∀ c ∈ rep z t, 97 ≤ c ∧ (c : Int) < 97 + (1 + g) := fun c hc => hz c (rep_mem hc)
    have wn : rep z t ≠ [] := rep_ne zn t1
    generalize rep z t = w at *
    have sm' : Sm w := fun c hc => by have := sm c hc; omega
    have ww : Wd (1 + g) w := ⟨fun c hc => .inl (sm c hc), sm'.still⟩
    have w0 : 0 < w.length := List.length_pos_iff.mpr wn
    have er : rots w = (List.range w.length).map fun i => w.drop i ++ w.take i := by unfold rots; rw [Nat.max_eq_right (by omega)]
    repeat' walk_at "x"
    refine r_lenW (by omega) ?_
    repeat' walk_at "x"
    refine ⟨by rw [lenR]; omega, ?_⟩
    refine x_lcI (fun i acc Γ => ∃ s1 s6 s7 s8, Γ = [.own 1 (rl a b c), s1, .val (.int (1 + g)), .val (.int S), .val (.str (sW w)), .no, s6, s7, s8, .no] ∧ acc = (List.range i.toNat).map fun i => wD (w.drop i ++ w.take i)) (by omega) ⟨_, _, _, _, rfl, rfl⟩ ?_ ?_
    · rintro i acc Γ i0 i1 ⟨s1, s6, s7, s8, rfl, rfl⟩
      refine ⟨_, rfl, rfl, ?_⟩
      show X _ [_, _, _, _, _, _, _, _, _, _] _
      repeat' walk_at "x"
      refine r_slFrom (k := i.toNat) (by omega) (by omega) ?_
      repeat' walk_at "x"
      refine r_slLow (k := i.toNat) (by omega) (by omega) (by omega) ?_
      repeat' walk_at "x"
      refine r_addW (by rw [List.length_drop]; omega) (by rw [List.length_take]; omega) ?_
      repeat' walk_at "x"
      refine ⟨_, _, _, _, rfl, ?_⟩
      rw [show (i + 1).toNat = i.toNat + 1 by omega, List.range_succ, List.map_append]
      rfl
    rintro acc Γ ⟨s1, s6, s7, s8, rfl, rfl⟩
    rw [Int.toNat_natCast, show ((List.range w.length).map fun i => wD (w.drop i ++ w.take i)) = (rots w).map wD from by rw [er, List.map_map]; rfl]
    have rl2 : (rots w).length = w.length := by rw [er, List.length_map, List.length_range]
    repeat' walk_at "x"
    refine r_lenW (by omega) ?_
    repeat' walk_at "x"
    refine ⟨by rw [lenR]; omega, ?_⟩
    refine x_lcI (fun i acc Γ => ∃ s1 s6 s7 s8, Γ = [.own 1 (rl a b c), s1, .val (.int (1 + g)), .val (.int S), .val (.str (sW w)), .val (.lst ((rots w).map wD)), s6, s7, s8, .no] ∧ ∃ L : List (List Nat), L.Nodup ∧ acc = L.map wD ∧ ∀ x, x ∈ L ↔ x ∈ (rots w).take i.toNat) (by omega) ⟨_, _, _, _, rfl, [], List.nodup_nil, rfl, by simp⟩ ?_ ?_
    · rintro i acc Γ i0 i1 ⟨s1, s6, s7, s8, rfl, L, nd, rfl, mem⟩
      refine ⟨_, rfl, rfl, ?_⟩
      show X _ [_, _, _, _, _, _, _, _, _, _] _
      repeat' walk_at "x"
      obtain ⟨x, hx⟩ : ∃ x, (rots w)[i.toNat]? = some x := ⟨_, List.getElem?_eq_getElem (by omega)⟩
      have tk : (rots w).take (i + 1).toNat = (rots w).take i.toNat ++ [x] := by rw [show (i + 1).toNat = i.toNat + 1 by omega, List.take_add_one, hx]; rfl
      have al : ∀ y ∈ rots w, AL y := fun y hy => (mem_rots.mp hy).P sm'.al
      refine e_ixD (ix_map (by omega) hx) ?_
      repeat' walk_at "x"
      rw [cut_map (L := rots w) (i := i) (j := i.toNat) (by omega) (by omega)]
      refine r_notW (al x (List.mem_of_getElem? hx)) (fun y hy => al y (List.mem_of_mem_take hy)) ?_
      repeat' walk_at "x"
      · rename_i hin
        refine ⟨_, _, _, _, rfl, L, nd, rfl, fun y => ?_⟩
        rw [tk, List.mem_append, List.mem_singleton, mem y]
        exact ⟨.inl, fun h => h.elim id fun e => by rw [e]; exact hin⟩
      · rename_i hin
        refine e_ixD (ix_map (by omega) hx) ?_
        repeat' walk_at "x"
        refine ⟨_, _, _, _, rfl, L ++ [x], ?_, by rw [List.map_append]; rfl, fun y => ?_⟩
        · refine List.nodup_append.mpr ⟨nd, by simp, fun a ha b hb e => ?_⟩
          rw [List.mem_singleton.mp hb] at e
          exact hin ((mem x).mp (by rw [← e]; exact ha))
        · rw [tk, List.mem_append, List.mem_append, mem y]
    rintro acc Γ ⟨s1, s6, s7, s8, rfl, L, nd, rfl, mem⟩
    repeat' walk_at "x"
    have mem2 : ∀ y, y ∈ L ↔ Rot w y := fun y => by rw [mem y, Int.toNat_natCast, ← rl2, List.take_length, mem_rots]
    have eL : sortS (L.map sW) = sortS (trn w) := trn_R nd mem2
    have lL : L.length < 64 := by
      have := congrArg List.length eL
      rw [(sort_perm _).length_eq, (sort_perm _).length_eq, List.length_map] at this
      omega
    rw [wD_map]
    refine e_sortS (by rw [List.length_map]; exact lL) ?_
    rw [eL]
    repeat' walk_at "x"
    refine x_callF rfl (fp_of (f_turns_right hN ww (by omega) (.inr (sm'.nr wn)) few) ?_)
    repeat' walk_at "x"
    rw [e0]
    refine fp_of (f_init (l := []) hN.lo hN.hi (fun _ h => (List.not_mem_nil h).elim) (by decide)) ⟨rfl, _, _, rfl, ?_⟩
    rw [show red [] = [] from rfl]
    repeat' walk_at "x"
    refine x_callF rfl (fp_of (f_least (f := []) (c := []) (m := []) hN ⟨fun _ h => (List.not_mem_nil h).elim, trivial⟩ (by decide) (.inl ⟨rfl, rfl, rfl⟩) (by have := trn_len []; simp at this; omega) sort_e) ?_)
    repeat' walk_at "x"
    refine fp_of (f_init (l := []) hN.lo hN.hi (fun _ h => (List.not_mem_nil h).elim) (by decide)) ⟨rfl, _, _, rfl, ?_⟩
    rw [show red [] = [] from rfl]
    repeat' walk_at "x"
    refine r_orIns rfl rfl f_eq2 ?_
    rw [decide_eq_true rfl, decide_eq_true rfl]
    repeat' walk_at "x"
    exact k _ _ _
theorem hF0 : ∀ ns : List Int, ns.length ≤ 63 → F_law [.val (.scr ns)] = some (.ok (.val (.bl true)) none) := by
  intro ns hn
  refine Fp.eq (f_def rfl ?_)
  show X _ [_, _] _
  unfold B_law
  repeat' walk_at "x"
  show List.length [D.int 0, .int 1] < 16777216 ∧ X (lcL _ _ _ _ [D.int 0, .int 1] _) _ _
  repeat' walk_at "x"
  refine x_callF rfl ?_
  refine p_reel hn (by decide) (by decide) fun a b c h => ?_
  repeat' walk_at "x"
  refine x_callF rfl ?_
  refine p_right h fun a b c => ?_
  repeat' walk_at "x"
  refine x_callF rfl ?_
  refine p_reel hn (by decide) (by decide) fun a b c h => ?_
  repeat' walk_at "x"
  refine x_callF rfl ?_
  refine p_right h fun a b c => ?_
  repeat' walk_at "x"
  refine e_allD (allD_true ?_) ?_
  · intro b hb
    simp at hb
    exact hb
  repeat' walk_at "x"
  exact ⟨rfl, rfl⟩
end Ks

set_option linter.all false
set_option maxRecDepth 100000
set_option maxHeartbeats 4000000
namespace Ks
open PySem PySem.Spec PyProof.Rows L2 DF TX LamX
variable [TbC]
theorem all_mk {w : World} {K : PySem.W.Frag} {h : Heap} {mg : Str → Option Value} {fa f0 f1 f2 f3 f4 f5 f6 f7 f8 f9 f10 f11 f12 f13 f14 f15 f16 f17 f18 f19 f20 f21 f22 f23 : Addr} (X : K.In h) (G : h.Ns mainGlobals mg) (hfa : mg "law" = some (.ref fa))
    {od0 od1 od2 od3 od4 od5 od6 od7 od8 od9 od10 od11 od12 od13 od14 od15 od16 od17 od18 od19 od20 od21 od22 od23 an0 an1 an2 an3 an4 an5 an6 an7 an8 an9 an10 an11 an12 an13 an14 an15 an16 an17 an18 an19 an20 an21 an22 an23 : Option Addr} {sl0 sl1 sl2 sl3 sl4 sl5 sl6 sl7 sl8 sl9 sl10 sl11 sl12 sl13 sl14 sl15 sl16 sl17 sl18 sl19 sl20 sl21 sl22 sl23 : Array (Option Value)} {oc0 oc1 oc2 oc3 oc4 oc5 oc6 oc7 oc8 oc9 oc10 oc11 oc12 oc13 oc14 oc15 oc16 oc17 oc18 oc19 oc20 oc21 oc22 oc23 kV0 kV1 kV2 kV3 kV4 kV5 kV6 kV7 kV8 kV9 kV10 kV11 kV12 kV13 kV14 kV15 kV16 kV17 kV18 kV19 kV20 kV21 kV22 kV23 dc0 dc1 dc2 dc3 dc4 dc5 dc6 dc7 dc8 dc9 dc10 dc11 dc12 dc13 dc14 dc15 dc16 dc17 dc18 dc19 dc20 dc21 dc22 dc23 pm0 pm1 pm2 pm3 pm4 pm5 pm6 pm7 pm8 pm9 pm10 pm11 pm12 pm13 pm14 pm15 pm16 pm17 pm18 pm19 pm20 pm21 pm22 pm23 cd0 cd1 cd2 cd3 cd4 cd5 cd6 cd7 cd8 cd9 cd10 cd11 cd12 cd13 cd14 cd15 cd16 cd17 cd18 cd19 cd20 cd21 cd22 cd23 ct0 ct1 ct2 ct3 ct4 ct5 ct6 ct7 ct8 ct9 ct10 ct11 ct12 ct13 ct14 ct15 ct16 ct17 ct18 ct19 ct20 ct21 ct22 ct23 : Value}
    {C_Row : Addr}
    {pp_Row_word : Addr} {rp_Row_word : List Value}
    {pp_Row_letters : Addr} {rp_Row_letters : List Value}
    {nm_Row qq_Row : Str} {Ns_Row : Addr} {bs_Row : List Value} {hdd_Row : Bool} {sn_Row : List Str} {sb_Row : List Value} {ab_Row : Bool} {col_Row : Option Bool} {dd_Row : Option Addr} {k0_Row k1_Row k2_Row k3_Row k5_Row : Option Value} {nid_Row : String}
    {t_MOST_LETTERS : Tok}
    {t_MOST_ROW : Tok}
    {t_WAYS : Tok}
    (a0 : PySem.W.nsIn K mainGlobals "_law_wind" = some (some (.ref f0)))
    (l0 : K.lookup f0 = some ⟨oc0, od0, .func (PySem.W.fnOf "_law_wind" "_law_wind" (defArgs s_l_wind) (defBody s_l_wind) (defScope s_l_wind) .none kV0 dc0 pm0 an0 cd0 ct0), sl0⟩)
    (c0 : PySem.W.codeIn K cd0 "_law_wind" = true)
    (k0 : PySem.W.keepIn K (.ref f0) = true)
    (a1 : PySem.W.nsIn K mainGlobals "_law_one_of" = some (some (.ref f1)))
    (l1 : K.lookup f1 = some ⟨oc1, od1, .func (PySem.W.fnOf "_law_one_of" "_law_one_of" (defArgs s_l_one_of) (defBody s_l_one_of) (defScope s_l_one_of) .none kV1 dc1 pm1 an1 cd1 ct1), sl1⟩)
    (c1 : PySem.W.codeIn K cd1 "_law_one_of" = true)
    (k1 : PySem.W.keepIn K (.ref f1) = true)
    (a2 : PySem.W.nsIn K mainGlobals "_law_line" = some (some (.ref f2)))
    (l2 : K.lookup f2 = some ⟨oc2, od2, .func (PySem.W.fnOf "_law_line" "_law_line" (defArgs s_l_line) (defBody s_l_line) (defScope s_l_line) .none kV2 dc2 pm2 an2 cd2 ct2), sl2⟩)
    (c2 : PySem.W.codeIn K cd2 "_law_line" = true)
    (k2 : PySem.W.keepIn K (.ref f2) = true)
    (a3 : PySem.W.nsIn K mainGlobals "_law_struck" = some (some (.ref f3)))
    (l3 : K.lookup f3 = some ⟨oc3, od3, .func (PySem.W.fnOf "_law_struck" "_law_struck" (defArgs s_l_struck) (defBody s_l_struck) (defScope s_l_struck) .none kV3 dc3 pm3 an3 cd3 ct3), sl3⟩)
    (c3 : PySem.W.codeIn K cd3 "_law_struck" = true)
    (k3 : PySem.W.keepIn K (.ref f3) = true)
    (a4 : PySem.W.nsIn K mainGlobals "_law_back" = some (some (.ref f4)))
    (l4 : K.lookup f4 = some ⟨oc4, od4, .func (PySem.W.fnOf "_law_back" "_law_back" (defArgs s_l_back) (defBody s_l_back) (defScope s_l_back) .none kV4 dc4 pm4 an4 cd4 ct4), sl4⟩)
    (c4 : PySem.W.codeIn K cd4 "_law_back" = true)
    (k4 : PySem.W.keepIn K (.ref f4) = true)
    (a5 : PySem.W.nsIn K mainGlobals "_law_shortest" = some (some (.ref f5)))
    (l5 : K.lookup f5 = some ⟨oc5, od5, .func (PySem.W.fnOf "_law_shortest" "_law_shortest" (defArgs s_l_shortest) (defBody s_l_shortest) (defScope s_l_shortest) .none kV5 dc5 pm5 an5 cd5 ct5), sl5⟩)
    (c5 : PySem.W.codeIn K cd5 "_law_shortest" = true)
    (k5 : PySem.W.keepIn K (.ref f5) = true)
    (a6 : PySem.W.nsIn K mainGlobals "is_integer" = some (some (.ref f6)))
    (l6 : K.lookup f6 = some ⟨oc6, od6, .func (PySem.W.fnOf "is_integer" "is_integer" (defArgs s_is_integer) (defBody s_is_integer) (defScope s_is_integer) .none kV6 dc6 pm6 an6 cd6 ct6), sl6⟩)
    (c6 : PySem.W.codeIn K cd6 "is_integer" = true)
    (k6 : PySem.W.keepIn K (.ref f6) = true)
    (a7 : PySem.W.nsIn K mainGlobals "ways_of" = some (some (.ref f7)))
    (l7 : K.lookup f7 = some ⟨oc7, od7, .func (PySem.W.fnOf "ways_of" "ways_of" (defArgs s_ways_of) (defBody s_ways_of) (defScope s_ways_of) .none kV7 dc7 pm7 an7 cd7 ct7), sl7⟩)
    (c7 : PySem.W.codeIn K cd7 "ways_of" = true)
    (k7 : PySem.W.keepIn K (.ref f7) = true)
    (a8 : PySem.W.nsIn K mainGlobals "is_word" = some (some (.ref f8)))
    (l8 : K.lookup f8 = some ⟨oc8, od8, .func (PySem.W.fnOf "is_word" "is_word" (defArgs s_is_word) (defBody s_is_word) (defScope s_is_word) .none kV8 dc8 pm8 an8 cd8 ct8), sl8⟩)
    (c8 : PySem.W.codeIn K cd8 "is_word" = true)
    (k8 : PySem.W.keepIn K (.ref f8) = true)
    (a9 : PySem.W.nsIn K mainGlobals "word_reduced" = some (some (.ref f9)))
    (l9 : K.lookup f9 = some ⟨oc9, od9, .func (PySem.W.fnOf "word_reduced" "word_reduced" (defArgs s_word_reduced) (defBody s_word_reduced) (defScope s_word_reduced) .none kV9 dc9 pm9 an9 cd9 ct9), sl9⟩)
    (c9 : PySem.W.codeIn K cd9 "word_reduced" = true)
    (k9 : PySem.W.keepIn K (.ref f9) = true)
    (l10 : K.lookup f10 = some ⟨oc10, od10, .func (PySem.W.fnOf "__init__" "Row.__init__" (defArgs s_Row_init) (defBody s_Row_init) (defScope s_Row_init) .none kV10 dc10 pm10 an10 cd10 ct10), sl10⟩)
    (c10 : PySem.W.codeIn K cd10 "Row.__init__" = true)
    (k10 : PySem.W.keepIn K (.ref f10) = true)
    (a11 : PySem.W.nsIn K mainGlobals "check_row" = some (some (.ref f11)))
    (l11 : K.lookup f11 = some ⟨oc11, od11, .func (PySem.W.fnOf "check_row" "check_row" (defArgs s_check_row) (defBody s_check_row) (defScope s_check_row) .none kV11 dc11 pm11 an11 cd11 ct11), sl11⟩)
    (c11 : PySem.W.codeIn K cd11 "check_row" = true)
    (k11 : PySem.W.keepIn K (.ref f11) = true)
    (a12 : PySem.W.nsIn K mainGlobals "neck_and_round" = some (some (.ref f12)))
    (l12 : K.lookup f12 = some ⟨oc12, od12, .func (PySem.W.fnOf "neck_and_round" "neck_and_round" (defArgs s_neck_and_round) (defBody s_neck_and_round) (defScope s_neck_and_round) .none kV12 dc12 pm12 an12 cd12 ct12), sl12⟩)
    (c12 : PySem.W.codeIn K cd12 "neck_and_round" = true)
    (k12 : PySem.W.keepIn K (.ref f12) = true)
    (l13 : K.lookup f13 = some ⟨oc13, od13, .func (PySem.W.fnOf "word" "Row.word" (defArgs s_Row_word) (defBody s_Row_word) (defScope s_Row_word) .none kV13 dc13 pm13 an13 cd13 ct13), sl13⟩)
    (c13 : PySem.W.codeIn K cd13 "Row.word" = true)
    (k13 : PySem.W.keepIn K (.ref f13) = true)
    (l14 : K.lookup f14 = some ⟨oc14, od14, .func (PySem.W.fnOf "letters" "Row.letters" (defArgs s_Row_letters) (defBody s_Row_letters) (defScope s_Row_letters) .none kV14 dc14 pm14 an14 cd14 ct14), sl14⟩)
    (c14 : PySem.W.codeIn K cd14 "Row.letters" = true)
    (k14 : PySem.W.keepIn K (.ref f14) = true)
    (a15 : PySem.W.nsIn K mainGlobals "turns_of" = some (some (.ref f15)))
    (l15 : K.lookup f15 = some ⟨oc15, od15, .func (PySem.W.fnOf "turns_of" "turns_of" (defArgs s_turns_of) (defBody s_turns_of) (defScope s_turns_of) .none kV15 dc15 pm15 an15 cd15 ct15), sl15⟩)
    (c15 : PySem.W.codeIn K cd15 "turns_of" = true)
    (k15 : PySem.W.keepIn K (.ref f15) = true)
    (a16 : PySem.W.nsIn K mainGlobals "row_turns" = some (some (.ref f16)))
    (l16 : K.lookup f16 = some ⟨oc16, od16, .func (PySem.W.fnOf "row_turns" "row_turns" (defArgs s_row_turns) (defBody s_row_turns) (defScope s_row_turns) .none kV16 dc16 pm16 an16 cd16 ct16), sl16⟩)
    (c16 : PySem.W.codeIn K cd16 "row_turns" = true)
    (k16 : PySem.W.keepIn K (.ref f16) = true)
    (l17 : K.lookup f17 = some ⟨oc17, od17, .func (PySem.W.fnOf "__eq__" "Row.__eq__" (defArgs s_Row_eq) (defBody s_Row_eq) (defScope s_Row_eq) .none kV17 dc17 pm17 an17 cd17 ct17), sl17⟩)
    (c17 : PySem.W.codeIn K cd17 "Row.__eq__" = true)
    (k17 : PySem.W.keepIn K (.ref f17) = true)
    (a18 : PySem.W.nsIn K mainGlobals "row_least" = some (some (.ref f18)))
    (l18 : K.lookup f18 = some ⟨oc18, od18, .func (PySem.W.fnOf "row_least" "row_least" (defArgs s_row_least) (defBody s_row_least) (defScope s_row_least) .none kV18 dc18 pm18 an18 cd18 ct18), sl18⟩)
    (c18 : PySem.W.codeIn K cd18 "row_least" = true)
    (k18 : PySem.W.keepIn K (.ref f18) = true)
    (a19 : PySem.W.nsIn K mainGlobals "_law_turns_right" = some (some (.ref f19)))
    (l19 : K.lookup f19 = some ⟨oc19, od19, .func (PySem.W.fnOf "_law_turns_right" "_law_turns_right" (defArgs s_l_turns_right) (defBody s_l_turns_right) (defScope s_l_turns_right) .none kV19 dc19 pm19 an19 cd19 ct19), sl19⟩)
    (c19 : PySem.W.codeIn K cd19 "_law_turns_right" = true)
    (k19 : PySem.W.keepIn K (.ref f19) = true)
    (a20 : PySem.W.nsIn K mainGlobals "_law_plain" = some (some (.ref f20)))
    (l20 : K.lookup f20 = some ⟨oc20, od20, .func (PySem.W.fnOf "_law_plain" "_law_plain" (defArgs s_l_plain) (defBody s_l_plain) (defScope s_l_plain) .none kV20 dc20 pm20 an20 cd20 ct20), sl20⟩)
    (c20 : PySem.W.codeIn K cd20 "_law_plain" = true)
    (k20 : PySem.W.keepIn K (.ref f20) = true)
    (a21 : PySem.W.nsIn K mainGlobals "_law_right" = some (some (.ref f21)))
    (l21 : K.lookup f21 = some ⟨oc21, od21, .func (PySem.W.fnOf "_law_right" "_law_right" (defArgs s_l_right) (defBody s_l_right) (defScope s_l_right) .none kV21 dc21 pm21 an21 cd21 ct21), sl21⟩)
    (c21 : PySem.W.codeIn K cd21 "_law_right" = true)
    (k21 : PySem.W.keepIn K (.ref f21) = true)
    (a22 : PySem.W.nsIn K mainGlobals "_law_reel" = some (some (.ref f22)))
    (l22 : K.lookup f22 = some ⟨oc22, od22, .func (PySem.W.fnOf "_law_reel" "_law_reel" (defArgs s_l_reel) (defBody s_l_reel) (defScope s_l_reel) .none kV22 dc22 pm22 an22 cd22 ct22), sl22⟩)
    (c22 : PySem.W.codeIn K cd22 "_law_reel" = true)
    (k22 : PySem.W.keepIn K (.ref f22) = true)
    (a23 : PySem.W.nsIn K mainGlobals "law" = some (some (.ref f23)))
    (l23 : K.lookup f23 = some ⟨oc23, od23, .func (PySem.W.fnOf "law" "law" (defArgs s_law) (defBody s_law) (defScope s_law) .none kV23 dc23 pm23 an23 cd23 ct23), sl23⟩)
    (c23 : PySem.W.codeIn K cd23 "law" = true)
    (k23 : PySem.W.keepIn K (.ref f23) = true)
    (aC_Row : PySem.W.nsIn K mainGlobals "Row" = some (some (.ref C_Row)))
    (pg_Row : PySem.W.plainGet K C_Row Str.empty = true)
    (hd_Row : PySem.W.hasDictIn K C_Row = true)
    (po_Row : PySem.W.plainOver K C_Row = true)
    (sa_Row : PySem.W.findIn K (.ref C_Row) "__setattr__" = some (some (.builtin "object.__setattr__")))
    (mk_Row : PySem.W.makesIn K C_Row = true)
    (kc_Row : PySem.W.keepIn K (.ref C_Row) = true)
    (ii_Row : PySem.W.findIn K (.ref C_Row) "__init__" = some (some (.ref f10)))
    (ij_Row : PySem.W.isFn K (.ref f10) = true)
    (pa_Row_word : PySem.W.findIn K (.ref C_Row) "word" = some (some (.ref pp_Row_word)))
    (pb_Row_word : PySem.W.specialIn K (.ref pp_Row_word) "__get__" = some (some (.builtin "property.__get__")))
    (pc_Row_word : PySem.W.takesIn K (.ref pp_Row_word) = some true)
    (pd_Row_word : PySem.W.recIn K pp_Row_word "property" = some (.ref f13 :: rp_Row_word))
    (pa_Row_letters : PySem.W.findIn K (.ref C_Row) "letters" = some (some (.ref pp_Row_letters)))
    (pb_Row_letters : PySem.W.specialIn K (.ref pp_Row_letters) "__get__" = some (some (.builtin "property.__get__")))
    (pc_Row_letters : PySem.W.takesIn K (.ref pp_Row_letters) = some true)
    (pd_Row_letters : PySem.W.recIn K pp_Row_letters "property" = some (.ref f14 :: rp_Row_letters))
    (ea_Row : PySem.W.findIn K (.ref C_Row) "__eq__" = some (some (.ref f17)))
    (eb_Row : PySem.W.isFn K (.ref f17) = true)
    (ec_Row : K.lookup C_Row = some (excClassObj nm_Row qq_Row C_Row Ns_Row bs_Row [.type "object"] hdd_Row sn_Row sb_Row ab_Row col_Row dd_Row k0_Row k1_Row k2_Row k3_Row k5_Row nid_Row))
    (ed_Row : PySem.W.nsOkIn K Ns_Row = true)
    (ee_Row : PySem.W.nsIn K Ns_Row "__eq__" = some (some (.ref f17)))
    (ef_Row : PySem.W.nsIn K Ns_Row "__ne__" = some none)
    (na_Row__letters : PySem.W.findIn K (.ref C_Row) "_letters" = some none)
    (na_Row__word : PySem.W.findIn K (.ref C_Row) "_word" = some none)
    (ia_Row : PySem.W.findIn K (.ref C_Row) "__class__" = some (some (.builtin "object.__class__")))
    (ib_Row : PySem.W.specialIn K (.builtin "object.__class__") "__get__" = some (some (.builtin "getset_descriptor.__get__")))
    (ic_Row : PySem.W.takesIn K (.builtin "object.__class__") = some true)
    (id_Row : PySem.W.mroIn K C_Row (.type "object") = some true)
    (it_0 : PySem.W.kitOne K (.type "NoneType") (.type "int") = some false)
    (it_1 : PySem.W.kitOne K (.type "NoneType") (.type "bool") = some false)
    (it_2 : PySem.W.kitOne K (.type "NoneType") (.type "str") = some false)
    (it_3 : PySem.W.kitOne K (.type "NoneType") (.type "tuple") = some false)
    (it_4 : PySem.W.kitOne K (.type "NoneType") (.ref C_Row) = some false)
    (it_5 : PySem.W.kitOne K (.type "bool") (.type "int") = some true)
    (it_6 : PySem.W.kitOne K (.type "bool") (.type "bool") = some true)
    (it_7 : PySem.W.kitOne K (.type "bool") (.type "str") = some false)
    (it_8 : PySem.W.kitOne K (.type "bool") (.type "tuple") = some false)
    (it_9 : PySem.W.kitOne K (.type "bool") (.ref C_Row) = some false)
    (it_10 : PySem.W.kitOne K (.type "int") (.type "int") = some true)
    (it_11 : PySem.W.kitOne K (.type "int") (.type "bool") = some false)
    (it_12 : PySem.W.kitOne K (.type "int") (.type "str") = some false)
    (it_13 : PySem.W.kitOne K (.type "int") (.type "tuple") = some false)
    (it_14 : PySem.W.kitOne K (.type "int") (.ref C_Row) = some false)
    (it_15 : PySem.W.kitOne K (.type "str") (.type "int") = some false)
    (it_16 : PySem.W.kitOne K (.type "str") (.type "bool") = some false)
    (it_17 : PySem.W.kitOne K (.type "str") (.type "str") = some true)
    (it_18 : PySem.W.kitOne K (.type "str") (.type "tuple") = some false)
    (it_19 : PySem.W.kitOne K (.type "str") (.ref C_Row) = some false)
    (it_20 : PySem.W.kitOne K (.type "tuple") (.type "int") = some false)
    (it_21 : PySem.W.kitOne K (.type "tuple") (.type "bool") = some false)
    (it_22 : PySem.W.kitOne K (.type "tuple") (.type "str") = some false)
    (it_23 : PySem.W.kitOne K (.type "tuple") (.type "tuple") = some true)
    (it_24 : PySem.W.kitOne K (.type "tuple") (.ref C_Row) = some false)
    (it_25 : PySem.W.kitOne K (.type "list") (.type "int") = some false)
    (it_26 : PySem.W.kitOne K (.type "list") (.type "bool") = some false)
    (it_27 : PySem.W.kitOne K (.type "list") (.type "str") = some false)
    (it_28 : PySem.W.kitOne K (.type "list") (.type "tuple") = some false)
    (it_29 : PySem.W.kitOne K (.type "list") (.ref C_Row) = some false)
    (it_30 : PySem.W.kitOne K (.ref C_Row) (.type "int") = some false)
    (it_31 : PySem.W.kitOne K (.ref C_Row) (.type "bool") = some false)
    (it_32 : PySem.W.kitOne K (.ref C_Row) (.type "str") = some false)
    (it_33 : PySem.W.kitOne K (.ref C_Row) (.type "tuple") = some false)
    (it_34 : PySem.W.kitOne K (.ref C_Row) (.ref C_Row) = some true)
    (ci_MOST_LETTERS : PySem.W.nsIn K mainGlobals "MOST_LETTERS" = some (some (.int (4) t_MOST_LETTERS)))
    (ci_MOST_ROW : PySem.W.nsIn K mainGlobals "MOST_ROW" = some (some (.int (400) t_MOST_ROW)))
    (ci_WAYS : PySem.W.nsIn K mainGlobals "WAYS" = some (some (.str "aAbBcCdD" t_WAYS)))
    (n_int : PySem.W.nsIn K mainGlobals "int" = some none)
    (n_bool : PySem.W.nsIn K mainGlobals "bool" = some none)
    (n_str : PySem.W.nsIn K mainGlobals "str" = some none)
    (n_tuple : PySem.W.nsIn K mainGlobals "tuple" = some none)
    (n_isinstance : PySem.W.nsIn K mainGlobals "isinstance" = some none)
    (n_len : PySem.W.nsIn K mainGlobals "len" = some none)
    (n_abs : PySem.W.nsIn K mainGlobals "abs" = some none)
    (n_all : PySem.W.nsIn K mainGlobals "all" = some none)
    (n_range : PySem.W.nsIn K mainGlobals "range" = some none)
    (n_divmod : PySem.W.nsIn K mainGlobals "divmod" = some none)
    (n_min : PySem.W.nsIn K mainGlobals "min" = some none)
    (n_max : PySem.W.nsIn K mainGlobals "max" = some none)
    (n_sorted : PySem.W.nsIn K mainGlobals "sorted" = some none)
    (n_set : PySem.W.nsIn K mainGlobals "set" = some none) : ∃ T : Tx w K mg, T.f_law = fa := by
  have e := hfa.symm.trans (PySem.W.mg_of X G a23)
  cases e
  have F0 := fun_mk (st := s_l_wind) l0 c0 k0
  have F1 := fun_mk (st := s_l_one_of) l1 c1 k1
  have F2 := fun_mk (st := s_l_line) l2 c2 k2
  have F3 := fun_mk (st := s_l_struck) l3 c3 k3
  have F4 := fun_mk (st := s_l_back) l4 c4 k4
  have F5 := fun_mk (st := s_l_shortest) l5 c5 k5
  have F6 := fun_mk (st := s_is_integer) l6 c6 k6
  have F7 := fun_mk (st := s_ways_of) l7 c7 k7
  have F8 := fun_mk (st := s_is_word) l8 c8 k8
  have F9 := fun_mk (st := s_word_reduced) l9 c9 k9
  have F10 := fun_mk (st := s_Row_init) l10 c10 k10
  have F11 := fun_mk (st := s_check_row) l11 c11 k11
  have F12 := fun_mk (st := s_neck_and_round) l12 c12 k12
  have F13 := fun_mk (st := s_Row_word) l13 c13 k13
  have F14 := fun_mk (st := s_Row_letters) l14 c14 k14
  have F15 := fun_mk (st := s_turns_of) l15 c15 k15
  have F16 := fun_mk (st := s_row_turns) l16 c16 k16
  have F17 := fun_mk (st := s_Row_eq) l17 c17 k17
  have F18 := fun_mk (st := s_row_least) l18 c18 k18
  have F19 := fun_mk (st := s_l_turns_right) l19 c19 k19
  have F20 := fun_mk (st := s_l_plain) l20 c20 k20
  have F21 := fun_mk (st := s_l_right) l21 c21 k21
  have F22 := fun_mk (st := s_l_reel) l22 c22 k22
  have F23 := fun_mk (st := s_law) l23 c23 k23
  exact ⟨{
    f_l_wind := f0
    d_l_wind := _
    F_l_wind := F0
    b_l_wind := F0.binds (ps := ["_law_reel_here", "_law_many"]) (fun _ _ _ _ _ _ us hl => match us, hl with | [_, _], _ => rfl)
    mg_l_wind := PySem.W.mg_of X G a0
    f_l_one_of := f1
    d_l_one_of := _
    F_l_one_of := F1
    b_l_one_of := F1.binds (ps := ["_law_reel_here", "_law_menu"]) (fun _ _ _ _ _ _ us hl => match us, hl with | [_, _], _ => rfl)
    mg_l_one_of := PySem.W.mg_of X G a1
    f_l_line := f2
    d_l_line := _
    F_l_line := F2
    b_l_line := F2.binds (ps := ["_law_reel_here", "_law_many", "_law_most"]) (fun _ _ _ _ _ _ us hl => match us, hl with | [_, _, _], _ => rfl)
    mg_l_line := PySem.W.mg_of X G a2
    f_l_struck := f3
    d_l_struck := _
    F_l_struck := F3
    b_l_struck := F3.binds (ps := ["_law_line_here"]) (fun _ _ _ _ _ _ us hl => match us, hl with | [_], _ => rfl)
    mg_l_struck := PySem.W.mg_of X G a3
    f_l_back := f4
    d_l_back := _
    F_l_back := F4
    b_l_back := F4.binds (ps := ["_law_line_here"]) (fun _ _ _ _ _ _ us hl => match us, hl with | [_], _ => rfl)
    mg_l_back := PySem.W.mg_of X G a4
    f_l_shortest := f5
    d_l_shortest := _
    F_l_shortest := F5
    b_l_shortest := F5.binds (ps := ["_law_many", "_law_line_here"]) (fun _ _ _ _ _ _ us hl => match us, hl with | [_, _], _ => rfl)
    mg_l_shortest := PySem.W.mg_of X G a5
    f_is_integer := f6
    d_is_integer := _
    F_is_integer := F6
    b_is_integer := F6.binds (ps := ["value"]) (fun _ _ _ _ _ _ us hl => match us, hl with | [_], _ => rfl)
    mg_is_integer := PySem.W.mg_of X G a6
    f_ways_of := f7
    d_ways_of := _
    F_ways_of := F7
    b_ways_of := F7.binds (ps := ["letters"]) (fun _ _ _ _ _ _ us hl => match us, hl with | [_], _ => rfl)
    mg_ways_of := PySem.W.mg_of X G a7
    f_is_word := f8
    d_is_word := _
    F_is_word := F8
    b_is_word := F8.binds (ps := ["letters", "word"]) (fun _ _ _ _ _ _ us hl => match us, hl with | [_, _], _ => rfl)
    mg_is_word := PySem.W.mg_of X G a8
    f_word_reduced := f9
    d_word_reduced := _
    F_word_reduced := F9
    b_word_reduced := F9.binds (ps := ["word"]) (fun _ _ _ _ _ _ us hl => match us, hl with | [_], _ => rfl)
    mg_word_reduced := PySem.W.mg_of X G a9
    f_Row_init := f10
    d_Row_init := _
    F_Row_init := F10
    b_Row_init := F10.binds (ps := ["self", "letters", "word"]) (fun _ _ _ _ _ _ us hl => match us, hl with | [_, _, _], _ => rfl)
    f_check_row := f11
    d_check_row := _
    F_check_row := F11
    b_check_row := F11.binds (ps := ["value"]) (fun _ _ _ _ _ _ us hl => match us, hl with | [_], _ => rfl)
    mg_check_row := PySem.W.mg_of X G a11
    f_neck_and_round := f12
    d_neck_and_round := _
    F_neck_and_round := F12
    b_neck_and_round := F12.binds (ps := ["word"]) (fun _ _ _ _ _ _ us hl => match us, hl with | [_], _ => rfl)
    mg_neck_and_round := PySem.W.mg_of X G a12
    f_Row_word := f13
    d_Row_word := _
    F_Row_word := F13
    b_Row_word := F13.binds (ps := ["self"]) (fun _ _ _ _ _ _ us hl => match us, hl with | [_], _ => rfl)
    f_Row_letters := f14
    d_Row_letters := _
    F_Row_letters := F14
    b_Row_letters := F14.binds (ps := ["self"]) (fun _ _ _ _ _ _ us hl => match us, hl with | [_], _ => rfl)
    f_turns_of := f15
    d_turns_of := _
    F_turns_of := F15
    b_turns_of := F15.binds (ps := ["middle"]) (fun _ _ _ _ _ _ us hl => match us, hl with | [_], _ => rfl)
    mg_turns_of := PySem.W.mg_of X G a15
    f_row_turns := f16
    d_row_turns := _
    F_row_turns := F16
    b_row_turns := F16.binds (ps := ["row"]) (fun _ _ _ _ _ _ us hl => match us, hl with | [_], _ => rfl)
    mg_row_turns := PySem.W.mg_of X G a16
    f_Row_eq := f17
    d_Row_eq := _
    F_Row_eq := F17
    b_Row_eq := F17.binds (ps := ["self", "other"]) (fun _ _ _ _ _ _ us hl => match us, hl with | [_, _], _ => rfl)
    f_row_least := f18
    d_row_least := _
    F_row_least := F18
    b_row_least := F18.binds (ps := ["row"]) (fun _ _ _ _ _ _ us hl => match us, hl with | [_], _ => rfl)
    mg_row_least := PySem.W.mg_of X G a18
    f_l_turns_right := f19
    d_l_turns_right := _
    F_l_turns_right := F19
    b_l_turns_right := F19.binds (ps := ["_law_many", "_law_line_here", "_law_due"]) (fun _ _ _ _ _ _ us hl => match us, hl with | [_, _, _], _ => rfl)
    mg_l_turns_right := PySem.W.mg_of X G a19
    f_l_plain := f20
    d_l_plain := _
    F_l_plain := F20
    b_l_plain := F20.binds (ps := ["_law_reel_here", "_law_many", "_law_size"]) (fun _ _ _ _ _ _ us hl => match us, hl with | [_, _, _], _ => rfl)
    mg_l_plain := PySem.W.mg_of X G a20
    f_l_right := f21
    d_l_right := _
    F_l_right := F21
    b_l_right := F21.binds (ps := ["_law_reel_here"]) (fun _ _ _ _ _ _ us hl => match us, hl with | [_], _ => rfl)
    mg_l_right := PySem.W.mg_of X G a21
    f_l_reel := f22
    d_l_reel := _
    F_l_reel := F22
    b_l_reel := F22.binds (ps := ["_law_script", "_law_turn"]) (fun _ _ _ _ _ _ us hl => match us, hl with | [_, _], _ => rfl)
    mg_l_reel := PySem.W.mg_of X G a22
    f_law := fa
    d_law := _
    F_law := F23
    b_law := F23.binds (ps := ["_law_script"]) (fun _ _ _ _ _ _ us hl => match us, hl with | [_], _ => rfl)
    mg_law := PySem.W.mg_of X G a23
    C_Row := C_Row
    mg_Row := PySem.W.mg_of X G aC_Row
    ct_Row := aC_Row
    cl_Row := ⟨pg_Row, hd_Row, po_Row, sa_Row⟩
    mk_Row := ⟨mk_Row, ii_Row, ij_Row, kc_Row⟩
    pp_Row_word := pp_Row_word
    pr_Row_word := ⟨pa_Row_word, pb_Row_word, pc_Row_word, rp_Row_word, pd_Row_word⟩
    pp_Row_letters := pp_Row_letters
    pr_Row_letters := ⟨pa_Row_letters, pb_Row_letters, pc_Row_letters, rp_Row_letters, pd_Row_letters⟩
    eqC_Row := ⟨ea_Row, eb_Row, nm_Row, qq_Row, Ns_Row, bs_Row, hdd_Row, sn_Row, sb_Row, ab_Row, col_Row, dd_Row, k0_Row, k1_Row, k2_Row, k3_Row, k5_Row, nid_Row, ec_Row, ed_Row, ee_Row, ef_Row⟩
    na_Row__letters := na_Row__letters
    na_Row__word := na_Row__word
    isi_Row := ⟨⟨pg_Row, hd_Row, po_Row, sa_Row⟩, ia_Row, ib_Row, ic_Row, id_Row⟩
    it_0 := it_0
    it_1 := it_1
    it_2 := it_2
    it_3 := it_3
    it_4 := it_4
    it_5 := it_5
    it_6 := it_6
    it_7 := it_7
    it_8 := it_8
    it_9 := it_9
    it_10 := it_10
    it_11 := it_11
    it_12 := it_12
    it_13 := it_13
    it_14 := it_14
    it_15 := it_15
    it_16 := it_16
    it_17 := it_17
    it_18 := it_18
    it_19 := it_19
    it_20 := it_20
    it_21 := it_21
    it_22 := it_22
    it_23 := it_23
    it_24 := it_24
    it_25 := it_25
    it_26 := it_26
    it_27 := it_27
    it_28 := it_28
    it_29 := it_29
    it_30 := it_30
    it_31 := it_31
    it_32 := it_32
    it_33 := it_33
    it_34 := it_34
    t_MOST_LETTERS := t_MOST_LETTERS
    c_MOST_LETTERS := PySem.W.mg_of X G ci_MOST_LETTERS
    t_MOST_ROW := t_MOST_ROW
    c_MOST_ROW := PySem.W.mg_of X G ci_MOST_ROW
    t_WAYS := t_WAYS
    c_WAYS := PySem.W.mg_of X G ci_WAYS
    n_int := PySem.W.mg_none_of X G n_int
    n_bool := PySem.W.mg_none_of X G n_bool
    n_str := PySem.W.mg_none_of X G n_str
    n_tuple := PySem.W.mg_none_of X G n_tuple
    n_isinstance := PySem.W.mg_none_of X G n_isinstance
    n_len := PySem.W.mg_none_of X G n_len
    n_abs := PySem.W.mg_none_of X G n_abs
    n_all := PySem.W.mg_none_of X G n_all
    n_range := PySem.W.mg_none_of X G n_range
    n_divmod := PySem.W.mg_none_of X G n_divmod
    n_min := PySem.W.mg_none_of X G n_min
    n_max := PySem.W.mg_none_of X G n_max
    n_sorted := PySem.W.mg_none_of X G n_sorted
    n_set := PySem.W.mg_none_of X G n_set }, rfl⟩
theorem fin {P : Program} {w : World} {K : PySem.W.Frag} {mg : Str → Option Value} {fa : Addr} (h : ∃ T : Tx w K mg, T.f_law = fa) : ∃ fd : FuncData, (∀ (s : Shared) (u : Value), BindsTo s fd ⟨[u], []⟩ [("_law_script", u)]) ∧ ∀ base : Heap, K.In base → base.Ns mainGlobals mg → FnG P w K mg base CX0 9 fa fd ["_law_script"] (spF K F_law) := by
  obtain ⟨T, e⟩ := h
  subst e
  refine ⟨T.d_law, fun s u => ?_, fun base _ _ => FnG.of (ok_law T)⟩
  obtain ⟨oc, od, kV, doc, pm, an, cdv, ct, osl, e, _⟩ := T.F_law.ex
  rw [e]
  exact .of_eq rfl
end Ks
open PySem PySem.W PyProof.Rows
set_option maxRecDepth 100000 in
set_option maxHeartbeats 0 in
theorem PySem.Challenge.cw_pressworlds_k06_whole_turns_and_least_ro_holds : PySem.Challenge.rw_pressworlds_k06_whole_turns_and_least_ro.Holds := by
  w_on; o_law; k_head; (case hw => w_witness2)
  k_fill
  letI : DF.TbC := DF.TbC.off
  refine DF.walkG (FF0 := Ks.F_law) rfl (fun _ _ => trivial) Ks.hF0 (l := PySem.Challenge.rw_pressworlds_k06_whole_turns_and_least_ro) (k := 9) (x := "_law_script") rfl rfl ⟨rfl, by decide, by decide⟩ (fun w h Y => PySem.W.kIn_of Y) ?F
  case F =>
    intro w mg fa h KX G hmg
    refine' Ks.fin (Ks.all_mk KX G hmg ?a0 ?l0 ?c0 ?k0 ?a1 ?l1 ?c1 ?k1 ?a2 ?l2 ?c2 ?k2 ?a3 ?l3 ?c3 ?k3 ?a4 ?l4 ?c4 ?k4 ?a5 ?l5 ?c5 ?k5 ?a6 ?l6 ?c6 ?k6 ?a7 ?l7 ?c7 ?k7 ?a8 ?l8 ?c8 ?k8 ?a9 ?l9 ?c9 ?k9 ?l10 ?c10 ?k10 ?a11 ?l11 ?c11 ?k11 ?a12 ?l12 ?c12 ?k12 ?l13 ?c13 ?k13 ?l14 ?c14 ?k14 ?a15 ?l15 ?c15 ?k15 ?a16 ?l16 ?c16 ?k16 ?l17 ?c17 ?k17 ?a18 ?l18 ?c18 ?k18 ?a19 ?l19 ?c19 ?k19 ?a20 ?l20 ?c20 ?k20 ?a21 ?l21 ?c21 ?k21 ?a22 ?l22 ?c22 ?k22 ?a23 ?l23 ?c23 ?k23 ?aC_Row ?pg_Row ?hd_Row ?po_Row ?sa_Row ?mk_Row ?kc_Row ?ii_Row ?ij_Row ?pa_Row_word ?pb_Row_word ?pc_Row_word ?pd_Row_word ?pa_Row_letters ?pb_Row_letters ?pc_Row_letters ?pd_Row_letters ?ea_Row ?eb_Row ?ec_Row ?ed_Row ?ee_Row ?ef_Row ?na_Row__letters ?na_Row__word ?ia_Row ?ib_Row ?ic_Row ?id_Row ?it_0 ?it_1 ?it_2 ?it_3 ?it_4 ?it_5 ?it_6 ?it_7 ?it_8 ?it_9 ?it_10 ?it_11 ?it_12 ?it_13 ?it_14 ?it_15 ?it_16 ?it_17 ?it_18 ?it_19 ?it_20 ?it_21 ?it_22 ?it_23 ?it_24 ?it_25 ?it_26 ?it_27 ?it_28 ?it_29 ?it_30 ?it_31 ?it_32 ?it_33 ?it_34 ?ci_MOST_LETTERS ?ci_MOST_ROW ?ci_WAYS ?n_int ?n_bool ?n_str ?n_tuple ?n_isinstance ?n_len ?n_abs ?n_all ?n_range ?n_divmod ?n_min ?n_max ?n_sorted ?n_set)
    (case aC_Row => k_is); (case ii_Row => k_is); (case pa_Row_word => k_is); (case pd_Row_word => k_is); (case pa_Row_letters => k_is); (case pd_Row_letters => k_is); (case ea_Row => k_is); (case a0 => k_is); (case a1 => k_is); (case a2 => k_is); (case a3 => k_is); (case a4 => k_is); (case a5 => k_is); (case a6 => k_is); (case a7 => k_is); (case a8 => k_is); (case a9 => k_is); (case a11 => k_is); (case a12 => k_is); (case a15 => k_is); (case a16 => k_is); (case a18 => k_is); (case a19 => k_is); (case a20 => k_is); (case a21 => k_is); (case a22 => k_is); (case a23 => k_is); (case l0 => k_is); (case c0 => k_is); (case k0 => k_is); (case l1 => k_is); (case c1 => k_is); (case k1 => k_is); (case l2 => k_is); (case c2 => k_is); (case k2 => k_is); (case l3 => k_is); (case c3 => k_is); (case k3 => k_is); (case l4 => k_is); (case c4 => k_is); (case k4 => k_is); (case l5 => k_is); (case c5 => k_is); (case k5 => k_is); (case l6 => k_is); (case c6 => k_is); (case k6 => k_is); (case l7 => k_is); (case c7 => k_is); (case k7 => k_is); (case l8 => k_is); (case c8 => k_is); (case k8 => k_is); (case l9 => k_is); (case c9 => k_is); (case k9 => k_is); (case l10 => k_is); (case c10 => k_is); (case k10 => k_is); (case l11 => k_is); (case c11 => k_is); (case k11 => k_is); (case l12 => k_is); (case c12 => k_is); (case k12 => k_is); (case l13 => k_is); (case c13 => k_is); (case k13 => k_is); (case l14 => k_is); (case c14 => k_is); (case k14 => k_is); (case l15 => k_is); (case c15 => k_is); (case k15 => k_is); (case l16 => k_is); (case c16 => k_is); (case k16 => k_is); (case l17 => k_is); (case c17 => k_is); (case k17 => k_is); (case l18 => k_is); (case c18 => k_is); (case k18 => k_is); (case l19 => k_is); (case c19 => k_is); (case k19 => k_is); (case l20 => k_is); (case c20 => k_is); (case k20 => k_is); (case l21 => k_is); (case c21 => k_is); (case k21 => k_is); (case l22 => k_is); (case c22 => k_is); (case k22 => k_is); (case l23 => k_is); (case c23 => k_is); (case k23 => k_is); (case pg_Row => k_is); (case hd_Row => k_is); (case po_Row => k_is); (case sa_Row => k_is); (case mk_Row => k_is); (case kc_Row => k_is); (case ij_Row => k_is); (case pb_Row_word => k_is); (case pc_Row_word => k_is); (case pb_Row_letters => k_is); (case pc_Row_letters => k_is); (case eb_Row => k_is); (case ec_Row => k_is); (case ed_Row => first | exact (by rfl) | kernel_rfl); (case ee_Row => k_is); (case ef_Row => k_is); (case na_Row__letters => k_is); (case na_Row__word => k_is); (case ia_Row => k_is); (case ib_Row => k_is); (case ic_Row => k_is); (case id_Row => k_is); (case it_0 => first | k_is | rfl | kernel_rfl); (case it_1 => first | k_is | rfl | kernel_rfl); (case it_2 => first | k_is | rfl | kernel_rfl); (case it_3 => first | k_is | rfl | kernel_rfl); (case it_4 => first | k_is | rfl | kernel_rfl); (case it_5 => first | k_is | rfl | kernel_rfl); (case it_6 => first | k_is | rfl | kernel_rfl); (case it_7 => first | k_is | rfl | kernel_rfl); (case it_8 => first | k_is | rfl | kernel_rfl); (case it_9 => first | k_is | rfl | kernel_rfl); (case it_10 => first | k_is | rfl | kernel_rfl); (case it_11 => first | k_is | rfl | kernel_rfl); (case it_12 => first | k_is | rfl | kernel_rfl); (case it_13 => first | k_is | rfl | kernel_rfl); (case it_14 => first | k_is | rfl | kernel_rfl); (case it_15 => first | k_is | rfl | kernel_rfl); (case it_16 => first | k_is | rfl | kernel_rfl); (case it_17 => first | k_is | rfl | kernel_rfl); (case it_18 => first | k_is | rfl | kernel_rfl); (case it_19 => first | k_is | rfl | kernel_rfl); (case it_20 => first | k_is | rfl | kernel_rfl); (case it_21 => first | k_is | rfl | kernel_rfl); (case it_22 => first | k_is | rfl | kernel_rfl); (case it_23 => first | k_is | rfl | kernel_rfl); (case it_24 => first | k_is | rfl | kernel_rfl); (case it_25 => first | k_is | rfl | kernel_rfl); (case it_26 => first | k_is | rfl | kernel_rfl); (case it_27 => first | k_is | rfl | kernel_rfl); (case it_28 => first | k_is | rfl | kernel_rfl); (case it_29 => first | k_is | rfl | kernel_rfl); (case it_30 => first | k_is | rfl | kernel_rfl); (case it_31 => first | k_is | rfl | kernel_rfl); (case it_32 => first | k_is | rfl | kernel_rfl); (case it_33 => first | k_is | rfl | kernel_rfl); (case it_34 => first | k_is | rfl | kernel_rfl); (case ci_MOST_LETTERS => k_is); (case ci_MOST_ROW => k_is); (case ci_WAYS => k_is); (case n_int => k_is); (case n_bool => k_is); (case n_str => k_is); (case n_tuple => k_is); (case n_isinstance => k_is); (case n_len => k_is); (case n_abs => k_is); (case n_all => k_is); (case n_range => k_is); (case n_divmod => k_is); (case n_min => k_is); (case n_max => k_is); (case n_sorted => k_is); (case n_set => k_is)

