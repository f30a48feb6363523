import PyProof.Rows.All
import Wide.All
import OpenK.AllK
import Wide.FinOn
import HandS.ForMost
import HandS.ForExc
import HandS.Wide
import HandS.DictComp
import HandS.SortRule
import HandS.SortKw
import HandS.Deep
import HandS.Conv
import HandS.Flow
import HandS.Style
import HandS.Lambda
import HandS.TupAny
import KE.SortData
import KE.SortKeyHeap
import HandS.ExcInit
import HandS.ExcField
import HandS.ExcOwn
import HandS.WordsExc
import KE.KSortKey
import HandS.EndTab
import HandS.TryOnly
import HandS.Gcd
import PySem.Challenge.RW_eventsteps_k07_common_units
set_option Elab.async false
set_option linter.all false
set_option maxRecDepth 100000
set_option maxHeartbeats 4000000
namespace Dv
open PySem PySem.Spec PyProof.Rows
open L2 hiding Dp DpAll
open LamX (TabS CodeO Tabs ExtN)

abbrev Dt := PyData
/-- a slot: nothing known, data that never changes, an own list, an own dict -/
inductive Sl where
  | no | d (x : Dt) | ol (xs : List Dt) | od (kvs : List (Key × Dt))
abbrev En := List Sl
inductive Out where
  | nx (A : En) | rt (d : Dt) | bk (A : En) | ct (A : En)

/-! ### heaps -/
/-- tables of code objects that a program with lambdas has -/
class Tb where
  T : List (Addr × Str)
/-- neither a table nor a code object -/
def NoT (x : Option HO) : Prop := (∀ ps, x ≠ some (.tbl ps)) ∧ ∀ c q, x ≠ some (CodeO c q)
theorem noT_l {xs : List V} : NoT (some (.lst xs)) := ⟨fun _ z => (by cases z), fun _ _ z => by
  have z' : HO.lst xs = HO.ext _ := Option.some.inj z
  cases z'⟩
theorem noT_k {xs : List (Key × V)} : NoT (some (.dK xs)) := ⟨fun _ z => (by cases z), fun _ _ z => by
  have z' : HO.dK xs = HO.ext _ := Option.some.inj z
  cases z'⟩
theorem noT_n : NoT none := ⟨fun _ z => (by cases z), fun _ _ z => (by cases z)⟩
theorem tabS_mut {H : Hp} {P p : Addr} {q : Str} {o : HO} (t : TabS H P q) (n : NoT (H p)) : TabS (upd H p o) P q := by
  obtain ⟨ps, h1, h2, h3⟩ := t
  refine ⟨ps, ?_, h2, fun pos cv hc => ?_⟩
  · rw [upd_ne fun z => n.1 ps (by rw [← z]; exact h1)]; exact h1
  · obtain ⟨c, e1, e2⟩ := h3 pos cv hc
    refine ⟨c, e1, ?_⟩
    rw [upd_ne fun z => n.2 c q (by rw [← z]; exact e2)]; exact e2
/-- not there, or a table -/
def FreeT (H : Hp) (p : Addr) : Prop := ∀ u, H p = some u → ∃ ps, u = .tbl ps
theorem freeT_n {H : Hp} {p : Addr} (h : H p = none) : FreeT H p := fun u e => by rw [h] at e; cases e
theorem notF_l {H : Hp} {p : Addr} {xs : List V} (h : H p = some (.lst xs)) : ¬ FreeT H p := fun z => by
  obtain ⟨ps, e⟩ := z _ h
  cases e
theorem notF_k {H : Hp} {p : Addr} {xs : List (Key × V)} (h : H p = some (.dK xs)) : ¬ FreeT H p := fun z => by
  obtain ⟨ps, e⟩ := z _ h
  cases e
def NoTb (F : Hp) : Prop := ∀ b ps, F b ≠ some (.tbl ps)
theorem NoTb.upd {F : Hp} {p : Addr} {o : HO} (n : NoTb F) (h : ∀ ps, o ≠ .tbl ps) : NoTb (upd F p o) := fun b ps e => by
  by_cases hb : b = p
  · rw [hb, upd_same] at e; exact h ps (Option.some.inj e)
  · rw [upd_ne hb] at e; exact n b ps e
section
variable [Tb]
/-- all stays, but that tables may grow -/
structure SameT (H H' : Hp) : Prop where
  ex : ∀ b u, H b = some u → (∀ ps, u ≠ .tbl ps) → H' b = some u
  tg : Tabs Tb.T H → Tabs Tb.T H'
theorem SameT.refl (H : Hp) : SameT H H := ⟨fun _ _ h _ => h, fun h => h⟩
theorem SameT.trans {H H1 H2 : Hp} (a : SameT H H1) (b : SameT H1 H2) : SameT H H2 := ⟨fun c u h n => b.ex c u (a.ex c u h n) n, fun h => b.tg (a.tg h)⟩
theorem SameT.freeT {H H' : Hp} (a : SameT H H') {b : Addr} (h : FreeT H' b) : FreeT H b := fun u e => by
  by_cases hu : ∀ ps, u ≠ .tbl ps
  · exact h u (a.ex b u e hu)
  · exact Classical.byContradiction fun z => hu fun ps e => z ⟨ps, e⟩
theorem SameT.free {H H' : Hp} (a : SameT H H') {b : Addr} (h : H' b = none) : FreeT H b := a.freeT (freeT_n h)
theorem SameT.mut {H H' : Hp} {p : Addr} {o : HO} (a : SameT H H') (h : FreeT H p) (n : NoT (H' p)) : SameT H (upd H' p o) :=
  ⟨fun b u e k => by
    have hb : b ≠ p := fun z => by
      rw [z] at e
      obtain ⟨ps, q⟩ := h u e
      exact k ps q
    rw [upd_ne hb]; exact a.ex b u e k, fun t p' hp => tabS_mut (a.tg t p' hp) n⟩
theorem SameT.new {H H' : Hp} {p : Addr} {o : HO} (a : SameT H H') (h : H' p = none) : SameT H (upd H' p o) := a.mut (a.free h) (by rw [h]; exact noT_n)
theorem SameT.l {H H' : Hp} {b : Addr} {xs : List V} (a : SameT H H') (h : H b = some (.lst xs)) : H' b = some (.lst xs) := a.ex _ _ h fun _ z => (by cases z)
theorem SameT.k {H H' : Hp} {b : Addr} {xs : List (Key × V)} (a : SameT H H') (h : H b = some (.dK xs)) : H' b = some (.dK xs) := a.ex _ _ h fun _ z => (by cases z)
theorem SameT.x {H H' : Hp} {b : Addr} {xs : List (Str × V)} (a : SameT H H') (h : H b = some (.xd xs)) : H' b = some (.xd xs) := a.ex _ _ h fun _ z => (by cases z)
/-- the tables stand, and no table is data -/
structure TbOk (F H : Hp) : Prop where
  t : Tabs Tb.T H
  n : NoTb F
structure Stp (F H F' H' : Hp) : Prop where
  ff : Same F F'
  hh : SameT H H'
  sub : Same F' H'
  fr : ∀ a, F a = none → ¬ FreeT H a → F' a = none
  ft : NoTb F → NoTb F'
theorem Stp.refl {F H : Hp} (s : Same F H) : Stp F H F H := ⟨Same.refl _, SameT.refl _, s, fun _ h _ => h, fun h => h⟩
theorem Stp.trans {F H F1 H1 F2 H2 : Hp} (a : Stp F H F1 H1) (b : Stp F1 H1 F2 H2) : Stp F H F2 H2 :=
  ⟨a.ff.trans b.ff, a.hh.trans b.hh, b.sub, fun x h1 h2 => b.fr x (a.fr x h1 h2) (fun e => h2 (a.hh.freeT e)), fun h => b.ft (a.ft h)⟩
/-- a new object that is data -/
theorem Stp.new {F H F' H' : Hp} {p : Addr} {o : HO} (a : Stp F H F' H') (h : H' p = none) (ho : ∀ ps, o ≠ .tbl ps := by intro _ z; cases z) : Stp F H (upd F' p o) (upd H' p o) := by
  have hf : F' p = none := a.sub.free h
  refine ⟨fun b u e => ?_, a.hh.new h, fun b u e => ?_, fun b h1 h2 => ?_, fun n => (a.ft n).upd ho⟩
  · have q := a.ff b u e
    rw [upd_ne (ne_of_none q hf)]; exact q
  · by_cases hb : b = p
    · subst hb; rw [upd_same] at e ⊢; exact e
    · rw [upd_ne hb] at e ⊢; exact a.sub b u e
  · have hb : b ≠ p := fun z => by subst z; exact h2 (a.hh.free h)
    rw [upd_ne hb]; exact a.fr b h1 h2
/-- a new object that is not (yet) data -/
theorem Stp.newO {F H F' H' : Hp} {p : Addr} {o : HO} (a : Stp F H F' H') (h : H' p = none) : Stp F H F' (upd H' p o) := by
  have hf : F' p = none := a.sub.free h
  refine ⟨a.ff, a.hh.new h, fun b u e => ?_, a.fr, a.ft⟩
  · have q := a.sub b u e
    rw [upd_ne (ne_of_none e hf)]; exact q
/-- what was new becomes data -/
theorem Stp.frz {F H F' H' : Hp} {p : Addr} {o : HO} (a : Stp F H F' H') (h0 : FreeT H p) (h1 : F' p = none) (h2 : H' p = some o) (ho : ∀ ps, o ≠ .tbl ps := by intro _ z; cases z) : Stp F H (upd F' p o) H' := by
  refine ⟨fun b u e => ?_, a.hh, fun b u e => ?_, fun b e1 e2 => ?_, fun n => (a.ft n).upd ho⟩
  · have q := a.ff b u e
    rw [upd_ne (ne_of_none q h1)]; exact q
  · by_cases hb : b = p
    · subst hb; rw [upd_same] at e; rw [h2]; exact e
    · rw [upd_ne hb] at e; exact a.sub b u e
  · have hb : b ≠ p := fun z => by subst z; exact e2 h0
    rw [upd_ne hb]; exact a.fr b e1 e2

theorem TbOk.step {F H F' H' : Hp} (t : TbOk F H) (s : Stp F H F' H') : TbOk F' H' := ⟨s.hh.tg t.t, s.ft t.n⟩
end
/-! ### data: as L2.Dp, lists tracked or locked -/
mutual
inductive Dp (K : PySem.W.Frag) (H : Hp) : V → PyData → Prop
  | non : Dp K H .non .none
  | bl (b : Bool) : Dp K H (.bl b) (.bool b)
  | int (i : Int) : Dp K H (.int i) (.int i)
  | str (x : Str) : Dp K H (.str x) (.str x)
  | lst {a : Addr} {xs : List V} {ds : List PyData} : SqL K H a xs → DpAll K H xs ds → Dp K H (.ref a) (.list ds)
  | tup {a : Addr} {xs : List V} {ds : List PyData} : SqT K H a xs → DpAll K H xs ds → Dp K H (.ref a) (.tuple ds)
inductive DpAll (K : PySem.W.Frag) (H : Hp) : List V → List PyData → Prop
  | nil : DpAll K H [] []
  | cons {v : V} {vs : List V} {d : PyData} {ds : List PyData} : Dp K H v d → DpAll K H vs ds → DpAll K H (v :: vs) (d :: ds)
end
section
variable {K : PySem.W.Frag} {F : Hp}
mutual
theorem Dp.old : ∀ {d : PyData} {v : V}, Dp K F v d → L2.Dp K F v d
  | _, _, .non => .non
  | _, _, .bl b => .bl b
  | _, _, .int i => .int i
  | _, _, .str x => .str x
  | _, _, .lst h t => .lst h (DpAll.old t)
  | _, _, .tup h t => .tup h (DpAll.old t)
theorem DpAll.old : ∀ {ds : List PyData} {vs : List V}, DpAll K F vs ds → L2.DpAll K F vs ds
  | _, _, .nil => .nil
  | _, _, .cons h t => .cons (Dp.old h) (DpAll.old t)
end
end
section
variable {K : PySem.W.Frag} {F F' H H' : Hp}
theorem rd_same {a : Addr} {xs : List V} (e : Same F F') (h : SqL K F a xs) : SqL K F' a xs := e.seq h
theorem sqT_same {a : Addr} {xs : List V} (e : Same F F') (h : SqT K F a xs) : SqT K F' a xs := by
  rcases h with (h | ⟨o, h⟩) | h
  · exact .inl (.inl (e _ _ h))
  · exact .inl (.inr ⟨o, e _ _ h⟩)
  · exact .inr h
mutual
theorem dp_same (e : Same F F') : ∀ {d : Dt} {v : V}, Dp K F v d → Dp K F' v d
  | _, _, .non => .non
  | _, _, .bl b => .bl b
  | _, _, .int i => .int i
  | _, _, .str x => .str x
  | _, _, .lst h t => .lst (rd_same e h) (dpAll_same e t)
  | _, _, .tup h t => .tup (sqT_same e h) (dpAll_same e t)
theorem dpAll_same (e : Same F F') : ∀ {ds : List Dt} {vs : List V}, DpAll K F vs ds → DpAll K F' vs ds
  | _, _, .nil => .nil
  | _, _, .cons h t => .cons (dp_same e h) (dpAll_same e t)
end
theorem DpAll.len : ∀ {ds : List Dt} {vs : List V}, DpAll K F vs ds → vs.length = ds.length
  | _, _, .nil => rfl
  | _, _, .cons _ t => by rw [List.length_cons, List.length_cons, DpAll.len t]
theorem DpAll.get : ∀ {ds : List Dt} {vs : List V} {i : Nat} {d : Dt}, DpAll K F vs ds → ds[i]? = some d → ∃ v, vs[i]? = some v ∧ Dp K F v d
  | _, _, i, d, .nil, h => by simp at h
  | _, _, 0, d, .cons h t, e => by
    rw [List.getElem?_cons_zero] at e; cases e
    exact ⟨_, List.getElem?_cons_zero, h⟩
  | _, _, i + 1, d, .cons h t, e => by
    rw [List.getElem?_cons_succ] at e
    obtain ⟨v, h1, h2⟩ := DpAll.get t e
    exact ⟨v, by rw [List.getElem?_cons_succ]; exact h1, h2⟩
theorem DpAll.getV : ∀ {ds : List Dt} {vs : List V} {i : Nat} {v : V}, DpAll K F vs ds → vs[i]? = some v → ∃ d, ds[i]? = some d ∧ Dp K F v d
  | _, _, i, d, .nil, h => by simp at h
  | _, _, 0, d, .cons h t, e => by
    rw [List.getElem?_cons_zero] at e; cases e
    exact ⟨_, List.getElem?_cons_zero, h⟩
  | _, _, i + 1, d, .cons h t, e => by
    rw [List.getElem?_cons_succ] at e
    obtain ⟨v, h1, h2⟩ := DpAll.getV t e
    exact ⟨v, by rw [List.getElem?_cons_succ]; exact h1, h2⟩
theorem DpAll.app : ∀ {ds es : List Dt} {vs us : List V}, DpAll K F vs ds → DpAll K F us es → DpAll K F (vs ++ us) (ds ++ es)
  | _, _, _, _, .nil, s => s
  | _, _, _, _, .cons h t, s => .cons h (DpAll.app t s)
theorem DpAll.one {v : V} {d : Dt} (h : Dp K F v d) : DpAll K F [v] [d] := .cons h .nil
theorem DpAll.take : ∀ {ds : List Dt} {vs : List V} (n : Nat), DpAll K F vs ds → DpAll K F (vs.take n) (ds.take n)
  | _, _, 0, _ => .nil
  | _, _, _ + 1, .nil => .nil
  | _, _, n + 1, .cons h t => .cons h (DpAll.take n t)
theorem DpAll.drop : ∀ {ds : List Dt} {vs : List V} (n : Nat), DpAll K F vs ds → DpAll K F (vs.drop n) (ds.drop n)
  | _, _, 0, h => h
  | _, _, _ + 1, .nil => .nil
  | _, _, n + 1, .cons _ t => DpAll.drop n t
theorem DpAll.rev : ∀ {ds : List Dt} {vs : List V}, DpAll K F vs ds → DpAll K F vs.reverse ds.reverse
  | _, _, .nil => .nil
  | _, _, .cons h t => by
    rw [List.reverse_cons, List.reverse_cons]
    exact DpAll.app (DpAll.rev t) (DpAll.one h)
theorem DpAll.set : ∀ {ds : List Dt} {vs : List V} {v : V} {d : Dt} (i : Nat), DpAll K F vs ds → Dp K F v d → DpAll K F (vs.set i v) (ds.set i d)
  | _, _, _, _, _, .nil, _ => .nil
  | _, _, _, _, 0, .cons _ t, hv => .cons hv t
  | _, _, _, _, i + 1, .cons a t, hv => .cons a (DpAll.set i t hv)

variable [Tb]
/-! ### what a slot's content is -/
/-- read, not kept: data, or an own list -/
def Bor (K : PySem.W.Frag) (F H : Hp) (v : V) (d : Dt) : Prop := Dp K F v d ∨ ∃ p vs xs, v = .ref p ∧ H p = some (.lst vs) ∧ DpAll K F vs xs ∧ d = .list xs
theorem Bor.step {v : V} {d : Dt} (h : Bor K F H v d) (s : Stp F H F' H') : Bor K F' H' v d := by
  rcases h with h | ⟨p, vs, xs, h1, h2, h3, h4⟩
  · exact .inl (dp_same s.ff h)
  · exact .inr ⟨p, vs, xs, h1, s.hh.l h2, dpAll_same s.ff h3, h4⟩
/-- a list that is read: its items stand in H -/
theorem Bor.list {v : V} {xs : List Dt} (sub : Same F H) (h : Bor K F H v (.list xs)) : ∃ p vs, v = .ref p ∧ SqL K H p vs ∧ DpAll K F vs xs := by
  rcases h with h | ⟨p, vs, ys, rfl, h2, h3, h4⟩
  · cases h with
    | lst h t => exact ⟨_, _, rfl, rd_same sub h, t⟩
  · cases h4
    exact ⟨p, vs, rfl, SqL.of h2, h3⟩
theorem Bor.tuple {v : V} {xs : List Dt} (sub : Same F H) (h : Bor K F H v (.tuple xs)) : ∃ p vs, v = .ref p ∧ SqT K H p vs ∧ DpAll K F vs xs := by
  rcases h with h | ⟨p, vs, ys, rfl, h2, h3, h4⟩
  · cases h with
    | tup h t => exact ⟨_, _, rfl, sqT_same sub h, t⟩
  · cases h4
theorem Bor.tupD {v : V} {xs : List Dt} (h : Bor K F H v (.tuple xs)) : Dp K F v (.tuple xs) := by
  rcases h with h | ⟨p, vs, ys, rfl, h2, h3, h4⟩
  · exact h
  · cases h4
theorem Bor.int {v : V} {i : Int} (h : Bor K F H v (.int i)) : v = .int i := by
  rcases h with h | ⟨p, vs, ys, rfl, h2, h3, h4⟩
  · cases h; rfl
  · cases h4
theorem Bor.str {v : V} {i : Str} (h : Bor K F H v (.str i)) : v = .str i := by
  rcases h with h | ⟨p, vs, ys, rfl, h2, h3, h4⟩
  · cases h; rfl
  · cases h4
theorem Bor.bool {v : V} {i : Bool} (h : Bor K F H v (.bool i)) : v = .bl i := by
  rcases h with h | ⟨p, vs, ys, rfl, h2, h3, h4⟩
  · cases h; rfl
  · cases h4
theorem dp_int {v : V} {i : Int} (h : Dp K F v (.int i)) : v = .int i := by cases h; rfl
theorem dp_str {v : V} {i : Str} (h : Dp K F v (.str i)) : v = .str i := by cases h; rfl
theorem dp_bool {v : V} {i : Bool} (h : Dp K F v (.bool i)) : v = .bl i := by cases h; rfl
theorem dp_none {v : V} (h : Dp K F v .none) : v = .non := by cases h; rfl

def DQ (K : PySem.W.Frag) (F : Hp) : List (Key × V) → List (Key × Dt) → Prop
  | [], [] => True
  | (k, v) :: r, (l, d) :: s => k = l ∧ Dp K F v d ∧ DQ K F r s
  | _, _ => False
theorem dq_same (e : Same F F') : ∀ {r : List (Key × V)} {s : List (Key × Dt)}, DQ K F r s → DQ K F' r s
  | [], [], _ => trivial
  | (k, v) :: r, (l, d) :: s, ⟨h1, h2, h3⟩ => ⟨h1, dp_same e h2, dq_same e h3⟩
  | [], _ :: _, h => h.elim
  | _ :: _, [], h => h.elim

structure SlR (K : PySem.W.Frag) (H0 F H : Hp) (σ : L2.St) (i : Nat) (x : Sl) : Prop where
  d : ∀ y, x = .d y → ∃ v, σ[i]? = some (some v) ∧ Dp K F v y
  ol : ∀ xs, x = .ol xs → ∃ p vs, σ[i]? = some (some (.ref p)) ∧ F p = none ∧ FreeT H0 p ∧ H p = some (.lst vs) ∧ DpAll K F vs xs
  od : ∀ kvs, x = .od kvs → ∃ p vs, σ[i]? = some (some (.ref p)) ∧ F p = none ∧ FreeT H0 p ∧ H p = some (.dK vs) ∧ DQ K F vs kvs
def Own (σ : L2.St) (A : En) (i : Nat) (p : Addr) : Prop := ((∃ xs, A[i]? = some (.ol xs)) ∨ ∃ kvs, A[i]? = some (.od kvs)) ∧ σ[i]? = some (some (.ref p))
structure Rl (K : PySem.W.Frag) (H0 F H : Hp) (σ : L2.St) (A : En) : Prop where
  sub : Same F H
  sl : ∀ i x, A[i]? = some x → SlR K H0 F H σ i x
  ds : ∀ i j p, i ≠ j → Own σ A i p → Own σ A j p → False
  len : A.length = σ.length
  tb : TbOk F H
theorem SlR.step {H0 : Hp} {σ : L2.St} {i : Nat} {x : Sl} (h : SlR K H0 F H σ i x) (s : Stp F H F' H') : SlR K H0 F' H' σ i x := by
  refine ⟨fun y e => ?_, fun y e => ?_, fun y e => ?_⟩
  · obtain ⟨v, h1, h2⟩ := h.d y e
    exact ⟨v, h1, dp_same s.ff h2⟩
  · obtain ⟨p, vs, h1, h2, h3, h4, h5⟩ := h.ol y e
    exact ⟨p, vs, h1, s.fr p h2 (notF_l h4), h3, s.hh.l h4, dpAll_same s.ff h5⟩
  · obtain ⟨p, vs, h1, h2, h3, h4, h5⟩ := h.od y e
    exact ⟨p, vs, h1, s.fr p h2 (notF_k h4), h3, s.hh.k h4, dq_same s.ff h5⟩
theorem Rl.step {H0 : Hp} {σ : L2.St} {A : En} (h : Rl K H0 F H σ A) (s : Stp F H F' H') : Rl K H0 F' H' σ A :=
  ⟨s.sub, fun i x e => (h.sl i x e).step s, h.ds, h.len, h.tb.step s⟩
end
end Dv

namespace Dv
open PySem PySem.Spec PyProof.Rows
open L2 hiding Dp DpAll
open LamX (TabS CodeO Tabs ExtN)
variable [Tb]

/-! ### what an expression's reading comes to -/
section
variable (K : PySem.W.Frag)
def SE (te : TE) (f : En → Option Dt) : Prop := ∀ H0 F H σ A d, Rl K H0 F H σ A → f A = some d → ∀ Q : VK, (∀ F' H' v, Stp F H F' H' → Dp K F' v d → Q v H') → te σ H Q
def SB (te : TE) (f : En → Option Dt) : Prop := ∀ H0 F H σ A d, Rl K H0 F H σ A → f A = some d → ∀ Q : VK, (∀ F' H' v, Stp F H F' H' → Bor K F' H' v d → Q v H') → te σ H Q
def SN (te : TE) (f : En → Option (List Dt)) : Prop := ∀ H0 F H σ A xs, Rl K H0 F H σ A → f A = some xs → ∀ Q : VK, (∀ F' H' p vs, Stp F H F' H' → FreeT H p → F' p = none → H' p = some (.lst vs) → DpAll K F' vs xs → Q (.ref p) H') → te σ H Q
def ST (tt : TT) (f : En → Option Bool) : Prop := ∀ H0 F H σ A b, Rl K H0 F H σ A → f A = some b → ∀ Q : Bool → Hp → Prop, (∀ F' H', Stp F H F' H' → Q b H') → tt σ H Q
def SA (ta : TA) (f : En → Option (List Dt)) : Prop := ∀ H0 F H σ A ds, Rl K H0 F H σ A → f A = some ds → ∀ Q : List V → Hp → Prop, (∀ F' H' vs, Stp F H F' H' → Paired (Bor K F' H') vs ds → Q vs H') → ta σ H Q
def SF (ta : TA) (f : En → Option (List Dt)) : Prop := ∀ H0 F H σ A ds, Rl K H0 F H σ A → f A = some ds → ∀ Q : List V → Hp → Prop, (∀ F' H' vs, Stp F H F' H' → DpAll K F' vs ds → Q vs H') → ta σ H Q
def SO (to : TO) (f : En → Option (Option Int)) : Prop := ∀ H0 F H σ A o, Rl K H0 F H σ A → f A = some o → ∀ Q : Option Int → Hp → Prop, (∀ F' H', Stp F H F' H' → Q o H') → to σ H Q
/-- by values: two places, one place, a list of arguments -/
def RS (r : R2) (g : Dt → Dt → Option Dt) : Prop := ∀ F H x y dx dy d, Same F H → Bor K F H x dx → Bor K F H y dy → g dx dy = some d → ∀ Q : VK, (∀ F' H' v, Stp F H F' H' → Dp K F' v d → Q v H') → r x y H Q
def RN (r : R2) (g : Dt → Dt → Option (List Dt)) : Prop := ∀ F H x y dx dy xs, Same F H → Bor K F H x dx → Bor K F H y dy → g dx dy = some xs → ∀ Q : VK, (∀ F' H' p vs, Stp F H F' H' → FreeT H p → F' p = none → H' p = some (.lst vs) → DpAll K F' vs xs → Q (.ref p) H') → r x y H Q
def CS (r : List V → Hp → VK → Prop) (g : List Dt → Option Dt) : Prop := ∀ F H xs ds d, Same F H → Paired (Bor K F H) xs ds → g ds = some d → ∀ Q : VK, (∀ F' H' v, Stp F H F' H' → Dp K F' v d → Q v H') → r xs H Q
def CN (r : List V → Hp → VK → Prop) (g : List Dt → Option (List Dt)) : Prop := ∀ F H xs ds ys, Same F H → Paired (Bor K F H) xs ds → g ds = some ys → ∀ Q : VK, (∀ F' H' p vs, Stp F H F' H' → FreeT H p → F' p = none → H' p = some (.lst vs) → DpAll K F' vs ys → Q (.ref p) H') → r xs H Q
end
section
variable {K : PySem.W.Frag} {te ta tb tc : TE} {fa fb fc : En → Option Dt} {f : En → Option Dt} {n : En → Option (List Dt)}
theorem SE.sb (h : SE K te f) : SB K te f := fun H0 F H σ A d R e Q q => h H0 F H σ A d R e Q fun F' H' v s b => q F' H' v s (.inl b)
def nE (n : En → Option (List Dt)) : En → Option Dt := fun A => (n A).map .list
theorem SN.se (h : SN K te n) : SE K te (nE n) := fun H0 F H σ A d R e Q q => by
  unfold nE at e
  cases e1 : n A with
  | none => rw [e1] at e; cases e
  | some xs =>
    rw [e1] at e; cases e
    refine h H0 F H σ A xs R e1 Q fun F' H' p vs s h1 h2 h3 h4 => ?_
    exact q (upd F' p (.lst vs)) H' _ (s.frz h1 h2 h3) (.lst (SqL.of upd_same) (dpAll_same (Stp.refl (Same.refl F') |>.ff.trans (fun b o e => by rw [upd_ne (ne_of_none e h2)]; exact e)) h4))
def eVar (i : Nat) : En → Option Dt := fun A => match A[i]? with | some (.d x) => some x | _ => none
def bVar (i : Nat) : En → Option Dt := fun A => match A[i]? with | some (.d x) => some x | some (.ol xs) => some (.list xs) | _ => none
theorem se_var (i : Nat) : SE K (tVar i) (eVar i) := fun H0 F H σ A d R e Q q => by
  unfold eVar at e
  cases e1 : A[i]? with
  | none => rw [e1] at e; cases e
  | some x =>
    rw [e1] at e
    cases x with
    | d y =>
      cases e
      obtain ⟨v, h1, h2⟩ := (R.sl i _ e1).d _ rfl
      exact ⟨v, h1, q F H v (Stp.refl R.sub) h2⟩
    | no => cases e
    | ol _ => cases e
    | od _ => cases e
theorem sb_var (i : Nat) : SB K (tVar i) (bVar i) := fun H0 F H σ A d R e Q q => by
  unfold bVar at e
  cases e1 : A[i]? with
  | none => rw [e1] at e; cases e
  | some x =>
    rw [e1] at e
    cases x with
    | d y =>
      cases e
      obtain ⟨v, h1, h2⟩ := (R.sl i _ e1).d _ rfl
      exact ⟨v, h1, q F H v (Stp.refl R.sub) (.inl h2)⟩
    | ol xs =>
      cases e
      obtain ⟨p, vs, h1, h2, h3, h4, h5⟩ := (R.sl i _ e1).ol xs rfl
      exact ⟨_, h1, q F H _ (Stp.refl R.sub) (.inr ⟨p, vs, xs, rfl, h4, h5, rfl⟩)⟩
    | no => cases e
    | od _ => cases e
def eC (d : Dt) : En → Option Dt := fun _ => some d
theorem se_c {v : V} {d : Dt} (h : ∀ F, Dp K F v d) : SE K (tC v) (eC d) := fun H0 F H σ A d' R e Q q => by
  cases e
  exact q F H v (Stp.refl R.sub) (h F)
def eOp (g : Dt → Dt → Option Dt) (fa fb : En → Option Dt) : En → Option Dt := fun A => (fa A).bind fun x => (fb A).bind fun y => g x y
def nOp (g : Dt → Dt → Option (List Dt)) (fa fb : En → Option Dt) : En → Option (List Dt) := fun A => (fa A).bind fun x => (fb A).bind fun y => g x y
theorem bind_eq_some {α β : Type} {o : Option α} {g : α → Option β} {b : β} (h : o.bind g = some b) : ∃ a, o = some a ∧ g a = some b := by
  cases o with
  | none => cases h
  | some a => exact ⟨a, rfl, h⟩
theorem se_op {r : R2} {g : Dt → Dt → Option Dt} (ha : SB K ta fa) (hb : SB K tb fb) (hr : RS K r g) : SE K (tOp r ta tb) (eOp g fa fb) := fun H0 F H σ A d R e Q q => by
  obtain ⟨x, e1, e⟩ := bind_eq_some e
  obtain ⟨y, e2, e⟩ := bind_eq_some e
  refine ha H0 F H σ A x R e1 _ fun F1 H1 v s1 b1 => ?_
  refine hb H0 F1 H1 σ A y (R.step s1) e2 _ fun F2 H2 w s2 b2 => ?_
  exact hr F2 H2 v w x y d s2.sub (b1.step s2) b2 e Q fun F3 H3 z s3 b3 => q F3 H3 z (s1.trans (s2.trans s3)) b3
theorem sn_op {r : R2} {g : Dt → Dt → Option (List Dt)} (ha : SB K ta fa) (hb : SB K tb fb) (hr : RN K r g) : SN K (tOp r ta tb) (nOp g fa fb) := fun H0 F H σ A d R e Q q => by
  obtain ⟨x, e1, e⟩ := bind_eq_some e
  obtain ⟨y, e2, e⟩ := bind_eq_some e
  refine ha H0 F H σ A x R e1 _ fun F1 H1 v s1 b1 => ?_
  refine hb H0 F1 H1 σ A y (R.step s1) e2 _ fun F2 H2 w s2 b2 => ?_
  exact hr F2 H2 v w x y d s2.sub (b1.step s2) b2 e Q fun F3 H3 p vs s3 n1 n2 n3 n4 => q F3 H3 p vs (s1.trans (s2.trans s3)) (s1.hh.freeT (s2.hh.freeT n1)) n2 n3 n4
def eUn (g : Dt → Option Dt) (fa : En → Option Dt) : En → Option Dt := fun A => (fa A).bind g
theorem se_un {r : V → Hp → VK → Prop} {g : Dt → Option Dt} (ha : SB K ta fa) (hr : ∀ F H x dx d, Same F H → Bor K F H x dx → g dx = some d → ∀ Q : VK, (∀ F' H' v, Stp F H F' H' → Dp K F' v d → Q v H') → r x H Q) : SE K (tUn r ta) (eUn g fa) := fun H0 F H σ A d R e Q q => by
  obtain ⟨x, e1, e⟩ := bind_eq_some e
  refine ha H0 F H σ A x R e1 _ fun F1 H1 v s1 b1 => ?_
  exact hr F1 H1 v x d s1.sub b1 e Q fun F3 H3 z s3 b3 => q F3 H3 z (s1.trans s3) b3

/-! ### arguments -/
def aNil : En → Option (List Dt) := fun _ => some []
def aCons (f : En → Option Dt) (r : En → Option (List Dt)) : En → Option (List Dt) := fun A => (f A).bind fun x => (r A).bind fun xs => some (x :: xs)
theorem sa_nil : SA K tNil aNil := fun H0 F H σ A ds R e Q q => by
  cases e
  exact q F H [] (Stp.refl R.sub) .nil
theorem sf_nil : SF K tNil aNil := fun H0 F H σ A ds R e Q q => by
  cases e
  exact q F H [] (Stp.refl R.sub) .nil
theorem sa_cons {tr : TA} {r : En → Option (List Dt)} (h : SB K te f) (hr : SA K tr r) : SA K (tCons te tr) (aCons f r) := fun H0 F H σ A ds R e Q q => by
  obtain ⟨x, e1, e⟩ := bind_eq_some e
  obtain ⟨y, e2, e⟩ := bind_eq_some e
  cases e
  refine h H0 F H σ A x R e1 _ fun F1 H1 v s1 b1 => ?_
  refine hr H0 F1 H1 σ A y (R.step s1) e2 _ fun F2 H2 w s2 b2 => ?_
  exact q F2 H2 _ (s1.trans s2) (.cons (b1.step s2) b2)
theorem sf_cons {tr : TA} {r : En → Option (List Dt)} (h : SE K te f) (hr : SF K tr r) : SF K (tCons te tr) (aCons f r) := fun H0 F H σ A ds R e Q q => by
  obtain ⟨x, e1, e⟩ := bind_eq_some e
  obtain ⟨y, e2, e⟩ := bind_eq_some e
  cases e
  refine h H0 F H σ A x R e1 _ fun F1 H1 v s1 b1 => ?_
  refine hr H0 F1 H1 σ A y (R.step s1) e2 _ fun F2 H2 w s2 b2 => ?_
  exact q F2 H2 _ (s1.trans s2) (.cons (dp_same s2.ff b1) b2)
/-! ### displays -/
def eTup (r : En → Option (List Dt)) : En → Option Dt := fun A => (r A).bind fun xs => if xs.length ≤ sizeLine then some (.tuple xs) else none
def nLst (r : En → Option (List Dt)) : En → Option (List Dt) := fun A => (r A).bind fun xs => if xs.length ≤ sizeLine then some xs else none
theorem ite_some {α : Type} {c : Prop} [Decidable c] {a b : α} (h : (if c then some a else none) = some b) : c ∧ a = b := by
  by_cases hc : c
  · rw [if_pos hc] at h; exact ⟨hc, Option.some.inj h⟩
  · rw [if_neg hc] at h; cases h
theorem same_upd {H : Hp} {p : Addr} {o : HO} (h : H p = none) : Same H (upd H p o) := fun b u e => by rw [upd_ne (ne_of_none e h)]; exact e
theorem se_tup {tr : TA} {r : En → Option (List Dt)} (h : SF K tr r) : SE K (tTup tr) (eTup r) := fun H0 F H σ A d R e Q q => by
  obtain ⟨xs, e1, e⟩ := bind_eq_some e
  obtain ⟨hl, rfl⟩ := ite_some e
  refine h H0 F H σ A xs R e1 _ fun F1 H1 vs s1 b1 => ⟨by rw [DpAll.len b1]; exact hl, fun p np => ?_⟩
  exact q (upd F1 p (.tup vs)) _ _ (s1.new np) (.tup (SqT.of upd_same) (dpAll_same (same_upd (s1.sub.free np)) b1))
theorem sn_lst {tr : TA} {r : En → Option (List Dt)} (h : SF K tr r) : SN K (tLst tr) (nLst r) := fun H0 F H σ A d R e Q q => by
  obtain ⟨xs, e1, e⟩ := bind_eq_some e
  obtain ⟨hl, rfl⟩ := ite_some e
  refine h H0 F H σ A xs R e1 _ fun F1 H1 vs s1 b1 => ⟨by rw [DpAll.len b1]; exact hl, fun p np => ?_⟩
  exact q F1 _ p vs (s1.newO np) (s1.hh.free np) (s1.sub.free np) upd_same b1
/-! ### tests -/
def tOf (f : En → Option Dt) : En → Option Bool := fun A => (f A).bind fun x => match x with | .bool b => some b | _ => none
theorem st_B (h : SE K te f) : ST K (tB te) (tOf f) := fun H0 F H σ A b R e Q q => by
  obtain ⟨x, e1, e⟩ := bind_eq_some e
  cases x <;> try (cases e; done)
  cases e
  refine h H0 F H σ A _ R e1 _ fun F1 H1 v s1 b1 => ⟨_, dp_bool b1, q F1 H1 s1⟩
theorem st_test (h : SE K te f) : ST K (tTest te) (tOf f) := fun H0 F H σ A b R e Q q => by
  obtain ⟨x, e1, e⟩ := bind_eq_some e
  cases x <;> try (cases e; done)
  cases e
  refine h H0 F H σ A _ R e1 _ fun F1 H1 v s1 b1 => ⟨_, dp_bool b1, q F1 H1 s1⟩
variable {tt tu : TT} {b1 b2 : En → Option Bool}
def tAnd' (f g : En → Option Bool) : En → Option Bool := fun A => (f A).bind fun c => if c = true then g A else some false
def tOr' (f g : En → Option Bool) : En → Option Bool := fun A => (f A).bind fun c => if c = true then some true else g A
def tNot' (f : En → Option Bool) : En → Option Bool := fun A => (f A).map fun c => !c
theorem st_and (h1 : ST K tt b1) (h2 : ST K tu b2) : ST K (L2.tAnd tt tu) (tAnd' b1 b2) := fun H0 F H σ A b R e Q q => by
  obtain ⟨c, e1, e⟩ := bind_eq_some e
  refine h1 H0 F H σ A c R e1 _ fun F1 H1 s1 => ?_
  cases c with
  | true => exact h2 H0 F1 H1 σ A b (R.step s1) e _ fun F2 H2 s2 => q F2 H2 (s1.trans s2)
  | false => cases e; exact q F1 H1 s1
theorem st_or (h1 : ST K tt b1) (h2 : ST K tu b2) : ST K (L2.tOr tt tu) (tOr' b1 b2) := fun H0 F H σ A b R e Q q => by
  obtain ⟨c, e1, e⟩ := bind_eq_some e
  refine h1 H0 F H σ A c R e1 _ fun F1 H1 s1 => ?_
  cases c with
  | true => cases e; exact q F1 H1 s1
  | false => exact h2 H0 F1 H1 σ A b (R.step s1) e _ fun F2 H2 s2 => q F2 H2 (s1.trans s2)
theorem st_not (h1 : ST K tt b1) : ST K (L2.tNot tt) (tNot' b1) := fun H0 F H σ A b R e Q q => by
  unfold tNot' at e
  cases e1 : b1 A with
  | none => rw [e1] at e; cases e
  | some c =>
    rw [e1] at e
    have e2 : (!c) = b := Option.some.inj e
    exact h1 H0 F H σ A c R e1 _ fun F1 H1 s1 => by rw [e2]; exact q F1 H1 s1
def eIf (t : En → Option Bool) (fa fb : En → Option Dt) : En → Option Dt := fun A => (t A).bind fun c => if c = true then fa A else fb A
theorem se_if (h : ST K tt b1) (ha : SE K ta fa) (hb : SE K tb fb) : SE K (L2.tIf tt ta tb) (eIf b1 fa fb) := fun H0 F H σ A d R e Q q => by
  obtain ⟨c, e1, e⟩ := bind_eq_some e
  refine h H0 F H σ A c R e1 _ fun F1 H1 s1 => ?_
  cases c with
  | true => exact ha H0 F1 H1 σ A d (R.step s1) e _ fun F2 H2 v s2 => q F2 H2 v (s1.trans s2)
  | false => exact hb H0 F1 H1 σ A d (R.step s1) e _ fun F2 H2 v s2 => q F2 H2 v (s1.trans s2)
def asB (d : Dt) : Option Bool := match d with | .bool b => some b | _ => none
def eAnd (fa fb : En → Option Dt) : En → Option Dt := fun A => (fa A).bind fun x => (asB x).bind fun c => if c = true then fb A else some (.bool false)
def eOr (fa fb : En → Option Dt) : En → Option Dt := fun A => (fa A).bind fun x => (asB x).bind fun c => if c = true then some (.bool true) else fb A
theorem asB_some {d : Dt} {c : Bool} (h : asB d = some c) : d = .bool c := by
  cases d <;> try (cases h; done)
  cases h; rfl
theorem se_and (ha : SE K ta fa) (hb : SE K tb fb) : SE K (tAndV ta tb) (eAnd fa fb) := fun H0 F H σ A d R e Q q => by
  obtain ⟨x, e1, e⟩ := bind_eq_some e
  obtain ⟨c, e2, e⟩ := bind_eq_some e
  rw [asB_some e2] at e1
  refine ha H0 F H σ A _ R e1 _ fun F1 H1 v s1 b1 => ⟨c, dp_bool b1, ?_⟩
  cases c with
  | true => exact hb H0 F1 H1 σ A d (R.step s1) e _ fun F2 H2 v s2 => q F2 H2 v (s1.trans s2)
  | false => cases e; exact q F1 H1 _ s1 (.bl false)
theorem se_or (ha : SE K ta fa) (hb : SE K tb fb) : SE K (tOrV ta tb) (eOr fa fb) := fun H0 F H σ A d R e Q q => by
  obtain ⟨x, e1, e⟩ := bind_eq_some e
  obtain ⟨c, e2, e⟩ := bind_eq_some e
  rw [asB_some e2] at e1
  refine ha H0 F H σ A _ R e1 _ fun F1 H1 v s1 b1 => ⟨c, dp_bool b1, ?_⟩
  cases c with
  | true => cases e; exact q F1 H1 _ s1 (.bl true)
  | false => exact hb H0 F1 H1 σ A d (R.step s1) e _ fun F2 H2 v s2 => q F2 H2 v (s1.trans s2)
def eNot (fa : En → Option Dt) : En → Option Dt := fun A => (fa A).bind fun x => (asB x).bind fun c => some (.bool (!c))
theorem se_not (ha : SE K ta fa) : SE K (tNotV ta) (eNot fa) := fun H0 F H σ A d R e Q q => by
  obtain ⟨x, e1, e⟩ := bind_eq_some e
  obtain ⟨c, e2, e⟩ := bind_eq_some e
  rw [asB_some e2] at e1
  cases e
  exact ha H0 F H σ A _ R e1 _ fun F1 H1 v s1 b1 => ⟨c, dp_bool b1, q F1 H1 _ s1 (.bl _)⟩
/-! ### a < b < c -/
def eChain (g g' : Dt → Dt → Option Dt) (fa fb fc : En → Option Dt) : En → Option Dt := fun A => (fa A).bind fun x => (fb A).bind fun y => (g x y).bind fun z => (asB z).bind fun k => if k = true then (fc A).bind fun w => g' y w else some (.bool false)
theorem se_chain {r r' : R2} {g g' : Dt → Dt → Option Dt} (ha : SB K ta fa) (hb : SB K tb fb) (hc : SB K tc fc) (hr : RS K r g) (hr' : RS K r' g') : SE K (tChain r r' ta tb tc) (eChain g g' fa fb fc) := fun H0 F H σ A d R e Q q => by
  obtain ⟨x, e1, e⟩ := bind_eq_some e
  obtain ⟨y, e2, e⟩ := bind_eq_some e
  obtain ⟨z, e3, e⟩ := bind_eq_some e
  obtain ⟨k, e4, e⟩ := bind_eq_some e
  rw [asB_some e4] at e3
  refine ha H0 F H σ A x R e1 _ fun F1 H1 v s1 b1 => ?_
  refine hb H0 F1 H1 σ A y (R.step s1) e2 _ fun F2 H2 w s2 b2 => ?_
  refine hr F2 H2 v w x y _ s2.sub (b1.step s2) b2 e3 _ fun F3 H3 z' s3 b3 => ⟨k, dp_bool b3, ?_⟩
  have R3 := (R.step s1).step (s2.trans s3)
  cases k with
  | false => cases e; exact q F3 H3 _ (s1.trans (s2.trans s3)) (.bl false)
  | true =>
    obtain ⟨w', e5, e⟩ := bind_eq_some e
    refine hc H0 F3 H3 σ A w' R3 e5 _ fun F4 H4 u s4 b4 => ?_
    exact hr' F4 H4 w u y w' d s4.sub (b2.step (s3.trans s4)) b4 e Q fun F5 H5 z s5 b5 => q F5 H5 z (s1.trans (s2.trans (s3.trans (s4.trans s5)))) b5
/-! ### calls of builtins by values -/
def eCB (g : List Dt → Option Dt) (r : En → Option (List Dt)) : En → Option Dt := fun A => (r A).bind g
def nCB (g : List Dt → Option (List Dt)) (r : En → Option (List Dt)) : En → Option (List Dt) := fun A => (r A).bind g
theorem se_cb {rr : List V → Hp → VK → Prop} {g : List Dt → Option Dt} {t : TA} {r : En → Option (List Dt)} (h : SA K t r) (hr : CS K rr g) : SE K (tCB rr t) (eCB g r) := fun H0 F H σ A d R e Q q => by
  obtain ⟨x, e1, e⟩ := bind_eq_some e
  refine h H0 F H σ A x R e1 _ fun F1 H1 vs s1 b1 => ?_
  exact hr F1 H1 vs x d s1.sub b1 e Q fun F2 H2 v s2 b2 => q F2 H2 v (s1.trans s2) b2
theorem sn_cb {rr : List V → Hp → VK → Prop} {g : List Dt → Option (List Dt)} {t : TA} {r : En → Option (List Dt)} (h : SA K t r) (hr : CN K rr g) : SN K (tCB rr t) (nCB g r) := fun H0 F H σ A d R e Q q => by
  obtain ⟨x, e1, e⟩ := bind_eq_some e
  refine h H0 F H σ A x R e1 _ fun F1 H1 vs s1 b1 => ?_
  exact hr F1 H1 vs x d s1.sub b1 e Q fun F2 H2 p us s2 n1 n2 n3 n4 => q F2 H2 p us (s1.trans s2) (s1.hh.freeT n1) n2 n3 n4
/-! ### slices -/
def oNone : En → Option (Option Int) := fun _ => some none
def asI (d : Dt) : Option Int := match d with | .int i => some i | _ => none
theorem asI_some {d : Dt} {c : Int} (h : asI d = some c) : d = .int c := by
  cases d <;> try (cases h; done)
  cases h; rfl
def oSome (f : En → Option Dt) : En → Option (Option Int) := fun A => (f A).bind fun x => (asI x).bind fun i => some (some i)
theorem so_none : SO K tNoPart oNone := fun H0 F H σ A o R e Q q => by
  cases e
  exact q F H (Stp.refl R.sub)
theorem so_some (h : SE K te f) : SO K (tPart te) (oSome f) := fun H0 F H σ A o R e Q q => by
  obtain ⟨x, e1, e⟩ := bind_eq_some e
  obtain ⟨i, e2, e⟩ := bind_eq_some e
  rw [asI_some e2] at e1
  cases e
  exact h H0 F H σ A _ R e1 _ fun F1 H1 v s1 b1 => ⟨i, dp_int b1, q F1 H1 s1⟩
def cutD (xs : List Dt) (lo hi : Option Int) : List Dt := (xs.drop (HT.sIx xs.length 0 lo)).take (HT.sIx xs.length xs.length hi - HT.sIx xs.length 0 lo)
def nSl (fa : En → Option Dt) (l u : En → Option (Option Int)) : En → Option (List Dt) := fun A => (fa A).bind fun x => (l A).bind fun lo => (u A).bind fun hi => match x with | .list xs => some (cutD xs lo hi) | _ => none
theorem sn_sl {tl th : TO} {l u : En → Option (Option Int)} (ha : SB K ta fa) (hl : SO K tl l) (hu : SO K th u) : SN K (tSl (rSlL K) ta tl th) (nSl fa l u) := fun H0 F H σ A d R e Q q => by
  obtain ⟨x, e1, e⟩ := bind_eq_some e
  obtain ⟨lo, e2, e⟩ := bind_eq_some e
  obtain ⟨hi, e3, e⟩ := bind_eq_some e
  cases x <;> try (cases e; done)
  cases e
  refine ha H0 F H σ A _ R e1 _ fun F1 H1 v s1 b1 => ?_
  refine hl H0 F1 H1 σ A lo (R.step s1) e2 _ fun F2 H2 s2 => ?_
  refine hu H0 F2 H2 σ A hi ((R.step s1).step s2) e3 _ fun F3 H3 s3 => ?_
  have st := s1.trans (s2.trans s3)
  obtain ⟨p, vs, rfl, rd, ad⟩ := ((b1.step s2).step s3).list st.sub
  refine ⟨p, vs, rfl, rd, fun l hl => q F3 _ l _ (st.newO hl) (st.hh.free hl) (st.sub.free hl) upd_same ?_⟩
  have e := DpAll.len ad
  unfold cutV cutD
  rw [e]
  exact DpAll.take _ (DpAll.drop _ ad)
def eSlS (fa : En → Option Dt) (l u : En → Option (Option Int)) : En → Option Dt := fun A => (fa A).bind fun x => (l A).bind fun lo => (u A).bind fun hi => match x with | .str z => if z.length ≤ sizeLine then some (.str (cutS z lo hi)) else none | _ => none
theorem se_slS {tl th : TO} {l u : En → Option (Option Int)} (ha : SB K ta fa) (hl : SO K tl l) (hu : SO K th u) : SE K (tSl rSlS ta tl th) (eSlS fa l u) := fun H0 F H σ A d R e Q q => by
  obtain ⟨x, e1, e⟩ := bind_eq_some e
  obtain ⟨lo, e2, e⟩ := bind_eq_some e
  obtain ⟨hi, e3, e⟩ := bind_eq_some e
  cases x <;> try (cases e; done)
  obtain ⟨hz, rfl⟩ := ite_some e
  refine ha H0 F H σ A _ R e1 _ fun F1 H1 v s1 b1 => ?_
  refine hl H0 F1 H1 σ A lo (R.step s1) e2 _ fun F2 H2 s2 => ?_
  refine hu H0 F2 H2 σ A hi ((R.step s1).step s2) e3 _ fun F3 H3 s3 => ?_
  exact ⟨_, Bor.str b1, hz, q F3 H3 _ (s1.trans (s2.trans s3)) (.str _)⟩
/-! ### calls of defs -/
/-- what a def of data promises -/
def spD (K : PySem.W.Frag) (g : List Dt → Option Dt) : Sp := fun vs H Q _ => ∃ F ds d, Same F H ∧ TbOk F H ∧ DpAll K F vs ds ∧ g ds = some d ∧ ∀ F' H' v, Stp F H F' H' → Dp K F' v d → Q v H'
theorem se_call {g : List Dt → Option Dt} {E : XK} {t : TA} {r : En → Option (List Dt)} (h : SF K t r) : SE K (tCall (spD K g) [] E t) (eCB g r) := fun H0 F H σ A d R e Q q => by
  obtain ⟨x, e1, e⟩ := bind_eq_some e
  refine h H0 F H σ A x R e1 _ fun F1 H1 vs s1 b1 => ?_
  show spD K g (vs ++ []) H1 Q E
  rw [List.append_nil]
  exact ⟨F1, x, d, s1.sub, R.tb.step s1, b1, e, fun F2 H2 v s2 b2 => q F2 H2 v (s1.trans s2) b2⟩
end
end Dv

namespace Dv
open PySem PySem.Spec PyProof.Rows
open L2 hiding Dp DpAll
open LamX (TabS CodeO Tabs ExtN)
variable [Tb]

section
variable {K : PySem.W.Frag} {F H : Hp} {v : V} {d : Dt}
theorem Bor.old (sub : Same F H) (h : Bor K F H v d) : L2.Dp K H v d := by
  rcases h with h | ⟨p, vs, xs, rfl, h2, h3, rfl⟩
  · exact (dp_same sub h).old
  · exact .lst (SqL.of h2) (dpAll_same sub h3).old
theorem Bor.none' (h : Bor K F H v .none) : v = .non := by
  rcases h with h | ⟨p, vs, ys, rfl, h2, h3, h4⟩
  · cases h; rfl
  · cases h4
theorem rdL {a : Addr} {xs : List V} (h : SqL K H a xs) : SqL K H a xs := h
theorem stp0 (sub : Same F H) : Stp F H F H := Stp.refl sub
end

/-! ### the operations on data -/
def addD : Dt → Dt → Option Dt
  | .int i, .int j => some (.int (i + j))
  | .str i, .str j => if i.length + j.length ≤ sizeLine then some (.str (i ++ j)) else none
  | .list xs, .list ys => if xs.length + ys.length ≤ sizeLine then some (.list (xs ++ ys)) else none
  | .tuple xs, .tuple ys => if xs.length + ys.length ≤ sizeLine then some (.tuple (xs ++ ys)) else none
  | _, _ => none
def catN : Dt → Dt → Option (List Dt)
  | .list xs, .list ys => if xs.length + ys.length ≤ sizeLine then some (xs ++ ys) else none
  | _, _ => none
def subD : Dt → Dt → Option Dt
  | .int i, .int j => some (.int (i - j))
  | _, _ => none
instance (i j : Int) : Decidable (CMulW i j) := by unfold CMulW; infer_instance
instance (i j : Int) : Decidable (CDivW i j) := by unfold CDivW; infer_instance
instance (i j : Int) : Decidable (CPow i j) := by unfold CPow; infer_instance
def mulD : Dt → Dt → Option Dt
  | .int i, .int j => if CMulW i j then some (.int (i * j)) else none
  | .list xs, .int k => if -(2 ^ 63) ≤ k ∧ k < 2 ^ 63 ∧ xs.length * k.toNat ≤ sizeLine then some (.list (List.replicate k.toNat xs).flatten) else none
  | _, _ => none
def repN : Dt → Dt → Option (List Dt)
  | .list xs, .int k => if -(2 ^ 63) ≤ k ∧ k < 2 ^ 63 ∧ xs.length * k.toNat ≤ sizeLine then some (List.replicate k.toNat xs).flatten else none
  | _, _ => none
def modD : Dt → Dt → Option Dt
  | .int i, .int j => if 0 < j then some (.int (i % j)) else none
  | _, _ => none
def fdivD : Dt → Dt → Option Dt
  | .int i, .int j => if CDivW i j then some (.int (i / j)) else none
  | _, _ => none
def powD : Dt → Dt → Option Dt
  | .int i, .int j => if CPow i j then some (.int (i ^ j.toNat)) else none
  | _, _ => none
def ltD : Dt → Dt → Option Dt
  | .int i, .int j => some (.bool (decide (i < j)))
  | .str i, .str j => some (.bool (decide (i.cps.toList < j.cps.toList)))
  | _, _ => none
def leD : Dt → Dt → Option Dt
  | .int i, .int j => some (.bool (decide (i ≤ j)))
  | .str i, .str j => some (.bool (!decide (j.cps.toList < i.cps.toList)))
  | _, _ => none
def gtD : Dt → Dt → Option Dt
  | .int i, .int j => some (.bool (decide (j < i)))
  | .str i, .str j => some (.bool (decide (j.cps.toList < i.cps.toList)))
  | _, _ => none
def geD : Dt → Dt → Option Dt
  | .int i, .int j => some (.bool (decide (j ≤ i)))
  | .str i, .str j => some (.bool (!decide (i.cps.toList < j.cps.toList)))
  | _, _ => none
def eqD (x y : Dt) : Option Dt := if SeqAt.shaped x = true ∧ SeqAt.shaped y = true then some (.bool (PyData.eqv x y)) else none
def neD (x y : Dt) : Option Dt := if SeqAt.shaped x = true ∧ SeqAt.shaped y = true then some (.bool (!PyData.eqv x y)) else none
def isND : Dt → Dt → Option Dt
  | .none, .none => some (.bool true)
  | _, .none => some (.bool false)
  | _, _ => none
def notND : Dt → Dt → Option Dt
  | .none, .none => some (.bool false)
  | _, .none => some (.bool true)
  | _, _ => none
/-- flat data as a value -/
def flV : Dt → Option V
  | .none => some .non
  | .bool b => some (.bl b)
  | .int i => some (.int i)
  | .str x => some (.str x)
  | _ => none
def flVs : List Dt → Option (List V)
  | [] => some []
  | x :: xs => (flV x).bind fun v => (flVs xs).bind fun vs => some (v :: vs)
def inSeqD (x : Dt) (xs : List Dt) : Option Bool := (flV x).bind fun v => (flVs xs).bind fun vs => some (inV v vs)
def inD : Dt → Dt → Option Dt
  | x, .list xs => (inSeqD x xs).map .bool
  | x, .tuple xs => (inSeqD x xs).map .bool
  | .str s, .str z => match s.cps.toList with
    | [c] => some (.bool (decide (c ∈ z.cps.toList)))
    | _ => none
  | _, _ => none
def notInD : Dt → Dt → Option Dt
  | x, .list xs => (inSeqD x xs).map fun b => .bool (!b)
  | x, .tuple xs => (inSeqD x xs).map fun b => .bool (!b)
  | .str s, .str z => match s.cps.toList with
    | [c] => some (.bool (!decide (c ∈ z.cps.toList)))
    | _ => none
  | _, _ => none
def ixD : Dt → Dt → Option Dt
  | .list xs, .int i => atI xs i
  | .tuple xs, .int i => atI xs i
  | .str z, .int i => if z.length ≤ sizeLine then (atI z.cps.toList i).map fun c => .str ⟨#[c]⟩ else none
  | _, _ => none
def negD : Dt → Option Dt
  | .int i => some (.int (-i))
  | _ => none

/-! ### rules of the layer, for lists that are read -/
section
variable {X : Cx}
def rCatR (K : PySem.W.Frag) : R2 := fun x y H Q => ∃ l b xs zs, x = .ref l ∧ y = .ref b ∧ SqL K H l xs ∧ SqL K H b zs ∧ xs.length + zs.length ≤ sizeLine ∧ ∀ p, H p = none → Q (.ref p) (upd H p (.lst (xs ++ zs)))
theorem op_catR : OpR X (binaryOp .Add) (rCatR X.K) := by
  intro pins s σ H x y v u Q I rx ry h
  obtain ⟨l, b, xs, zs, rfl, rfl, hH, hB, hz, q⟩ := h
  cases rx
  cases ry
  obtain ⟨its, r, hl, hz1⟩ := I.list hH
  obtain ⟨its2, r2, hl2, hz2⟩ := I.list hB
  have e1 := r.length
  have e2 := r2.length
  obtain ⟨⟨cls, dd, data, sl⟩, ho, hc, n, hd⟩ := hl.isList
  obtain ⟨⟨cls2, dd2, data2, sl2⟩, ho2, hc2, n2, hd2⟩ := hl2.isList
  simp only at hc hd hc2 hd2
  subst hc hd hc2 hd2
  have e : its.toArray ++ its2.toArray = (its ++ its2).toArray := by simp
  refine concat_meets ⟨_, ho, rfl⟩ ⟨_, ho2, rfl⟩ noFill_list_add seq_list_add PySem.F.slot_list_add PySem.F.entry_list_add (PySem.F.args_list_add_2 _ _) (list_addW l b its.toArray its2.toArray n n2 dd dd2 sl sl2 (by rw [List.size_toArray, List.size_toArray]; omega)) ⟨ho, ho2, ?_⟩
  rw [e]
  exact ⟨.ref _, _, I.lnew (t' := s.toks) (r.append r2) (by rw [List.length_append]; omega), rfl, q _ I.fresh⟩
def rRepR (K : PySem.W.Frag) : R2 := fun x y H Q => ∃ l k xs, x = .ref l ∧ y = .int k ∧ SqL K H l xs ∧ -(2 ^ 63) ≤ k ∧ k < 2 ^ 63 ∧ xs.length * k.toNat ≤ sizeLine ∧
  ∀ p, H p = none → Q (.ref p) (upd H p (.lst (List.replicate k.toNat xs).flatten))
theorem op_repR : OpR X (binaryOp .Mult) (rRepR X.K) := by
  intro pins s σ H x y v u Q I rx ry h
  obtain ⟨l, k, xs, rfl, rfl, hH, h1, h2, hz, q⟩ := h
  cases rx
  obtain ⟨t, rfl⟩ := ry
  obtain ⟨its, r, hls, hz1⟩ := I.list hH
  have hl := r.length
  obtain ⟨⟨cls, dd, data, sl⟩, ho, hc, n, hd⟩ := hls.isList
  simp only at hc hd
  subst hc hd
  have hlen : its.toArray.size * k.toNat ≤ sizeLine := by rw [List.size_toArray, ← hl]; exact hz
  have hcap : ¬ its.toArray.size * k.toNat > (2 ^ 63 - 1) / 8 := by
    have : (sizeLine : Nat) ≤ (2 ^ 63 - 1) / 8 := by decide
    omega
  have hfit : ¬ (!Builtin.List.listFitsIndex k) = true := by
    rw [fitsIndex_both h1 h2]
    exact Bool.false_ne_true
  have hlong : ¬ Builtin.List.listTooLong (its.toArray.size * k.toNat) = true := by
    rw [notLongL hlen]
    exact Bool.false_ne_true
  have hnew : List.foldl (fun x1 x2 => x1 ++ x2) #[] (List.replicate (if its.toArray.isEmpty = true then 0 else k.toNat) its.toArray) = (List.replicate k.toNat its).flatten.toArray := by
    have f0 : ∀ m : Nat, List.foldl (fun x1 x2 => x1 ++ x2) #[] (List.replicate m its.toArray) = (List.replicate m its).flatten.toArray := fun m => by
      have := foldl_rep its m []
      rw [List.nil_append] at this
      exact this
    rw [f0]
    cases its with
    | nil => simp
    | cons a r' => rw [if_neg (by simp)]
  refine wpAny_binaryOp_repeat_ref (T := "list") (U := "int") (by decide) ⟨_, ho, rfl⟩ (fun s' => typeIs_int s' k t) noFill_list_mul F.fills_int_mul F.slot_int_rmul repeat_list F.slot_int_index.lookup
    (call_meets F.slot_int_rmul (typeIs_int s k t) F.entry_int_rmul (F.args_int_rmul_2 _ _) (lm_int_rmul_list_any k t l its.toArray n dd sl)
      ⟨ho, rfl, ⟨_, ho, rfl⟩, call_meets F.slot_list_mul ⟨_, ho, rfl⟩ F.entry_list_mul (F.args_list_mul_2 _ _) (lm_list_mul_any l its.toArray n dd sl k t hfit hcap hlong) ⟨ho, ?_⟩⟩)
  rw [hnew]
  exact ⟨.ref _, _, I.lnew (t' := s.toks) (r.rep k.toNat) (by rw [PyProof.Rows.lm_len_rep_flat, Nat.mul_comm]; exact hz), rfl, q _ I.fresh⟩
def rAddI : R2 := rI0 fun i j => .int (i + j)
def rAddS : R2 := fun x y H Q => ∃ i j, x = .str i ∧ y = .str j ∧ i.length + j.length ≤ sizeLine ∧ Q (.str (i ++ j)) H
def rAdd3 (K : PySem.W.Frag) : R2 := fun x y H Q => rAddI x y H Q ∨ (rAddS x y H Q ∨ (rCatR K x y H Q ∨ rCatA K x y H Q))
theorem op_add3 : OpR X (binaryOp .Add) (rAdd3 X.K) := OpR.or op_add (OpR.or op_add_str (OpR.or op_catR op_catA))
def rMul2 (K : PySem.W.Frag) : R2 := fun x y H Q => rI CMulW (fun i j => .int (i * j)) x y H Q ∨ rRepR K x y H Q
theorem op_mul2 : OpR X (binaryOp .Mult) (rMul2 X.K) := OpR.or op_mulW op_repR
def rLt2 : R2 := fun x y H Q => rI0 (fun i j => .bl (decide (i < j))) x y H Q ∨ ∃ i j, x = .str i ∧ y = .str j ∧ Q (.bl (decide (i.cps.toList < j.cps.toList))) H
def rLe2 : R2 := fun x y H Q => rI0 (fun i j => .bl (decide (i ≤ j))) x y H Q ∨ ∃ i j, x = .str i ∧ y = .str j ∧ Q (.bl (!decide (j.cps.toList < i.cps.toList))) H
def rGt2 : R2 := fun x y H Q => rI0 (fun i j => .bl (decide (j < i))) x y H Q ∨ ∃ i j, x = .str i ∧ y = .str j ∧ Q (.bl (decide (j.cps.toList < i.cps.toList))) H
def rGe2 : R2 := fun x y H Q => rI0 (fun i j => .bl (decide (j ≤ i))) x y H Q ∨ ∃ i j, x = .str i ∧ y = .str j ∧ Q (.bl (!decide (i.cps.toList < j.cps.toList))) H
theorem op_lt2 : OpR X (compareOp .Lt) rLt2 := OpR.or op_lt op_lt_str
theorem op_le2 : OpR X (compareOp .LtE) rLe2 := OpR.or op_le op_le_str
theorem op_gt2 : OpR X (compareOp .Gt) rGt2 := OpR.or op_gt op_gt_str
theorem op_ge2 : OpR X (compareOp .GtE) rGe2 := OpR.or op_ge op_ge_str
def rInS (neg : Bool) : R2 := fun x y H Q => ∃ (c : Nat) (z : Str), x = .str ⟨#[c]⟩ ∧ y = .str z ∧ Q (.bl (if neg then !decide (c ∈ z.cps.toList) else decide (c ∈ z.cps.toList))) H
def rIn2 (K : PySem.W.Frag) (neg : Bool) : R2 := fun x y H Q => rIn K neg x y H Q ∨ rInS neg x y H Q
theorem op_in2 : OpR X (compareOp .In) (rIn2 X.K false) := OpR.or op_in_seq op_in_sign
theorem op_nin2 : OpR X (compareOp .NotIn) (rIn2 X.K true) := OpR.or op_notIn_seq op_notIn_sign
end

/-! ### by values -/
section
variable {K : PySem.W.Frag}
theorem rs_int {C : Int → Int → Prop} [∀ i j, Decidable (C i j)] {h : Int → Int → Int} {g : Dt → Dt → Option Dt} (hg : ∀ x y d, g x y = some d → ∃ i j, x = .int i ∧ y = .int j ∧ C i j ∧ d = .int (h i j)) : RS K (rI C fun i j => .int (h i j)) g := fun F H x y dx dy d sub bx by_ e Q q => by
  obtain ⟨i, j, rfl, rfl, hc, rfl⟩ := hg _ _ _ e
  exact ⟨i, j, bx.int, by_.int, hc, q F H _ (stp0 sub) (.int _)⟩
theorem rs_add : RS K (rAdd3 K) addD := fun F H x y dx dy d sub bx by_ e Q q => by
  unfold addD at e
  split at e
  · cases e
    exact .inl ⟨_, _, bx.int, by_.int, q F H _ (stp0 sub) (.int _)⟩
  · obtain ⟨hl, rfl⟩ := ite_some e
    exact .inr (.inl ⟨_, _, bx.str, by_.str, hl, q F H _ (stp0 sub) (.str _)⟩)
  · obtain ⟨hl, rfl⟩ := ite_some e
    obtain ⟨p, vs, rfl, r1, a1⟩ := bx.list sub
    obtain ⟨p2, vs2, rfl, r2, a2⟩ := by_.list sub
    refine .inr (.inr (.inl ⟨p, p2, vs, vs2, rfl, rfl, r1, r2, by rw [DpAll.len a1, DpAll.len a2]; exact hl, fun l nl => ?_⟩))
    exact q (upd F l (.lst (vs ++ vs2))) _ _ ((stp0 sub).new nl) (.lst (SqL.of upd_same) (dpAll_same (same_upd (sub.free nl)) (DpAll.app a1 a2)))
  · obtain ⟨hl, rfl⟩ := ite_some e
    have d1 := bx.tupD
    have d2 := by_.tupD
    obtain ⟨p, vs, rfl, r1, a1⟩ := bx.tuple sub
    obtain ⟨p2, vs2, rfl, r2, a2⟩ := by_.tuple sub
    refine .inr (.inr (.inr ⟨p, p2, vs, vs2, rfl, rfl, r1, r2, by rw [DpAll.len a1, DpAll.len a2]; exact hl, fun e1 => ?_, fun _ e2 => ?_, fun _ _ l nl => ?_⟩))
    · subst e1
      cases a1
      exact q F H _ (stp0 sub) d2
    · subst e2
      cases a2
      rw [List.append_nil] at q
      exact q F H _ (stp0 sub) d1
    · exact q (upd F l (.tup (vs ++ vs2))) _ _ ((stp0 sub).new nl) (.tup (SqT.of upd_same) (dpAll_same (same_upd (sub.free nl)) (DpAll.app a1 a2)))
  · cases e
theorem rn_cat : RN K (rAdd3 K) catN := fun F H x y dx dy d sub bx by_ e Q q => by
  unfold catN at e
  split at e
  · obtain ⟨hl, rfl⟩ := ite_some e
    obtain ⟨p, vs, rfl, r1, a1⟩ := bx.list sub
    obtain ⟨p2, vs2, rfl, r2, a2⟩ := by_.list sub
    refine .inr (.inr (.inl ⟨p, p2, vs, vs2, rfl, rfl, r1, r2, by rw [DpAll.len a1, DpAll.len a2]; exact hl, fun l nl => ?_⟩))
    exact q F _ l _ ((stp0 sub).newO nl) (freeT_n nl) (sub.free nl) upd_same (DpAll.app a1 a2)
  · cases e
theorem rs_sub : RS K (rI0 fun i j => .int (i - j)) subD := fun F H x y dx dy d sub bx by_ e Q q => by
  unfold subD at e
  split at e
  · cases e
    exact ⟨_, _, bx.int, by_.int, q F H _ (stp0 sub) (.int _)⟩
  · cases e
theorem DpAll.rep {F : Hp} {vs : List V} {xs : List Dt} (h : DpAll K F vs xs) : ∀ n : Nat, DpAll K F (List.replicate n vs).flatten (List.replicate n xs).flatten
  | 0 => .nil
  | n + 1 => by
    rw [List.replicate_succ, List.replicate_succ, List.flatten_cons, List.flatten_cons]
    exact DpAll.app h (DpAll.rep h n)
theorem rs_mul : RS K (rMul2 K) mulD := fun F H x y dx dy d sub bx by_ e Q q => by
  unfold mulD at e
  split at e
  · obtain ⟨hc, rfl⟩ := ite_some e
    exact .inl ⟨_, _, bx.int, by_.int, hc, q F H _ (stp0 sub) (.int _)⟩
  · obtain ⟨⟨h1, h2, h3⟩, rfl⟩ := ite_some e
    obtain ⟨p, vs, rfl, r1, a1⟩ := bx.list sub
    refine .inr ⟨p, _, vs, rfl, by_.int, r1, h1, h2, by rw [DpAll.len a1]; exact h3, fun l nl => ?_⟩
    exact q (upd F l _) _ _ ((stp0 sub).new nl) (.lst (SqL.of upd_same) (dpAll_same (same_upd (sub.free nl)) (DpAll.rep a1 _)))
  · cases e
theorem rn_rep : RN K (rMul2 K) repN := fun F H x y dx dy d sub bx by_ e Q q => by
  unfold repN at e
  split at e
  · obtain ⟨⟨h1, h2, h3⟩, rfl⟩ := ite_some e
    obtain ⟨p, vs, rfl, r1, a1⟩ := bx.list sub
    refine .inr ⟨p, _, vs, rfl, by_.int, r1, h1, h2, by rw [DpAll.len a1]; exact h3, fun l nl => ?_⟩
    exact q F _ l _ ((stp0 sub).newO nl) (freeT_n nl) (sub.free nl) upd_same (DpAll.rep a1 _)
  · cases e
theorem rs_mod : RS K (rI (fun _ j => 0 < j) fun i j => .int (i % j)) modD := fun F H x y dx dy d sub bx by_ e Q q => by
  unfold modD at e
  split at e
  · obtain ⟨hc, rfl⟩ := ite_some e
    exact ⟨_, _, bx.int, by_.int, hc, q F H _ (stp0 sub) (.int _)⟩
  · cases e
theorem rs_fdiv : RS K (rI CDivW fun i j => .int (i / j)) fdivD := fun F H x y dx dy d sub bx by_ e Q q => by
  unfold fdivD at e
  split at e
  · obtain ⟨hc, rfl⟩ := ite_some e
    exact ⟨_, _, bx.int, by_.int, hc, q F H _ (stp0 sub) (.int _)⟩
  · cases e
theorem rs_pow : RS K (rI CPow fun i j => .int (i ^ j.toNat)) powD := fun F H x y dx dy d sub bx by_ e Q q => by
  unfold powD at e
  split at e
  · obtain ⟨hc, rfl⟩ := ite_some e
    exact ⟨_, _, bx.int, by_.int, hc, q F H _ (stp0 sub) (.int _)⟩
  · cases e
theorem rs_lt : RS K rLt2 ltD := fun F H x y dx dy d sub bx by_ e Q q => by
  unfold ltD at e
  split at e
  · cases e; exact .inl ⟨_, _, bx.int, by_.int, q F H _ (stp0 sub) (.bl _)⟩
  · cases e; exact .inr ⟨_, _, bx.str, by_.str, q F H _ (stp0 sub) (.bl _)⟩
  · cases e
theorem rs_le : RS K rLe2 leD := fun F H x y dx dy d sub bx by_ e Q q => by
  unfold leD at e
  split at e
  · cases e; exact .inl ⟨_, _, bx.int, by_.int, q F H _ (stp0 sub) (.bl _)⟩
  · cases e; exact .inr ⟨_, _, bx.str, by_.str, q F H _ (stp0 sub) (.bl _)⟩
  · cases e
theorem rs_gt : RS K rGt2 gtD := fun F H x y dx dy d sub bx by_ e Q q => by
  unfold gtD at e
  split at e
  · cases e; exact .inl ⟨_, _, bx.int, by_.int, q F H _ (stp0 sub) (.bl _)⟩
  · cases e; exact .inr ⟨_, _, bx.str, by_.str, q F H _ (stp0 sub) (.bl _)⟩
  · cases e
theorem rs_ge : RS K rGe2 geD := fun F H x y dx dy d sub bx by_ e Q q => by
  unfold geD at e
  split at e
  · cases e; exact .inl ⟨_, _, bx.int, by_.int, q F H _ (stp0 sub) (.bl _)⟩
  · cases e; exact .inr ⟨_, _, bx.str, by_.str, q F H _ (stp0 sub) (.bl _)⟩
  · cases e
theorem rs_eq : RS K (rEqD K) eqD := fun F H x y dx dy d sub bx by_ e Q q => by
  unfold eqD at e
  obtain ⟨⟨h1, h2⟩, rfl⟩ := ite_some e
  exact ⟨dx, dy, bx.old sub, by_.old sub, h1, h2, q F H _ (stp0 sub) (.bl _)⟩
theorem rs_ne : RS K (rNeD K) neD := fun F H x y dx dy d sub bx by_ e Q q => by
  unfold neD at e
  obtain ⟨⟨h1, h2⟩, rfl⟩ := ite_some e
  exact ⟨dx, dy, bx.old sub, by_.old sub, h1, h2, q F H _ (stp0 sub) (.bl _)⟩
def rIsN' : R2 := fun x y H Q => y = .non ∧ Q (.bl (decide (x = .non))) H
def rNotN' : R2 := fun x y H Q => y = .non ∧ Q (.bl (!decide (x = .non))) H
theorem op_isN' {X : Cx} : OpR X (compareOp .Is) rIsN' := op_isN
theorem op_notN' {X : Cx} : OpR X (compareOp .IsNot) rNotN' := op_notN
theorem bor_non {F H : Hp} {x : V} {d : Dt} (h : Bor K F H x d) : decide (x = .non) = (match d with | .none => true | _ => false) := by
  rcases h with h | ⟨p, vs, xs, rfl, h2, h3, rfl⟩
  · cases h <;> rfl
  · rfl
theorem rs_isN : RS K rIsN' isND := fun F H x y dx dy d sub bx by_ e Q q => by
  have hx := bor_non bx
  unfold isND at e
  split at e
  · cases e; exact ⟨by_.none', by rw [hx]; exact q F H _ (stp0 sub) (.bl _)⟩
  · cases e
    refine ⟨by_.none', ?_⟩
    rw [hx]
    rename_i hne
    cases dx <;> first | exact absurd rfl (hne rfl) | exact q F H _ (stp0 sub) (.bl _) | exact (hne rfl).elim
  · cases e
theorem rs_notN : RS K rNotN' notND := fun F H x y dx dy d sub bx by_ e Q q => by
  have hx := bor_non bx
  unfold notND at e
  split at e
  · cases e; exact ⟨by_.none', by rw [hx]; exact q F H _ (stp0 sub) (.bl _)⟩
  · cases e
    refine ⟨by_.none', ?_⟩
    rw [hx]
    rename_i hne
    cases dx <;> first | exact absurd rfl (hne rfl) | exact q F H _ (stp0 sub) (.bl _) | exact (hne rfl).elim
  · cases e
theorem flV_dp {F : Hp} {v w : V} {d : Dt} (h : Dp K F v d) (e : flV d = some w) : v = w ∧ flatV w = true := by
  cases h <;> first | (cases e; exact ⟨rfl, rfl⟩) | cases e
theorem flVs_dp {F : Hp} : ∀ {ds : List Dt} {vs ws : List V}, DpAll K F vs ds → flVs ds = some ws → vs = ws ∧ ws.all flatV = true
  | _, _, _, .nil, e => by cases e; exact ⟨rfl, rfl⟩
  | _, _, _, .cons h t, e => by
    obtain ⟨w, e1, e⟩ := bind_eq_some e
    obtain ⟨ws, e2, e⟩ := bind_eq_some e
    cases e
    obtain ⟨rfl, f1⟩ := flV_dp h e1
    obtain ⟨rfl, f2⟩ := flVs_dp t e2
    exact ⟨rfl, by rw [List.all_cons, f1, f2]; rfl⟩
theorem flV_bor {F H : Hp} {v w : V} {d : Dt} (h : Bor K F H v d) (e : flV d = some w) : v = w ∧ flatV w = true := by
  rcases h with h | ⟨p, vs, xs, rfl, h2, h3, rfl⟩
  · exact flV_dp h e
  · cases e
theorem rin_seq {F H : Hp} {x y : V} {dx : Dt} {xs : List Dt} {b neg : Bool} (sub : Same F H) (bx : Bor K F H x dx) (hy : (∃ p vs, y = .ref p ∧ (SqL K H p vs ∨ SqT K H p vs) ∧ DpAll K F vs xs)) (e : inSeqD dx xs = some b) {Q : VK} (q : Q (.bl (if neg then !b else b)) H) : rIn K neg x y H Q := by
  obtain ⟨w, e1, e⟩ := bind_eq_some e
  obtain ⟨ws, e2, e⟩ := bind_eq_some e
  cases e
  obtain ⟨rfl, f1⟩ := flV_bor bx e1
  obtain ⟨p, vs, rfl, hs, a⟩ := hy
  obtain ⟨rfl, f2⟩ := flVs_dp a e2
  exact ⟨p, vs, rfl, hs, f1, f2, q⟩
theorem str_one {s : Str} {c : Nat} (h : s.cps.toList = [c]) : s = ⟨#[c]⟩ := by
  cases s with
  | mk cps =>
    have e : cps = #[c] := by
      have := congrArg List.toArray h
      simpa using this
    rw [e]
theorem rs_in : RS K (rIn2 K false) inD := fun F H x y dx dy d sub bx by_ e Q q => by
  unfold inD at e
  split at e
  · cases e1 : inSeqD dx _ with
    | none => rw [e1] at e; cases e
    | some b =>
      rw [e1] at e; cases e
      obtain ⟨p, vs, rfl, r, a⟩ := by_.list sub
      exact .inl (rin_seq sub bx ⟨p, vs, rfl, .inl (rdL r), a⟩ e1 (q F H _ (stp0 sub) (.bl _)))
  · cases e1 : inSeqD dx _ with
    | none => rw [e1] at e; cases e
    | some b =>
      rw [e1] at e; cases e
      obtain ⟨p, vs, rfl, r, a⟩ := by_.tuple sub
      exact .inl (rin_seq sub bx ⟨p, vs, rfl, .inr r, a⟩ e1 (q F H _ (stp0 sub) (.bl _)))
  · split at e
    · rename_i h1
      cases e
      refine .inr ⟨_, _, ?_, by_.str, q F H _ (stp0 sub) (.bl _)⟩
      rw [bx.str, str_one h1]
    · cases e
  · cases e
theorem rs_nin : RS K (rIn2 K true) notInD := fun F H x y dx dy d sub bx by_ e Q q => by
  unfold notInD at e
  split at e
  · cases e1 : inSeqD dx _ with
    | none => rw [e1] at e; cases e
    | some b =>
      rw [e1] at e; cases e
      obtain ⟨p, vs, rfl, r, a⟩ := by_.list sub
      exact .inl (rin_seq sub bx ⟨p, vs, rfl, .inl (rdL r), a⟩ e1 (q F H _ (stp0 sub) (.bl _)))
  · cases e1 : inSeqD dx _ with
    | none => rw [e1] at e; cases e
    | some b =>
      rw [e1] at e; cases e
      obtain ⟨p, vs, rfl, r, a⟩ := by_.tuple sub
      exact .inl (rin_seq sub bx ⟨p, vs, rfl, .inr r, a⟩ e1 (q F H _ (stp0 sub) (.bl _)))
  · split at e
    · rename_i h1
      cases e
      refine .inr ⟨_, _, ?_, by_.str, q F H _ (stp0 sub) (.bl _)⟩
      rw [bx.str, str_one h1]
    · cases e
  · cases e
theorem atI_dp {F : Hp} {vs : List V} {xs : List Dt} {i : Int} {d : Dt} (a : DpAll K F vs xs) (e : atI xs i = some d) : ∃ v, atI vs i = some v ∧ Dp K F v d := by
  unfold atI at e ⊢
  rw [DpAll.len a]
  cases e1 : ixN xs.length i with
  | none => rw [e1] at e; cases e
  | some j =>
    rw [e1] at e
    exact DpAll.get a e
theorem rs_ix : RS K (rIx K) ixD := fun F H x y dx dy d sub bx by_ e Q q => by
  unfold ixD at e
  split at e
  · obtain ⟨p, vs, rfl, r, a⟩ := bx.list sub
    obtain ⟨v, e1, h1⟩ := atI_dp a e
    exact .inl ⟨p, vs, _, v, rfl, by_.int, rdL r, e1, q F H _ (stp0 sub) h1⟩
  · obtain ⟨p, vs, rfl, r, a⟩ := bx.tuple sub
    obtain ⟨v, e1, h1⟩ := atI_dp a e
    exact .inr (.inl ⟨p, vs, _, v, rfl, by_.int, r, e1, q F H _ (stp0 sub) h1⟩)
  · rename_i z i
    by_cases hz : z.length ≤ sizeLine
    · rw [if_pos hz] at e
      cases e1 : atI z.cps.toList i with
      | none => rw [e1] at e; cases e
      | some c =>
        rw [e1] at e; cases e
        exact .inr (.inr ⟨z, i, c, bx.str, by_.int, hz, e1, q F H _ (stp0 sub) (.str _)⟩)
    · rw [if_neg hz] at e; cases e
  · cases e
end

/-! ### calls of builtins -/
def lenD : List Dt → Option Dt
  | [.list xs] => some (.int xs.length)
  | [.tuple xs] => some (.int xs.length)
  | [.str z] => if z.length ≤ sizeLine then some (.int z.length) else none
  | _ => none
def max2D : List Dt → Option Dt
  | [.int i, .int j] => some (.int (if j > i then j else i))
  | _ => none
def min2D : List Dt → Option Dt
  | [.int i, .int j] => some (.int (if j < i then j else i))
  | _ => none
def absD : List Dt → Option Dt
  | [.int i] => some (.int (if i < 0 then -i else i))
  | _ => none
def intD : List Dt → Option Dt
  | [.int i] => some (.int i)
  | [.bool b] => some (.int (if b then 1 else 0))
  | _ => none
def tupD : List Dt → Option Dt
  | [.list xs] => some (.tuple xs)
  | [.tuple xs] => some (.tuple xs)
  | _ => none
def lstN : List Dt → Option (List Dt)
  | [.list xs] => some xs
  | [.tuple xs] => some xs
  | _ => none
def asBs : List Dt → Option (List Bool)
  | [] => some []
  | x :: xs => (asB x).bind fun b => (asBs xs).bind fun bs => some (b :: bs)
def asIs : List Dt → Option (List Int)
  | [] => some []
  | x :: xs => (asI x).bind fun b => (asIs xs).bind fun bs => some (b :: bs)
def anyD : List Dt → Option Dt
  | [.list xs] => (asBs xs).map fun bs => .bool (bs.any id)
  | _ => none
def allD : List Dt → Option Dt
  | [.list xs] => (asBs xs).map fun bs => .bool (bs.all id)
  | _ => none
def sumD : List Dt → Option Dt
  | [.list xs] => (asIs xs).map fun bs => .int bs.sum
  | _ => none
section
variable {K : PySem.W.Frag} {X : Cx}
def rLenB (K : PySem.W.Frag) : List V → Hp → VK → Prop := fun xs H Q => (∃ p ys, xs = [.ref p] ∧ (SqL K H p ys ∨ SqT K H p ys) ∧ Q (.int ys.length) H) ∨ ∃ z, xs = [.str z] ∧ z.length ≤ sizeLine ∧ Q (.int z.length) H
theorem call_len2 : CallR X (.builtin "len") (rLenB X.K) := CallR.or call_len_seq call_len_str
def rMax2 : List V → Hp → VK → Prop := fun xs H Q => ∃ i j, xs = [.int i, .int j] ∧ Q (.int (if j > i then j else i)) H
def rMin2 : List V → Hp → VK → Prop := fun xs H Q => ∃ i j, xs = [.int i, .int j] ∧ Q (.int (if j < i then j else i)) H
def rAbs : List V → Hp → VK → Prop := fun xs H Q => ∃ i, xs = [.int i] ∧ Q (.int (if i < 0 then -i else i)) H
def rInt1 : List V → Hp → VK → Prop := fun xs H Q => (∃ i, xs = [.int i] ∧ Q (.int i) H) ∨ ∃ k, xs = [.bl k] ∧ Q (.int (if k then 1 else 0)) H
def rTupOf (K : PySem.W.Frag) : List V → Hp → VK → Prop := fun xs H Q => ∃ p ys, xs = [.ref p] ∧ ((SqL K H p ys ∧ ∀ l, H l = none → Q (.ref l) (upd H l (.tup ys))) ∨ (SqT K H p ys ∧ Q (.ref p) H))
def rLstOf (K : PySem.W.Frag) : List V → Hp → VK → Prop := fun xs H Q => ∃ p ys, xs = [.ref p] ∧ (SqL K H p ys ∨ SqT K H p ys) ∧ ∀ l, H l = none → Q (.ref l) (upd H l (.lst ys))
theorem call_max2' (hc : X.calm = true) : CallR X (.builtin "max") rMax2 := call_max2 hc
theorem call_min2' (hc : X.calm = true) : CallR X (.builtin "min") rMin2 := call_min2 hc
theorem call_abs' : CallR X (.builtin "abs") rAbs := call_abs
theorem call_int1' : CallR X (.type "int") rInt1 := call_int1
theorem call_tup' : CallR X (.type "tuple") (rTupOf X.K) := call_tuple_of
theorem call_lst' : CallR X (.type "list") (rLstOf X.K) := call_list_of
theorem prd1 {F H : Hp} {xs : List V} {d : Dt} (h : Paired (Bor K F H) xs [d]) : ∃ v, xs = [v] ∧ Bor K F H v d := by
  cases h with
  | cons a t => cases t; exact ⟨_, rfl, a⟩
theorem prd2 {F H : Hp} {xs : List V} {d e : Dt} (h : Paired (Bor K F H) xs [d, e]) : ∃ v w, xs = [v, w] ∧ Bor K F H v d ∧ Bor K F H w e := by
  cases h with
  | cons a t =>
    cases t with
    | cons b u => cases u; exact ⟨_, _, rfl, a, b⟩
theorem cs_len : CS K (rLenB K) lenD := fun F H xs ds d sub h e Q q => by
  unfold lenD at e
  split at e
  · cases e
    obtain ⟨v, rfl, b⟩ := prd1 h
    obtain ⟨p, vs, rfl, r, a⟩ := b.list sub
    exact .inl ⟨p, vs, rfl, .inl (rdL r), by rw [DpAll.len a]; exact q F H _ (stp0 sub) (.int _)⟩
  · cases e
    obtain ⟨v, rfl, b⟩ := prd1 h
    obtain ⟨p, vs, rfl, r, a⟩ := b.tuple sub
    exact .inl ⟨p, vs, rfl, .inr r, by rw [DpAll.len a]; exact q F H _ (stp0 sub) (.int _)⟩
  · obtain ⟨hz, rfl⟩ := ite_some e
    obtain ⟨v, rfl, b⟩ := prd1 h
    exact .inr ⟨_, by rw [b.str], hz, q F H _ (stp0 sub) (.int _)⟩
  · cases e
theorem cs_max2 : CS K rMax2 max2D := fun F H xs ds d sub h e Q q => by
  unfold max2D at e
  split at e
  · cases e
    obtain ⟨v, w, rfl, b, c⟩ := prd2 h
    exact ⟨_, _, by rw [b.int, c.int], q F H _ (stp0 sub) (.int _)⟩
  · cases e
theorem cs_min2 : CS K rMin2 min2D := fun F H xs ds d sub h e Q q => by
  unfold min2D at e
  split at e
  · cases e
    obtain ⟨v, w, rfl, b, c⟩ := prd2 h
    exact ⟨_, _, by rw [b.int, c.int], q F H _ (stp0 sub) (.int _)⟩
  · cases e
theorem cs_abs : CS K rAbs absD := fun F H xs ds d sub h e Q q => by
  unfold absD at e
  split at e
  · cases e
    obtain ⟨v, rfl, b⟩ := prd1 h
    exact ⟨_, by rw [b.int], q F H _ (stp0 sub) (.int _)⟩
  · cases e
theorem cs_int : CS K rInt1 intD := fun F H xs ds d sub h e Q q => by
  unfold intD at e
  split at e
  · cases e
    obtain ⟨v, rfl, b⟩ := prd1 h
    exact .inl ⟨_, by rw [b.int], q F H _ (stp0 sub) (.int _)⟩
  · cases e
    obtain ⟨v, rfl, b⟩ := prd1 h
    exact .inr ⟨_, by rw [b.bool], q F H _ (stp0 sub) (.int _)⟩
  · cases e
theorem cs_tup : CS K (rTupOf K) tupD := fun F H xs ds d sub h e Q q => by
  unfold tupD at e
  split at e
  · cases e
    obtain ⟨v, rfl, b⟩ := prd1 h
    obtain ⟨p, vs, rfl, r, a⟩ := b.list sub
    exact ⟨p, vs, rfl, .inl ⟨rdL r, fun l nl => q (upd F l (.tup vs)) _ _ ((stp0 sub).new nl) (.tup (SqT.of upd_same) (dpAll_same (same_upd (sub.free nl)) a))⟩⟩
  · cases e
    obtain ⟨v, rfl, b⟩ := prd1 h
    rcases b with b | ⟨_, _, _, _, _, _, z⟩
    · cases b with
      | tup r a => exact ⟨_, _, rfl, .inr ⟨sqT_same sub r, q F H _ (stp0 sub) (.tup r a)⟩⟩
    · cases z
  · cases e
theorem cn_lst : CN K (rLstOf K) lstN := fun F H xs ds d sub h e Q q => by
  unfold lstN at e
  split at e
  · cases e
    obtain ⟨v, rfl, b⟩ := prd1 h
    obtain ⟨p, vs, rfl, r, a⟩ := b.list sub
    exact ⟨p, vs, rfl, .inl (rdL r), fun l nl => q F _ l _ ((stp0 sub).newO nl) (freeT_n nl) (sub.free nl) upd_same a⟩
  · cases e
    obtain ⟨v, rfl, b⟩ := prd1 h
    obtain ⟨p, vs, rfl, r, a⟩ := b.tuple sub
    exact ⟨p, vs, rfl, .inr r, fun l nl => q F _ l _ ((stp0 sub).newO nl) (freeT_n nl) (sub.free nl) upd_same a⟩
  · cases e
theorem asBs_dp {F : Hp} : ∀ {ds : List Dt} {vs : List V} {bs : List Bool}, DpAll K F vs ds → asBs ds = some bs → vs = bs.map V.bl
  | _, _, _, .nil, e => by cases e; rfl
  | _, _, _, .cons h t, e => by
    obtain ⟨w, e1, e⟩ := bind_eq_some e
    obtain ⟨ws, e2, e⟩ := bind_eq_some e
    cases e
    rw [asB_some e1] at h
    rw [dp_bool h, asBs_dp t e2]; rfl
theorem asIs_dp {F : Hp} : ∀ {ds : List Dt} {vs : List V} {bs : List Int}, DpAll K F vs ds → asIs ds = some bs → vs = bs.map V.int
  | _, _, _, .nil, e => by cases e; rfl
  | _, _, _, .cons h t, e => by
    obtain ⟨w, e1, e⟩ := bind_eq_some e
    obtain ⟨ws, e2, e⟩ := bind_eq_some e
    cases e
    rw [asI_some e1] at h
    rw [dp_int h, asIs_dp t e2]; rfl
theorem cs_any : CS K (rAny K) anyD := fun F H xs ds d sub h e Q q => by
  unfold anyD at e
  split at e
  · cases e1 : asBs _ with
    | none => rw [e1] at e; cases e
    | some bs =>
      rw [e1] at e; cases e
      obtain ⟨v, rfl, b⟩ := prd1 h
      obtain ⟨p, vs, rfl, r, a⟩ := b.list sub
      rw [asBs_dp a e1] at r
      exact ⟨p, bs, rfl, rdL r, q F H _ (stp0 sub) (.bl _)⟩
  · cases e
theorem cs_all : CS K (rAll K) allD := fun F H xs ds d sub h e Q q => by
  unfold allD at e
  split at e
  · cases e1 : asBs _ with
    | none => rw [e1] at e; cases e
    | some bs =>
      rw [e1] at e; cases e
      obtain ⟨v, rfl, b⟩ := prd1 h
      obtain ⟨p, vs, rfl, r, a⟩ := b.list sub
      rw [asBs_dp a e1] at r
      exact ⟨p, bs, rfl, rdL r, q F H _ (stp0 sub) (.bl _)⟩
  · cases e
theorem cs_sum : CS K (rSum K) sumD := fun F H xs ds d sub h e Q q => by
  unfold sumD at e
  split at e
  · cases e1 : asIs _ with
    | none => rw [e1] at e; cases e
    | some bs =>
      rw [e1] at e; cases e
      obtain ⟨v, rfl, b⟩ := prd1 h
      obtain ⟨p, vs, rfl, r, a⟩ := b.list sub
      rw [asIs_dp a e1] at r
      exact ⟨p, bs, rfl, rdL r, q F H _ (stp0 sub) (.int _)⟩
  · cases e
theorem ru_neg : ∀ F H x dx d, Same F H → Bor K F H x dx → negD dx = some d → ∀ Q : VK, (∀ F' H' v, Stp F H F' H' → Dp K F' v d → Q v H') → (rU fun i => .int (-i)) x H Q := fun F H x dx d sub bx e Q q => by
  unfold negD at e
  split at e
  · cases e
    exact ⟨_, bx.int, q F H _ (stp0 sub) (.int _)⟩
  · cases e
end
end Dv

namespace Dv
open PySem PySem.Spec PyProof.Rows
open L2 hiding Dp DpAll
open LamX (TabS CodeO Tabs ExtN)
variable [Tb]

structure Ent (F0 H0 F H : Hp) : Prop where
  ff : Same F0 F
  hh : SameT H0 H
  fr : ∀ a, F0 a = none → ¬ FreeT H0 a → F a = none
  ft : NoTb F0 → NoTb F
theorem Ent.step {F0 H0 F H F' H' : Hp} (e : Ent F0 H0 F H) (s : Stp F H F' H') : Ent F0 H0 F' H' :=
  ⟨e.ff.trans s.ff, e.hh.trans s.hh, fun x h1 h2 => s.fr x (e.fr x h1 h2) fun z => h2 (e.hh.freeT z), fun h => s.ft (e.ft h)⟩
/-- an object that the entry does not know is changed -/
theorem Ent.mut {F0 H0 F H : Hp} {p : Addr} {o : HO} (e : Ent F0 H0 F H) (h : FreeT H0 p) (n : NoT (H p)) : Ent F0 H0 F (upd H p o) :=
  ⟨e.ff, e.hh.mut h n, e.fr, e.ft⟩
theorem Ent.frz {F0 H0 F H : Hp} {p : Addr} {o : HO} (e : Ent F0 H0 F H) (h : FreeT H0 p) (hf : F p = none) (ho : ∀ ps, o ≠ .tbl ps := by intro _ z; cases z) : Ent F0 H0 (upd F p o) H :=
  ⟨fun b u q => by rw [upd_ne (ne_of_none (e.ff b u q) hf)]; exact e.ff b u q, e.hh, fun a h1 h2 => by
    have : a ≠ p := fun z => by subst z; exact h2 h
    rw [upd_ne this]; exact e.fr a h1 h2, fun n => (e.ft n).upd ho⟩
theorem Stp.mut {F H F' H' : Hp} {p : Addr} {o : HO} (a : Stp F H F' H') (h : FreeT H p) (hf : F' p = none) (n : NoT (H' p)) : Stp F H F' (upd H' p o) :=
  ⟨a.ff, a.hh.mut h n, fun b u e => by rw [upd_ne (ne_of_none e hf)]; exact a.sub b u e, a.fr, a.ft⟩

section
variable (K : PySem.W.Frag)
def Good (F0 H0 : Hp) (D : Ends) : Out → Prop
  | .nx A => ∀ F H σ, Ent F0 H0 F H → Rl K H0 F H σ A → D.nx σ H
  | .rt d => ∀ F H v, Ent F0 H0 F H → Same F H → Dp K F v d → D.rt v H
  | .bk A => ∀ F H σ, Ent F0 H0 F H → Rl K H0 F H σ A → D.bk σ H
  | .ct A => ∀ F H σ, Ent F0 H0 F H → Rl K H0 F H σ A → D.ct σ H
def SS (ts : TS) (f : En → Option Out) : Prop := ∀ F0 H0 F H σ A o D, Ent F0 H0 F H → Rl K H0 F H σ A → f A = some o → Good K F0 H0 D o → ts D σ H
/-- a target: the slots that it sets -/
def SG (is : List Nat) (g : TG) (h : Dt → En → Option En) : Prop := ∀ H0 F H σ A v x A', Rl K H0 F H σ A → Dp K F v x → h x A = some A' → ∀ Q : L2.St → Hp → Prop, (∀ σ', Rl K H0 F H σ' A' → (∀ vs : List Nat, (∀ i ∈ is, i ∈ vs) → wipe σ' vs = wipe σ vs) → Q σ' H) → g v σ H Q
def SGs (is : List Nat) (g : TGs) (h : List Dt → En → Option En) : Prop := ∀ H0 F H σ A us xs A', Rl K H0 F H σ A → DpAll K F us xs → h xs A = some A' → ∀ Q : L2.St → Hp → Prop, (∀ σ', Rl K H0 F H σ' A' → (∀ vs : List Nat, (∀ i ∈ is, i ∈ vs) → wipe σ' vs = wipe σ vs) → Q σ' H) → g us σ H Q
/-- what is walked -/
def Wk (J : It) (F1 : Hp) (xs : List Dt) : Prop := ∀ i F H, Same F1 F → Same F H → (∀ x, xs[i]? = some x → J.go i H ∧ ∀ v H', J.yld i H v H' → ∃ F', Stp F H F' H' ∧ Dp K F' v x) ∧ (xs.length ≤ i → J.stop i H)
def SI (wi : TI) (f : En → Option (List Dt)) : Prop := ∀ H0 F H σ A xs, Rl K H0 F H σ A → f A = some xs → ∀ R : It → Hp → Prop, (∀ J F' H', Stp F H F' H' → Wk K J F' xs → R J H') → wi σ H R
end

/-! ### slots -/
section
variable {K : PySem.W.Frag} {H0 F H : Hp} {σ : L2.St} {A : En}
theorem get_set {α : Type} {l : List α} {i j : Nat} {a b : α} (h : (l.set i a)[j]? = some b) : (j = i ∧ b = a) ∨ (j ≠ i ∧ l[j]? = some b) := by
  by_cases e : j = i
  · subst e
    by_cases hl : j < l.length
    · rw [List.getElem?_set_self hl] at h
      exact .inl ⟨rfl, (Option.some.inj h).symm⟩
    · rw [List.getElem?_eq_none (by rw [List.length_set]; omega)] at h; cases h
  · rw [List.getElem?_set_ne (fun z => e z.symm)] at h
    exact .inr ⟨e, h⟩
theorem Rl.lt (R : Rl K H0 F H σ A) {i : Nat} {x : Sl} (h : A[i]? = some x) : i < σ.length := by
  have := (List.getElem?_eq_some_iff.mp h).1
  rw [← R.len]; exact this
theorem set_self {σ : L2.St} {i : Nat} {v : Option V} (h : i < σ.length) : (σ.set i v)[i]? = some v := List.getElem?_set_self h
/-- the slot i is set: what stands there, and that no other slot owns it -/
theorem Rl.setG (R : Rl K H0 F H σ A) {i : Nat} {v : V} {x : Sl} (hx : i < σ.length → SlR K H0 F H (σ.set i (some v)) i x) (hd : ∀ p, v = .ref p → ((∃ xs, x = .ol xs) ∨ ∃ kvs, x = .od kvs) → ∀ j, j ≠ i → Own σ A j p → False) : Rl K H0 F H (σ.set i (some v)) (A.set i x) := by
  have own : ∀ j p, j ≠ i → Own (σ.set i (some v)) (A.set i x) j p → Own σ A j p := fun j p hj o => by
    obtain ⟨o1, o2⟩ := o
    rw [List.getElem?_set_ne (fun z => hj z.symm)] at o2
    rw [List.getElem?_set_ne (fun z => hj z.symm)] at o1
    exact ⟨o1, o2⟩
  have own' : ∀ p, Own (σ.set i (some v)) (A.set i x) i p → v = .ref p ∧ ((∃ xs, x = .ol xs) ∨ ∃ kvs, x = .od kvs) := fun p o => by
    obtain ⟨o1, o2⟩ := o
    rcases get_set o2 with ⟨_, e⟩ | ⟨e, _⟩
    · refine ⟨(Option.some.inj e).symm, ?_⟩
      rcases o1 with ⟨xs, o1⟩ | ⟨xs, o1⟩
      · rcases get_set o1 with ⟨_, e⟩ | ⟨e, _⟩
        · exact .inl ⟨xs, e.symm⟩
        · exact absurd rfl e
      · rcases get_set o1 with ⟨_, e⟩ | ⟨e, _⟩
        · exact .inr ⟨xs, e.symm⟩
        · exact absurd rfl e
    · exact absurd rfl e
  refine ⟨R.sub, fun j y e => ?_, fun a b p hab oa ob => ?_, by rw [List.length_set, List.length_set]; exact R.len, R.tb⟩
  · rcases get_set e with ⟨rfl, rfl⟩ | ⟨hj, e⟩
    · have hl : j < σ.length := by
        have := (List.getElem?_eq_some_iff.mp e).1
        rw [List.length_set] at this
        rw [← R.len]; exact this
      exact hx hl
    · have s := R.sl j y e
      have ej : (σ.set i (some v))[j]? = σ[j]? := List.getElem?_set_ne (fun z => hj z.symm)
      exact ⟨fun y' h => by rw [ej]; exact s.d y' h, fun y' h => by rw [ej]; exact s.ol y' h, fun y' h => by rw [ej]; exact s.od y' h⟩
  · by_cases ha : a = i
    · have hb : b ≠ i := fun z => hab (ha.trans z.symm)
      rw [ha] at oa
      obtain ⟨e1, e2⟩ := own' p oa
      exact hd p e1 e2 b hb (own b p hb ob)
    · by_cases hb : b = i
      · rw [hb] at ob
        obtain ⟨e1, e2⟩ := own' p ob
        exact hd p e1 e2 a ha (own a p ha oa)
      · exact R.ds a b p hab (own a p ha oa) (own b p hb ob)
theorem Rl.setD (R : Rl K H0 F H σ A) {i : Nat} {v : V} {d : Dt} (h : Dp K F v d) : Rl K H0 F H (σ.set i (some v)) (A.set i (.d d)) :=
  R.setG (fun hl => ⟨fun y e => by cases e; exact ⟨v, set_self hl, h⟩, fun _ e => (by cases e), fun _ e => (by cases e)⟩) fun p _ h => by
    rcases h with ⟨_, h⟩ | ⟨_, h⟩ <;> cases h
theorem Rl.own_at (R : Rl K H0 F H σ A) {j : Nat} {p : Addr} (o : Own σ A j p) : F p = none ∧ FreeT H0 p ∧ ∃ u, H p = some u := by
  obtain ⟨o1, o2⟩ := o
  rcases o1 with ⟨xs, o1⟩ | ⟨xs, o1⟩
  · obtain ⟨q, vs, h1, h2, h3, h4, h5⟩ := (R.sl j _ o1).ol _ rfl
    rw [o2] at h1; cases h1
    exact ⟨h2, h3, _, h4⟩
  · obtain ⟨q, vs, h1, h2, h3, h4, h5⟩ := (R.sl j _ o1).od _ rfl
    rw [o2] at h1; cases h1
    exact ⟨h2, h3, _, h4⟩
theorem Rl.own_noT (R : Rl K H0 F H σ A) {j : Nat} {p : Addr} (o : Own σ A j p) : NoT (H p) := by
  obtain ⟨o1, o2⟩ := o
  rcases o1 with ⟨xs, o1⟩ | ⟨xs, o1⟩
  · obtain ⟨q, vs, h1, h2, h3, h4, h5⟩ := (R.sl j _ o1).ol _ rfl
    rw [o2] at h1; cases h1
    rw [h4]; exact noT_l
  · obtain ⟨q, vs, h1, h2, h3, h4, h5⟩ := (R.sl j _ o1).od _ rfl
    rw [o2] at h1; cases h1
    rw [h4]; exact noT_k
theorem Rl.setO (R : Rl K H0 F H σ A) {F' H' : Hp} (s : Stp F H F' H') {i : Nat} {p : Addr} {vs : List V} {xs : List Dt} (e0 : FreeT H0 p) (e1 : FreeT H p) (e2 : F' p = none) (e3 : H' p = some (.lst vs)) (a : DpAll K F' vs xs) : Rl K H0 F' H' (σ.set i (some (.ref p))) (A.set i (.ol xs)) :=
  (R.step s).setG (fun hl => ⟨fun y e => (by cases e), fun ys e => by cases e; exact ⟨p, vs, set_self hl, e2, e0, e3, a⟩, fun _ e => (by cases e)⟩) fun q hq _ j hj o => by
    cases hq
    obtain ⟨_, _, u, h⟩ := R.own_at o
    obtain ⟨ps, z⟩ := e1 u h
    exact (R.own_noT o).1 ps (by rw [h, z])
theorem Rl.setK (R : Rl K H0 F H σ A) {F' H' : Hp} (s : Stp F H F' H') {i : Nat} {p : Addr} {vs : List (Key × V)} {xs : List (Key × Dt)} (e0 : FreeT H0 p) (e1 : FreeT H p) (e2 : F' p = none) (e3 : H' p = some (.dK vs)) (a : DQ K F' vs xs) : Rl K H0 F' H' (σ.set i (some (.ref p))) (A.set i (.od xs)) :=
  (R.step s).setG (fun hl => ⟨fun y e => (by cases e), fun ys e => (by cases e), fun _ e => by cases e; exact ⟨p, vs, set_self hl, e2, e0, e3, a⟩⟩) fun q hq _ j hj o => by
    cases hq
    obtain ⟨_, _, u, h⟩ := R.own_at o
    obtain ⟨ps, z⟩ := e1 u h
    exact (R.own_noT o).1 ps (by rw [h, z])
/-- an own list is changed in place -/
theorem Rl.chg (R : Rl K H0 F H σ A) {i : Nat} {p : Addr} {o : HO} {x : Sl} (ho : Own σ A i p) (hx : SlR K H0 F (upd H p o) σ i x) (hk : ∀ y, x ≠ .d y) : Rl K H0 F (upd H p o) σ (A.set i x) := by
  obtain ⟨f1, f2, u, f3⟩ := R.own_at ho
  refine ⟨fun b u e => by rw [upd_ne (ne_of_none e f1)]; exact R.sub b u e, fun j y e => ?_, fun a b q hab oa ob => ?_, by rw [List.length_set]; exact R.len, ⟨fun z hz => tabS_mut (R.tb.t z hz) (R.own_noT ho), R.tb.n⟩⟩
  · rcases get_set e with ⟨rfl, rfl⟩ | ⟨hj, e⟩
    · exact hx
    · have s := R.sl j y e
      refine ⟨fun y' h => s.d y' h, fun y' h => ?_, fun y' h => ?_⟩
      · obtain ⟨q, vs, h1, h2, h3, h4, h5⟩ := s.ol y' h
        have hq : q ≠ p := fun z => by
          subst z
          exact R.ds j i q hj ⟨.inl ⟨_, by rw [e, h]⟩, h1⟩ ho
        exact ⟨q, vs, h1, h2, h3, by rw [upd_ne hq]; exact h4, h5⟩
      · obtain ⟨q, vs, h1, h2, h3, h4, h5⟩ := s.od y' h
        have hq : q ≠ p := fun z => by
          subst z
          exact R.ds j i q hj ⟨.inr ⟨_, by rw [e, h]⟩, h1⟩ ho
        exact ⟨q, vs, h1, h2, h3, by rw [upd_ne hq]; exact h4, h5⟩
  · have down : ∀ c, Own σ (A.set i x) c q → Own σ A c q := fun c oc => by
      by_cases hc : c = i
      · subst hc
        obtain ⟨_, o2⟩ := oc
        obtain ⟨h1, h2⟩ := ho
        rw [h2] at o2; cases o2
        exact ⟨h1, h2⟩
      · obtain ⟨o1, o2⟩ := oc
        rw [List.getElem?_set_ne (fun z => hc z.symm)] at o1
        exact ⟨o1, o2⟩
    exact R.ds a b q hab (down a oa) (down b ob)
/-- an own list becomes data -/
theorem Rl.frz (R : Rl K H0 F H σ A) {F0 : Hp} (E : Ent F0 H0 F H) {i : Nat} {xs : List Dt} (h : A[i]? = some (.ol xs)) : ∃ F', Ent F0 H0 F' H ∧ Rl K H0 F' H σ (A.set i (.d (.list xs))) := by
  obtain ⟨p, vs, h1, h2, h3, h4, h5⟩ := (R.sl i _ h).ol xs rfl
  have ho : Own σ A i p := ⟨.inl ⟨xs, h⟩, h1⟩
  refine ⟨upd F p (.lst vs), E.frz h3 h2, fun b u e => ?_, fun j y e => ?_, fun a b q hab oa ob => ?_, by rw [List.length_set]; exact R.len, ⟨R.tb.t, R.tb.n.upd fun _ z => (by cases z)⟩⟩
  · by_cases hb : b = p
    · subst hb; rw [upd_same] at e; rw [h4]; exact e
    · rw [upd_ne hb] at e; exact R.sub b u e
  · have sm : Same F (upd F p (.lst vs)) := same_upd h2
    rcases get_set e with ⟨rfl, rfl⟩ | ⟨hj, e⟩
    · exact ⟨fun y e => by cases e; exact ⟨_, h1, .lst (SqL.of upd_same) (dpAll_same sm h5)⟩, fun _ e => (by cases e), fun _ e => (by cases e)⟩
    · have s := R.sl j y e
      refine ⟨fun y' h => ?_, fun y' h => ?_, fun y' h => ?_⟩
      · obtain ⟨v, e1, e2⟩ := s.d y' h
        exact ⟨v, e1, dp_same sm e2⟩
      · obtain ⟨q, vs, g1, g2, g3, g4, g5⟩ := s.ol y' h
        have hq : q ≠ p := fun z => by
          subst z
          exact R.ds j i q hj ⟨.inl ⟨_, by rw [e, h]⟩, g1⟩ ho
        exact ⟨q, vs, g1, by rw [upd_ne hq]; exact g2, g3, g4, dpAll_same sm g5⟩
      · obtain ⟨q, vs, g1, g2, g3, g4, g5⟩ := s.od y' h
        have hq : q ≠ p := fun z => by
          subst z
          exact R.ds j i q hj ⟨.inr ⟨_, by rw [e, h]⟩, g1⟩ ho
        exact ⟨q, vs, g1, by rw [upd_ne hq]; exact g2, g3, g4, dq_same sm g5⟩
  · have down : ∀ c, Own σ (A.set i (.d (.list xs))) c q → c ≠ i ∧ Own σ A c q := fun c oc => by
      by_cases hc : c = i
      · subst hc
        obtain ⟨o1, o2⟩ := oc
        rcases o1 with ⟨_, o1⟩ | ⟨_, o1⟩ <;> (rcases get_set o1 with ⟨_, e⟩ | ⟨e, _⟩ <;> first | cases e | exact absurd rfl e)
      · obtain ⟨o1, o2⟩ := oc
        rw [List.getElem?_set_ne (fun z => hc z.symm)] at o1
        exact ⟨hc, o1, o2⟩
    exact R.ds a b q hab (down a oa).2 (down b ob).2
theorem wipe_get (σ : L2.St) : ∀ (vs : List Nat) (j : Nat), (wipe σ vs)[j]? = if j ∈ vs then (if j < σ.length then some none else none) else σ[j]?
  | [], j => by simp [wipe]
  | v :: vs, j => by
    unfold wipe
    by_cases e : v = j
    · subst e
      by_cases hl : v < σ.length
      · rw [List.getElem?_set_self (by rw [wipe_length]; exact hl), if_pos List.mem_cons_self, if_pos hl]
      · rw [List.getElem?_eq_none (by rw [List.length_set, wipe_length]; omega), if_pos List.mem_cons_self, if_neg hl]
    · rw [List.getElem?_set_ne e, wipe_get σ vs j]
      by_cases hm : j ∈ vs
      · rw [if_pos hm, if_pos (List.mem_cons_of_mem _ hm)]
      · rw [if_neg hm, if_neg]
        intro z
        rcases List.mem_cons.mp z with z | z
        · exact e z.symm
        · exact hm z
theorem wipe_set {σ : L2.St} {i : Nat} {x : Option V} {vs : List Nat} (h : i ∈ vs) : wipe (σ.set i x) vs = wipe σ vs := by
  refine List.ext_getElem? fun j => ?_
  rw [wipe_get, wipe_get, List.length_set]
  by_cases hj : j ∈ vs
  · rw [if_pos hj, if_pos hj]
  · rw [if_neg hj, if_neg hj, List.getElem?_set_ne (fun z => hj (by rw [← z]; exact h))]
def wipeA (A : En) : List Nat → En
  | [] => A
  | v :: vs => (wipeA A vs).set v .no
theorem wipeA_get (A : En) : ∀ (vs : List Nat) (j : Nat), (wipeA A vs)[j]? = if j ∈ vs then (if j < A.length then some .no else none) else A[j]?
  | [], j => by simp [wipeA]
  | v :: vs, j => by
    have hlen : (wipeA A vs).length = A.length := by
      clear j
      induction vs with
      | nil => rfl
      | cons w ws ih => unfold wipeA; rw [List.length_set, ih]
    unfold wipeA
    by_cases e : v = j
    · subst e
      by_cases hl : v < A.length
      · rw [List.getElem?_set_self (by rw [hlen]; exact hl), if_pos List.mem_cons_self, if_pos hl]
      · rw [List.getElem?_eq_none (by rw [List.length_set, hlen]; omega), if_pos List.mem_cons_self, if_neg hl]
    · rw [List.getElem?_set_ne e, wipeA_get A vs j]
      by_cases hm : j ∈ vs
      · rw [if_pos hm, if_pos (List.mem_cons_of_mem _ hm)]
      · rw [if_neg hm, if_neg]
        intro z
        rcases List.mem_cons.mp z with z | z
        · exact e z.symm
        · exact hm z
theorem wipeA_len (A : En) (vs : List Nat) : (wipeA A vs).length = A.length := by
  induction vs with
  | nil => rfl
  | cons w ws ih => unfold wipeA; rw [List.length_set, ih]
theorem Rl.wipe (R : Rl K H0 F H σ A) (vs : List Nat) : Rl K H0 F H (L2.wipe σ vs) (wipeA A vs) := by
  have at_ : ∀ j x, (wipeA A vs)[j]? = some x → x = .no ∨ (j ∉ vs ∧ A[j]? = some x) := fun j x e => by
    rw [wipeA_get] at e
    by_cases hj : j ∈ vs
    · rw [if_pos hj] at e
      by_cases hl : j < A.length
      · rw [if_pos hl] at e; exact .inl (Option.some.inj e).symm
      · rw [if_neg hl] at e; cases e
    · rw [if_neg hj] at e; exact .inr ⟨hj, e⟩
  refine ⟨R.sub, fun j x e => ?_, fun a b p hab oa ob => ?_, by rw [wipeA_len, wipe_length]; exact R.len, R.tb⟩
  · rcases at_ j x e with rfl | ⟨hj, e⟩
    · exact ⟨fun _ e => (by cases e), fun _ e => (by cases e), fun _ e => (by cases e)⟩
    · have s := R.sl j x e
      have ej : (L2.wipe σ vs)[j]? = σ[j]? := by rw [wipe_get, if_neg hj]
      exact ⟨fun y' h => by rw [ej]; exact s.d y' h, fun y' h => by rw [ej]; exact s.ol y' h, fun y' h => by rw [ej]; exact s.od y' h⟩
  · have down : ∀ c, Own (L2.wipe σ vs) (wipeA A vs) c p → Own σ A c p := fun c oc => by
      obtain ⟨o1, o2⟩ := oc
      rcases o1 with ⟨xs, o1⟩ | ⟨xs, o1⟩
      · rcases at_ c _ o1 with z | ⟨hc, z⟩
        · cases z
        · rw [wipe_get, if_neg hc] at o2; exact ⟨.inl ⟨xs, z⟩, o2⟩
      · rcases at_ c _ o1 with z | ⟨hc, z⟩
        · cases z
        · rw [wipe_get, if_neg hc] at o2; exact ⟨.inr ⟨xs, z⟩, o2⟩
    exact R.ds a b p hab (down a oa) (down b ob)
end

/-! ### statements -/
section
variable {K : PySem.W.Frag} {te : TE} {f : En → Option Dt} {n : En → Option (List Dt)} {t u : TS} {s1 s2 : En → Option Out}
def sNext : En → Option Out := fun A => some (.nx A)
def sSeq (f g : En → Option Out) : En → Option Out := fun A => (f A).bind fun o => match o with | .nx A' => g A' | o => some o
theorem ss_next : SS K tNext sNext := fun F0 H0 F H σ A o D E R e G => by
  cases e; exact G F H σ E R
theorem ss_seq (h1 : SS K t s1) (h2 : SS K u s2) : SS K (tSeq t u) (sSeq s1 s2) := fun F0 H0 F H σ A o D E R e G => by
  obtain ⟨o1, e1, e⟩ := bind_eq_some e
  refine h1 F0 H0 F H σ A o1 { D with nx := u D } E R e1 ?_
  cases o1 with
  | nx A' => exact fun F' H' σ' E' R' => h2 F0 H0 F' H' σ' A' o D E' R' e G
  | rt d => cases e; exact G
  | bk A' => cases e; exact G
  | ct A' => cases e; exact G
def sSet (i : Nat) (f : En → Option Dt) : En → Option Out := fun A => (f A).map fun d => .nx (A.set i (.d d))
theorem map_eq_some {α β : Type} {o : Option α} {g : α → β} {b : β} (h : o.map g = some b) : ∃ a, o = some a ∧ g a = b := by
  cases o with
  | none => cases h
  | some a => exact ⟨a, rfl, Option.some.inj h⟩
theorem ss_set {i : Nat} (h : SE K te f) : SS K (tAsg te (gName i)) (sSet i f) := fun F0 H0 F H σ A o D E R e G => by
  obtain ⟨d, e1, rfl⟩ := map_eq_some e
  exact h H0 F H σ A d R e1 _ fun F' H' v s b => G F' H' _ (E.step s) ((R.step s).setD b)
def sSetO (i : Nat) (n : En → Option (List Dt)) : En → Option Out := fun A => (n A).map fun d => .nx (A.set i (.ol d))
theorem ss_setO {i : Nat} (h : SN K te n) : SS K (tAsg te (gName i)) (sSetO i n) := fun F0 H0 F H σ A o D E R e G => by
  obtain ⟨d, e1, rfl⟩ := map_eq_some e
  exact h H0 F H σ A d R e1 _ fun F' H' p vs s b1 b2 b3 b4 => G F' H' _ (E.step s) (R.setO s (E.hh.freeT b1) b1 b2 b3 b4)
/-- x = {} -/
def sSetK0 (i : Nat) : En → Option Out := fun A => some (.nx (A.set i (.od [])))
theorem ss_setK0 {i : Nat} : SS K (tAsg tDNewK (gName i)) (sSetK0 i) := fun F0 H0 F H σ A o D E R e G => by
  cases e
  intro p hp
  have s : Stp F H F (upd H p (.dK [])) := (stp0 R.sub).newO hp
  exact G F _ _ (E.step s) (R.setK s (E.hh.free hp) (freeT_n hp) (R.sub.free hp) upd_same trivial)
/-- the targets of an assignment, a loop -/
def hName (i : Nat) : Dt → En → Option En := fun x A => some (A.set i (.d x))
def hNil : List Dt → En → Option En := fun xs A => match xs with | [] => some A | _ => none
def hCons (h : Dt → En → Option En) (r : List Dt → En → Option En) : List Dt → En → Option En := fun xs A => match xs with | [] => none | x :: xs => (h x A).bind fun A' => r xs A'
def hTup (n : Nat) (r : List Dt → En → Option En) : Dt → En → Option En := fun x A => match x with | .tuple xs => if xs.length = n then r xs A else none | _ => none
theorem sg_name (i : Nat) : SG K [i] (gName i) (hName i) := fun H0 F H σ A v x A' R b e Q q => by
  cases e
  exact q _ (R.setD b) fun vs h => wipe_set (h i List.mem_cons_self)
theorem sgs_nil : SGs K [] gNil hNil := fun H0 F H σ A us xs A' R b e Q q => by
  cases b with
  | nil => cases e; exact ⟨rfl, q σ R fun _ _ => rfl⟩
  | cons _ _ => cases e
theorem sgs_cons {is js : List Nat} {g : TG} {gs : TGs} {h : Dt → En → Option En} {r : List Dt → En → Option En} (h1 : SG K is g h) (h2 : SGs K js gs r) : SGs K (is ++ js) (gCons g gs) (hCons h r) := fun H0 F H σ A us xs A' R b e Q q => by
  cases b with
  | nil => cases e
  | cons b bs =>
    obtain ⟨A1, e1, e⟩ := bind_eq_some e
    refine ⟨_, _, rfl, ?_⟩
    refine h1 H0 F H σ A _ _ A1 R b e1 _ fun σ1 R1 w1 => ?_
    refine h2 H0 F H σ1 A1 _ _ A' R1 bs e _ fun σ2 R2 w2 => ?_
    exact q σ2 R2 fun vs hv => (w2 vs fun i hi => hv i (List.mem_append_right _ hi)).trans (w1 vs fun i hi => hv i (List.mem_append_left _ hi))
theorem sg_tup {is : List Nat} {m : Nat} {gs : TGs} {r : List Dt → En → Option En} (h : SGs K is gs r) : SG K is (gTup K m gs) (hTup m r) := fun H0 F H σ A v x A' R b e Q q => by
  unfold hTup at e
  split at e
  · cases b with
    | tup hs a =>
      split at e
      · rename_i hl
        exact ⟨_, _, rfl, sqT_same R.sub hs, by rw [DpAll.len a]; exact hl, h H0 F H σ A _ _ A' R a e Q q⟩
      · cases e
  · cases e
/-- t = e, t any target -/
def sAsg (f : En → Option Dt) (h : Dt → En → Option En) : En → Option Out := fun A => (f A).bind fun d => (h d A).map .nx
theorem ss_asg {is : List Nat} {g : TG} {h : Dt → En → Option En} (he : SE K te f) (hg : SG K is g h) : SS K (tAsg te g) (sAsg f h) := fun F0 H0 F H σ A o D E R e G => by
  obtain ⟨d, e1, e⟩ := bind_eq_some e
  obtain ⟨A', e2, rfl⟩ := map_eq_some e
  exact he H0 F H σ A d R e1 _ fun F' H' v s b => hg H0 F' H' σ A v d A' (R.step s) b e2 _ fun σ' R' _ => G F' H' σ' (E.step s) R'
def sRet (f : En → Option Dt) : En → Option Out := fun A => (f A).map .rt
theorem ss_ret (h : SE K te f) : SS K (tRet te) (sRet f) := fun F0 H0 F H σ A o D E R e G => by
  obtain ⟨d, e1, rfl⟩ := map_eq_some e
  exact h H0 F H σ A d R e1 _ fun F' H' v s b => G F' H' v (E.step s) s.sub b
def sRetN : En → Option Out := fun _ => some (.rt .none)
theorem ss_retN : SS K tRetN sRetN := fun F0 H0 F H σ A o D E R e G => by
  cases e; exact G F H _ E R.sub .non
def sBreak : En → Option Out := fun A => some (.bk A)
def sCont : En → Option Out := fun A => some (.ct A)
theorem ss_break : SS K tBreak sBreak := fun F0 H0 F H σ A o D E R e G => by
  cases e; exact G F H σ E R
theorem ss_cont : SS K tCont sCont := fun F0 H0 F H σ A o D E R e G => by
  cases e; exact G F H σ E R
def sIf (c : En → Option Bool) (f g : En → Option Out) : En → Option Out := fun A => (c A).bind fun b => if b = true then f A else g A
theorem ss_if {tc : TT} {c : En → Option Bool} (hc : ST K tc c) (h1 : SS K t s1) (h2 : SS K u s2) : SS K (tIfS tc t u) (sIf c s1 s2) := fun F0 H0 F H σ A o D E R e G => by
  obtain ⟨b, e1, e⟩ := bind_eq_some e
  refine hc H0 F H σ A b R e1 _ fun F' H' s => ?_
  cases b with
  | true => exact h1 F0 H0 F' H' σ A o D (E.step s) (R.step s) e G
  | false => exact h2 F0 H0 F' H' σ A o D (E.step s) (R.step s) e G
def sDrop (f : En → Option Dt) : En → Option Out := fun A => (f A).map fun _ => .nx A
theorem ss_drop (h : SE K te f) : SS K (tDrop te) (sDrop f) := fun F0 H0 F H σ A o D E R e G => by
  obtain ⟨d, e1, rfl⟩ := map_eq_some e
  exact h H0 F H σ A d R e1 _ fun F' H' v s b => G F' H' σ (E.step s) (R.step s)
/-- ahead of a statement own lists become data -/
def frzA : List Nat → En → En
  | [], A => A
  | i :: is, A => frzA is (match A[i]? with | some (.ol xs) => A.set i (.d (.list xs)) | _ => A)
def sFrz (is : List Nat) (f : En → Option Out) : En → Option Out := fun A => f (frzA is A)
theorem frzA_ok {F0 H0 H : Hp} {σ : L2.St} : ∀ (is : List Nat) {A : En} {F : Hp}, Ent F0 H0 F H → Rl K H0 F H σ A → ∃ F', Ent F0 H0 F' H ∧ Rl K H0 F' H σ (frzA is A)
  | [], A, F, E, R => ⟨F, E, R⟩
  | i :: is, A, F, E, R => by
    unfold frzA
    split
    · rename_i xs h
      obtain ⟨F', E', R'⟩ := R.frz E h
      exact frzA_ok is E' R'
    · exact frzA_ok is E R
theorem ss_frz (is : List Nat) (h : SS K t s1) : SS K t (sFrz is s1) := fun F0 H0 F H σ A o D E R e G => by
  obtain ⟨F', E', R'⟩ := frzA_ok (F := F) is E R
  exact h F0 H0 F' H σ _ o D E' R' e G
/-- xs.append(e), xs an own list in slot i -/
def sApp (i : Nat) (f : En → Option Dt) : En → Option Out := fun A => match A[i]? with | some (.ol xs) => (f A).bind fun d => if xs.length < sizeLine then some (.nx (A.set i (.ol (xs ++ [d])))) else none | _ => none
theorem ss_app {i : Nat} (h : SE K te f) : SS K (tDrop (tBM K "list" rAppend (tVar i) (tCons te tNil))) (sApp i f) := fun F0 H0 F H σ A o D E R e G => by
  unfold sApp at e
  split at e
  · rename_i xs hi
    obtain ⟨d, e1, e⟩ := bind_eq_some e
    obtain ⟨hz, rfl⟩ := ite_some e
    obtain ⟨p, vs, h1, h2, h3, h4, h5⟩ := (R.sl i _ hi).ol xs rfl
    refine ⟨_, h1, .inl ⟨rfl, vs, SqL.of h4⟩, ?_⟩
    refine h H0 F H σ A d R e1 _ fun F' H' v s b => ?_
    have hp : H' p = some (.lst vs) := s.hh.l h4
    refine ⟨p, vs, v, rfl, rfl, hp, by rw [DpAll.len h5]; exact hz, ?_⟩
    have R' := R.step s
    have hf : F' p = none := s.fr p h2 (notF_l h4)
    refine G F' _ σ ((E.step s).mut h3 (by rw [hp]; exact noT_l)) (R'.chg ⟨.inl ⟨xs, hi⟩, h1⟩ ⟨fun _ e => (by cases e), fun ys e => ?_, fun _ e => (by cases e)⟩ fun _ => Sl.noConfusion)
    cases e
    exact ⟨p, _, h1, hf, h3, upd_same, DpAll.app (dpAll_same s.ff h5) (DpAll.one b)⟩
  · cases e
/-! ### loops -/
def forD (g : Dt → En → Option En) (body : En → Option Out) : List Dt → En → Option Out
  | [], A => some (.nx A)
  | x :: xs, A => (g x A).bind fun A1 => (body A1).bind fun o => match o with
    | .nx A2 => forD g body xs A2
    | .ct A2 => forD g body xs A2
    | .bk A2 => some (.nx A2)
    | .rt d => some (.rt d)
def sFor (it : En → Option (List Dt)) (g : Dt → En → Option En) (body : En → Option Out) : En → Option Out := fun A => (it A).bind fun xs => forD g body xs A
theorem Ent.re {F0 H0 F H : Hp} (e : Ent F0 H0 F H) : Ent F H0 F H := ⟨Same.refl _, e.hh, fun _ h _ => h, fun h => h⟩
theorem Ent.cat {F0 H0 F H F' H' : Hp} (e : Ent F0 H0 F H) (e' : Ent F H0 F' H') : Ent F0 H0 F' H' := ⟨e.ff.trans e'.ff, e'.hh, fun a h1 h2 => e'.fr a (e.fr a h1 h2) h2, fun h => e'.ft (e.ft h)⟩
theorem ss_for {wi : TI} {it : En → Option (List Dt)} {is : List Nat} {g : TG} {h : Dt → En → Option En} {tb : TS} {body : En → Option Out} (hi : SI K wi it) (hg : SG K is g h) (hb : SS K tb body) : SS K (tFor wi g tb) (sFor it h body) := fun F0 H0 F H σ A o D E R e G => by
  obtain ⟨xs, e1, e⟩ := bind_eq_some e
  refine hi H0 F H σ A xs R e1 _ fun J F1 H1 s1 wk => ?_
  refine ⟨fun i m σ' H' => ∃ F' A', Ent F0 H0 F' H' ∧ Rl K H0 F' H' σ' A' ∧ Same F1 F' ∧ i + m = xs.length ∧ forD h body (xs.drop i) A' = some o, ⟨xs.length, F1, A, E.step s1, R.step s1, Same.refl _, Nat.zero_add _, e⟩, ?_⟩
  rintro i m σ' H' ⟨F', A', E', R', sm, hl, e'⟩
  by_cases hlt : i < xs.length
  · obtain ⟨w1, w2⟩ := wk i F' H' sm R'.sub
    obtain ⟨hgo, hy⟩ := w1 xs[i] (List.getElem?_eq_getElem hlt)
    rw [List.drop_eq_getElem_cons hlt] at e'
    obtain ⟨A1, e2, e'⟩ := bind_eq_some e'
    obtain ⟨o1, e3, e'⟩ := bind_eq_some e'
    refine .inr ⟨hgo, fun σ3 H3 => ∃ F3 A3, Ent F0 H0 F3 H3 ∧ Rl K H0 F3 H3 σ3 A3 ∧ Same F1 F3 ∧ forD h body (xs.drop (i + 1)) A3 = some o, fun σ3 H3 ⟨F3, A3, E3, R3, s3, q3⟩ => ⟨m - 1, by omega, F3, A3, E3, R3, s3, by omega, q3⟩, fun v H2 y => ?_⟩
    obtain ⟨F2, s2, b⟩ := hy v H2 y
    refine hg H0 F2 H2 σ' A' v _ A1 (R'.step s2) b e2 _ fun σ2 R2 _ => ?_
    have E2 := E'.step s2
    refine hb F2 H0 F2 H2 σ2 A1 o1 _ E2.re R2 e3 ?_
    cases o1 with
    | nx A2 => exact fun F3 H3 σ3 E3 R3 => ⟨F3, A2, E2.cat E3, R3, sm.trans (s2.ff.trans E3.ff), e'⟩
    | ct A2 => exact fun F3 H3 σ3 E3 R3 => ⟨F3, A2, E2.cat E3, R3, sm.trans (s2.ff.trans E3.ff), e'⟩
    | bk A2 =>
      cases e'
      exact fun F3 H3 σ3 E3 R3 => G F3 H3 σ3 (E2.cat E3) R3
    | rt d =>
      cases e'
      exact fun F3 H3 v E3 s3 b3 => G F3 H3 v (E2.cat E3) s3 b3
  · have e0 : xs.drop i = [] := List.drop_eq_nil_of_le (by omega)
    rw [e0] at e'
    cases e'
    obtain ⟨w1, w2⟩ := wk i F' H' sm R'.sub
    exact .inl ⟨w2 (by omega), G F' H' σ' E' R'⟩
/-- while, at most n turns -/
def whileD (c : En → Option Bool) (body : En → Option Out) : Nat → En → Option Out
  | 0, _ => none
  | n + 1, A => (c A).bind fun b => if b = true then (body A).bind fun o => match o with
    | .nx A2 => whileD c body n A2
    | .ct A2 => whileD c body n A2
    | .bk A2 => some (.nx A2)
    | .rt d => some (.rt d)
    else some (.nx A)
def sWhile (n : Nat) (c : En → Option Bool) (body : En → Option Out) : En → Option Out := whileD c body n
theorem ss_while {n : Nat} {tc : TT} {c : En → Option Bool} {tb : TS} {body : En → Option Out} (hc : ST K tc c) (hb : SS K tb body) : SS K (tWhile tc tb) (sWhile n c body) := fun F0 H0 F H σ A o D E R e G => by
  refine ⟨fun m σ' H' => ∃ F' A', Ent F0 H0 F' H' ∧ Rl K H0 F' H' σ' A' ∧ whileD c body m A' = some o, ⟨n, F, A, E, R, e⟩, ?_⟩
  rintro m σ' H' ⟨F', A', E', R', e'⟩
  cases m with
  | zero => cases e'
  | succ m =>
    obtain ⟨b, e1, e'⟩ := bind_eq_some e'
    refine hc H0 F' H' σ' A' b R' e1 _ fun F1 H1 s1 => ?_
    cases b with
    | false =>
      cases e'
      exact G F1 H1 σ' (E'.step s1) (R'.step s1)
    | true =>
      rw [if_pos rfl] at e' ⊢
      obtain ⟨o1, e3, e'⟩ := bind_eq_some e'
      have E1 := E'.step s1
      refine ⟨fun σ3 H3 => ∃ F3 A3, Ent F0 H0 F3 H3 ∧ Rl K H0 F3 H3 σ3 A3 ∧ whileD c body m A3 = some o, fun σ3 H3 ⟨F3, A3, q⟩ => ⟨m, Nat.lt_succ_self m, F3, A3, q⟩, ?_⟩
      refine hb F0 H0 F1 H1 σ' A' o1 _ E1 (R'.step s1) e3 ?_
      cases o1 with
      | nx A2 => exact fun F3 H3 σ3 E3 R3 => ⟨F3, A2, E3, R3, e'⟩
      | ct A2 => exact fun F3 H3 σ3 E3 R3 => ⟨F3, A2, E3, R3, e'⟩
      | bk A2 => cases e'; exact G
      | rt d => cases e'; exact G
/-! ### list comprehensions -/
def lcD (g : Dt → En → Option En) (tt : En → Option Bool) (te : En → Option Dt) (A : En) : List Dt → Option (List Dt)
  | [] => some []
  | x :: xs => (g x A).bind fun A1 => (tt A1).bind fun b => (if b = true then (te A1).map fun d => [d] else some []).bind fun ys => (lcD g tt te A xs).bind fun r => some (ys ++ r)
def nLc (vs : List Nat) (it : En → Option (List Dt)) (g : Dt → En → Option En) (tt : En → Option Bool) (te : En → Option Dt) : En → Option (List Dt) := fun A => (it A).bind fun xs => if xs.length ≤ sizeLine then lcD g tt te (wipeA A vs) xs else none
theorem lcD_len {g : Dt → En → Option En} {tt : En → Option Bool} {te : En → Option Dt} {A : En} : ∀ {xs ys : List Dt}, lcD g tt te A xs = some ys → ys.length ≤ xs.length
  | [], _, h => by cases h; exact Nat.le_refl _
  | x :: xs, ys, h => by
    obtain ⟨A1, e1, h⟩ := bind_eq_some h
    obtain ⟨b, e2, h⟩ := bind_eq_some h
    obtain ⟨zs, e3, h⟩ := bind_eq_some h
    obtain ⟨r, e4, h⟩ := bind_eq_some h
    cases h
    have := lcD_len e4
    rw [List.length_append, List.length_cons]
    have hz : zs.length ≤ 1 := by
      cases b with
      | true =>
        obtain ⟨d, _, e⟩ := map_eq_some e3
        rw [← e]; exact Nat.le_refl _
      | false => cases e3; exact Nat.zero_le _
    omega
theorem lcD_take {g : Dt → En → Option En} {tt : En → Option Bool} {te : En → Option Dt} {A : En} : ∀ {xs ys zs : List Dt}, lcD g tt te A xs = some ys → lcD g tt te A zs = some (ys ++ []) → True := fun _ _ => trivial
theorem sn_lc {vs : List Nat} {wi : TI} {it : En → Option (List Dt)} {is : List Nat} {g : TG} {h : Dt → En → Option En} {tt : TT} {b1 : En → Option Bool} (hi : SI K wi it) (hg : SG K is g h) (hiv : ∀ i ∈ is, i ∈ vs) (ht : ST K tt b1) (he : SE K te f) : SN K (tLc wi g tt te vs) (nLc vs it h b1 f) := fun H0 F H σ A out R e Q q => by
  obtain ⟨xs, e1, e⟩ := bind_eq_some e
  by_cases hz : xs.length ≤ sizeLine
  case neg => rw [if_neg hz] at e; cases e
  rw [if_pos hz] at e
  refine hi H0 F H σ A xs R e1 _ fun J F1 H1 s1 wk D nD => ?_
  have R1 := (R.step s1).wipe vs
  have fD : F1 D = none := s1.sub.free nD
  refine ⟨fun i m H' => ∃ F' acc dn rest, Stp F1 H1 F' H' ∧ F' D = none ∧ H' D = some (.lst acc) ∧ DpAll K F' acc dn ∧ dn.length ≤ i ∧ i + m = xs.length ∧ lcD h b1 f (wipeA A vs) (xs.drop i) = some rest ∧ dn ++ rest = out,
    ⟨xs.length, F1, [], [], out, (stp0 s1.sub).newO nD, fD, upd_same, .nil, Nat.le_refl _, Nat.zero_add _, e, rfl⟩, ?_⟩
  rintro i m H' ⟨F', acc, dn, rest, s', f', hD, a', hle, hl, e', eo⟩
  by_cases hlt : i < xs.length
  · obtain ⟨w1, w2⟩ := wk i F' H' s'.ff s'.sub
    obtain ⟨hgo, hy⟩ := w1 xs[i] (List.getElem?_eq_getElem hlt)
    rw [List.drop_eq_getElem_cons hlt] at e'
    obtain ⟨A1, e2, e'⟩ := bind_eq_some e'
    obtain ⟨b, e3, e'⟩ := bind_eq_some e'
    obtain ⟨ys, e4, e'⟩ := bind_eq_some e'
    obtain ⟨r, e5, e'⟩ := bind_eq_some e'
    cases e'
    refine .inr ⟨hgo, fun H3 => ∃ F3 acc3 dn3, Stp F1 H1 F3 H3 ∧ F3 D = none ∧ H3 D = some (.lst acc3) ∧ DpAll K F3 acc3 dn3 ∧ dn3.length ≤ i + 1 ∧ dn3 ++ r = out, fun H3 ⟨F3, acc3, dn3, t1, t2, t3, t4, t5, t6⟩ => ⟨m - 1, by omega, F3, acc3, dn3, r, t1, t2, t3, t4, t5, by omega, e5, t6⟩, fun v H2 y => ?_⟩
    obtain ⟨F2, s2, bv⟩ := hy v H2 y
    have s12 := s'.trans s2
    have f2 : F2 D = none := s2.fr D f' (notF_l hD)
    have h2 : H2 D = some (.lst acc) := s2.hh.l hD
    refine hg H0 F2 H2 _ _ v _ A1 (R1.step s12) bv e2 _ fun σ2 R2 hw => ⟨?_, ?_⟩
    · rw [hw vs hiv]
      refine List.ext_getElem? fun j => ?_
      rw [wipe_get, wipe_get, wipe_length]
      by_cases hj : j ∈ vs
      · rw [if_pos hj, if_pos hj]
      · rw [if_neg hj, if_neg hj]
    refine ht H0 F2 H2 σ2 A1 b R2 e3 _ fun F3 H3 s3 => ?_
    have f3 : F3 D = none := s3.fr D f2 (notF_l h2)
    have h3 : H3 D = some (.lst acc) := s3.hh.l h2
    cases b with
    | false =>
      rw [if_neg Bool.false_ne_true] at e4 ⊢
      cases e4
      exact ⟨F3, acc, dn, s12.trans s3, f3, h3, dpAll_same (s2.ff.trans s3.ff) a', by omega, eo⟩
    | true =>
      rw [if_pos rfl] at e4 ⊢
      obtain ⟨d, e6, rfl⟩ := map_eq_some e4
      refine he H0 F3 H3 σ2 A1 d (R2.step s3) e6 _ fun F4 H4 v4 s4 b4 => ?_
      have f4 : F4 D = none := s4.fr D f3 (notF_l h3)
      have h4 : H4 D = some (.lst acc) := s4.hh.l h3
      have sm : Same F' F4 := s2.ff.trans (s3.ff.trans s4.ff)
      refine ⟨acc, h4, by rw [DpAll.len a']; omega, F4, acc ++ [v4], dn ++ [d], (s12.trans (s3.trans s4)).mut (freeT_n nD) f4 (by rw [h4]; exact noT_l), f4, upd_same, DpAll.app (dpAll_same sm a') (DpAll.one b4), ?_, ?_⟩
      · rw [List.length_append]; simp only [List.length_cons, List.length_nil]; omega
      · rw [← eo, List.append_assoc]
  · have e0 : xs.drop i = [] := List.drop_eq_nil_of_le (by omega)
    rw [e0] at e'
    cases e'
    rw [List.append_nil] at eo
    subst eo
    obtain ⟨w1, w2⟩ := wk i F' H' s'.ff s'.sub
    exact .inl ⟨w2 (by omega), q F' H' D acc (s1.trans s') (s1.hh.free nD) f' hD a'⟩
end
end Dv

namespace Dv
open PySem PySem.Spec PyProof.Rows
open L2 hiding Dp DpAll
open LamX (TabS CodeO Tabs ExtN)
variable [Tb]

/-! ### what is walked -/
def iAny (K : PySem.W.Frag) (tl : TE) : TI := fun σ H R => tl σ H fun x H1 => (∃ a, x = .ref a ∧ (∃ xs, SqL K H1 a xs) ∧ R (Itl K a) H1) ∨ (∃ a, x = .ref a ∧ (∃ xs, SqT K H1 a xs) ∧ R (Itt K a) H1) ∨ ∃ z, x = .str z ∧ R (Its z) H1
theorem pi_any {X : Cx} {tg e : Expr} {tl : TE} (hl : PE X e tl) : PI X tg e (iAny X.K tl) := by
  refine ⟨fun pins s σ H R I h => ?_⟩
  refine thn (hl.run pins s σ H _ I h) fun v s1 ⟨x, H1, I1, r1, q1⟩ => ?_
  rcases q1 with ⟨a, e, ⟨xs, hq⟩, q⟩ | ⟨a, e, ⟨xs, hq⟩, q⟩ | ⟨x, ex, q⟩
  · subst e
    cases r1
    obtain ⟨its, rv, p, hz⟩ := I1.list hq
    refine wpAny_pyIter_list p.isList ?_
    refine ⟨s1.heap.objs.size, [s1.heap.objs.size], _, _, H1, rfl, I1.kept (t' := s1.toks) fun b o e => Heap.get?_push_of_some _ e, turn_list a _, ⟨_, Heap.get?_push_size _ rfl, rfl, rfl⟩, fun b hb => ?_, q⟩
    have e : b = s1.heap.objs.size := by simpa using hb
    subst e
    exact I1.fpOk (Nat.le_refl _) (I1.hok.fresh (Nat.le_refl _))
  · subst e
    cases r1
    obtain ⟨its, rv, p, hz⟩ := I1.tuple hq
    refine wpAny_pyIter_tuple (show s1.heap.IsTuple a its.toArray from p) ?_
    refine ⟨s1.heap.objs.size, [s1.heap.objs.size], _, _, H1, rfl, I1.kept (t' := s1.toks) fun b o e => Heap.get?_push_of_some _ e, turn_tuple a _, ⟨_, Heap.get?_push_size _ rfl, rfl, rfl⟩, fun b hb => ?_, q⟩
    have e : b = s1.heap.objs.size := by simpa using hb
    subst e
    exact I1.fpOk (Nat.le_refl _) (I1.hok.fresh (Nat.le_refl _))
  · subst ex
    obtain ⟨t, rfl⟩ := r1
    cases ha : x.cps.all (· < 128)
    · exact wpAny_pyIter_wide ha (pi_one (tk := s1.toks) I1 _ (turn_str _ x t "str_iterator" (.inr rfl)) ⟨_, Heap.get?_push_size _ rfl, rfl, rfl⟩ q)
    · exact wpAny_pyIter_ascii ha (pi_one (tk := s1.toks) I1 _ (turn_str _ x t "str_ascii_iterator" (.inl rfl)) ⟨_, Heap.get?_push_size _ rfl, rfl, rfl⟩ q)
def itD : Dt → Option (List Dt)
  | .list xs => some xs
  | .tuple xs => some xs
  | .str z => some (z.cps.toList.map fun c => .str ⟨#[c]⟩)
  | _ => none
def eIt (f : En → Option Dt) : En → Option (List Dt) := fun A => (f A).bind itD
section
variable {K : PySem.W.Frag} {te ta tb : TE} {f fa fb : En → Option Dt}
theorem wk_list {F1 : Hp} {p : Addr} {vs : List V} {xs : List Dt} (r : SqL K F1 p vs) (a : DpAll K F1 vs xs) : Wk K (Itl K p) F1 xs := fun i F H s1 s2 => by
  have hr : SqL K H p vs := rdL (rd_same s2 (rd_same s1 r))
  refine ⟨fun x hx => ?_, fun hl => ⟨vs, hr, by rw [DpAll.len a]; exact hl⟩⟩
  obtain ⟨v, h1, h2⟩ := DpAll.get a hx
  refine ⟨⟨vs, v, hr, h1⟩, fun w H' y => ?_⟩
  obtain ⟨rfl, y⟩ := y
  have e := y vs hr
  rw [h1] at e; cases e
  exact ⟨F, Stp.refl s2, dp_same s1 h2⟩
theorem wk_tup {F1 : Hp} {p : Addr} {vs : List V} {xs : List Dt} (r : SqT K F1 p vs) (a : DpAll K F1 vs xs) : Wk K (Itt K p) F1 xs := fun i F H s1 s2 => by
  have hr : SqT K H p vs := sqT_same s2 (sqT_same s1 r)
  refine ⟨fun x hx => ?_, fun hl => ⟨vs, hr, by rw [DpAll.len a]; exact hl⟩⟩
  obtain ⟨v, h1, h2⟩ := DpAll.get a hx
  refine ⟨⟨vs, v, hr, h1⟩, fun w H' y => ?_⟩
  obtain ⟨rfl, y⟩ := y
  have e := y vs hr
  rw [h1] at e; cases e
  exact ⟨F, Stp.refl s2, dp_same s1 h2⟩
theorem wk_str {F1 : Hp} {z : Str} : Wk K (Its z) F1 (z.cps.toList.map fun c => .str ⟨#[c]⟩) := fun i F H s1 s2 => by
  refine ⟨fun x hx => ?_, fun hl => ?_⟩
  · rw [List.getElem?_map] at hx
    obtain ⟨c, hc, rfl⟩ := map_eq_some hx
    have hi : i < z.cps.size := by
      have := (List.getElem?_eq_some_iff.mp hc).1
      rw [Array.length_toList] at this; exact this
    refine ⟨hi, fun w H' y => ?_⟩
    obtain ⟨rfl, c', hc', rfl⟩ := y
    have : c = c' := by
      rw [Array.getElem?_toList] at hc
      rw [hc] at hc'; exact Option.some.inj hc'
    subst this
    exact ⟨F, Stp.refl s2, .str _⟩
  · rw [List.length_map, Array.length_toList] at hl; exact hl
theorem si_any (h : SE K te f) : SI K (iAny K te) (eIt f) := fun H0 F H σ A xs R e Q q => by
  obtain ⟨d, e1, e⟩ := bind_eq_some e
  refine h H0 F H σ A d R e1 _ fun F' H' v s b => ?_
  unfold itD at e
  split at e
  · cases e
    cases b with
    | lst r a => exact .inl ⟨_, rfl, ⟨_, rdL (rd_same s.sub r)⟩, q _ F' H' s (wk_list r a)⟩
  · cases e
    cases b with
    | tup r a => exact .inr (.inl ⟨_, rfl, ⟨_, sqT_same s.sub r⟩, q _ F' H' s (wk_tup r a)⟩)
  · cases e
    exact .inr (.inr ⟨_, dp_str b, q _ F' H' s wk_str⟩)
  · cases e
def rngD (lo : Int) (n : Nat) : List Dt := (List.range n).map fun k => .int (lo + (k : Nat))
theorem wk_rng {F1 : Hp} {lo : Int} {n : Nat} : Wk K (Itr lo n) F1 (rngD lo n) := fun i F H s1 s2 => by
  unfold rngD
  refine ⟨fun x hx => ?_, fun hl => by rw [List.length_map, List.length_range] at hl; exact hl⟩
  rw [List.getElem?_map] at hx
  obtain ⟨c, hc, rfl⟩ := map_eq_some hx
  have hi : i < n := by
    have := (List.getElem?_eq_some_iff.mp hc).1
    rw [List.length_range] at this; exact this
  have : c = i := by
    rw [List.getElem?_range hi] at hc; exact (Option.some.inj hc).symm
  subst this
  refine ⟨hi, fun w H' y => ?_⟩
  obtain ⟨rfl, rfl⟩ := y
  exact ⟨F, Stp.refl s2, .int _⟩
def rng1 (r : En → Option (List Dt)) : En → Option (List Dt) := fun A => (r A).bind fun ds => match ds with
  | [.int j] => if -(2 ^ 62) ≤ j ∧ j < 2 ^ 62 then some (rngD 0 j.toNat) else none
  | _ => none
def rng2 (r : En → Option (List Dt)) : En → Option (List Dt) := fun A => (r A).bind fun ds => match ds with
  | [.int i, .int j] => if -(2 ^ 62) ≤ i ∧ i < 2 ^ 62 ∧ -(2 ^ 62) ≤ j ∧ j < 2 ^ 62 then some (rngD i (j - i).toNat) else none
  | _ => none
theorem si_rng1 {t : TA} {r : En → Option (List Dt)} (h : SA K t r) : SI K (iRng1 t) (rng1 r) := fun H0 F H σ A xs R e Q q => by
  obtain ⟨ds, e1, e⟩ := bind_eq_some e
  refine h H0 F H σ A ds R e1 _ fun F' H' vs s b => ?_
  split at e
  · obtain ⟨⟨h1, h2⟩, rfl⟩ := ite_some e
    obtain ⟨v, rfl, b3⟩ := prd1 b
    exact ⟨_, by rw [b3.int], h1, h2, q _ F' H' s wk_rng⟩
  · cases e
theorem si_rng2 {t : TA} {r : En → Option (List Dt)} (h : SA K t r) : SI K (iRng2 t) (rng2 r) := fun H0 F H σ A xs R e Q q => by
  obtain ⟨ds, e1, e⟩ := bind_eq_some e
  refine h H0 F H σ A ds R e1 _ fun F' H' vs s b => ?_
  split at e
  · obtain ⟨h1, rfl⟩ := ite_some e
    obtain ⟨v, w, rfl, b3, c⟩ := prd2 b
    exact ⟨_, _, by rw [b3.int, c.int], h1, q _ F' H' s wk_rng⟩
  · cases e
/-- enumerate(xs) -/
def enumFrom' (k : Nat) : List Dt → List Dt
  | [] => []
  | x :: xs => .tuple [.int (k : Nat), x] :: enumFrom' (k + 1) xs
theorem enum_len : ∀ (k : Nat) (xs : List Dt), (enumFrom' k xs).length = xs.length
  | _, [] => rfl
  | k, x :: xs => by unfold enumFrom'; rw [List.length_cons, List.length_cons, enum_len]
theorem enum_get : ∀ (k : Nat) (xs : List Dt) (i : Nat), (enumFrom' k xs)[i]? = xs[i]?.map fun x => .tuple [.int ((k + i : Nat) : Int), x]
  | _, [], i => by simp [enumFrom']
  | k, x :: xs, 0 => by simp [enumFrom']
  | k, x :: xs, i + 1 => by
    unfold enumFrom'
    rw [List.getElem?_cons_succ, List.getElem?_cons_succ, enum_get (k + 1) xs i]
    have : k + 1 + i = k + (i + 1) := by omega
    rw [this]
def itEnum (r : En → Option (List Dt)) : En → Option (List Dt) := fun A => (r A).bind fun ds => match ds with | [.list xs] => some (enumFrom' 0 xs) | _ => none
theorem wk_enum {F1 : Hp} {p : Addr} {vs : List V} {xs : List Dt} (r : SqL K F1 p vs) (a : DpAll K F1 vs xs) : Wk K (Ite K p) F1 (enumFrom' 0 xs) := fun i F H s1 s2 => by
  have hr : SqL K H p vs := rdL (rd_same s2 (rd_same s1 r))
  refine ⟨fun x hx => ?_, fun hl => ⟨vs, hr, by rw [DpAll.len a]; rw [enum_len] at hl; exact hl⟩⟩
  rw [enum_get] at hx
  obtain ⟨y, hy, rfl⟩ := map_eq_some hx
  obtain ⟨v, h1, h2⟩ := DpAll.get a hy
  refine ⟨⟨vs, v, hr, h1⟩, fun w H' y' => ?_⟩
  obtain ⟨T, z, rfl, nT, rfl, hz⟩ := y'
  have e := hz vs hr
  rw [h1] at e; cases e
  have e0 : (0 + i : Nat) = i := Nat.zero_add i
  rw [e0]
  exact ⟨upd F T (.tup [.int (i : Nat), v]), (Stp.refl s2).new nT, .tup (SqT.of upd_same) (.cons (.int _) (.cons (dp_same (s1.trans (same_upd (s2.free nT))) h2) .nil))⟩
theorem si_enum {t : TA} {r : En → Option (List Dt)} (h : SF K t r) : SI K (iEnum K t) (itEnum r) := fun H0 F H σ A xs R e Q q => by
  obtain ⟨ds, e1, e⟩ := bind_eq_some e
  refine h H0 F H σ A ds R e1 _ fun F' H' vs s b => ?_
  split at e
  · cases e
    cases b with
    | cons b b' =>
      cases b'
      cases b with
      | lst r a => exact ⟨_, _, rfl, rdL (rd_same s.sub r), q _ F' H' s (wk_enum r a)⟩
  · cases e
def itZip (r : En → Option (List Dt)) : En → Option (List Dt) := fun A => (r A).bind fun ds => match ds with | [.list xs, .list ys] => some (List.zipWith (fun x y => .tuple [x, y]) xs ys) | _ => none
theorem wk_zip {F1 : Hp} {p p2 : Addr} {vs vs2 : List V} {xs ys : List Dt} (r : SqL K F1 p vs) (a : DpAll K F1 vs xs) (r2 : SqL K F1 p2 vs2) (a2 : DpAll K F1 vs2 ys) : Wk K (Itz K p p2) F1 (List.zipWith (fun x y => .tuple [x, y]) xs ys) := fun i F H s1 s2 => by
  have hr : SqL K H p vs := rdL (rd_same s2 (rd_same s1 r))
  have hr2 : SqL K H p2 vs2 := rdL (rd_same s2 (rd_same s1 r2))
  refine ⟨fun x hx => ?_, fun hl => ⟨vs, vs2, hr, hr2, by rw [DpAll.len a, DpAll.len a2]; rw [List.length_zipWith] at hl; omega⟩⟩
  rw [List.getElem?_zipWith] at hx
  split at hx
  · rename_i y z hy hz
    cases hx
    obtain ⟨v, h1, h2⟩ := DpAll.get a hy
    obtain ⟨v2, g1, g2⟩ := DpAll.get a2 hz
    refine ⟨⟨vs, vs2, v, v2, hr, hr2, h1, g1⟩, fun w H' y' => ?_⟩
    obtain ⟨T, z1, z2, rfl, nT, rfl, q1, q2⟩ := y'
    have e := q1 vs hr
    rw [h1] at e; cases e
    have e := q2 vs2 hr2
    rw [g1] at e; cases e
    have sm : Same F1 (upd F T (.tup [v, v2])) := s1.trans (same_upd (s2.free nT))
    exact ⟨_, (Stp.refl s2).new nT, .tup (SqT.of upd_same) (.cons (dp_same sm h2) (.cons (dp_same sm g2) .nil))⟩
  · cases hx
theorem si_zip {t : TA} {r : En → Option (List Dt)} (h : SF K t r) : SI K (iZip K t) (itZip r) := fun H0 F H σ A xs R e Q q => by
  obtain ⟨ds, e1, e⟩ := bind_eq_some e
  refine h H0 F H σ A ds R e1 _ fun F' H' vs s b => ?_
  split at e
  · cases e
    cases b with
    | cons b b' =>
      cases b' with
      | cons c c' =>
        cases c'
        cases b with
        | lst r a =>
          cases c with
          | lst r2 a2 => exact ⟨_, _, _, _, rfl, rdL (rd_same s.sub r), rdL (rd_same s.sub r2), q _ F' H' s (wk_zip r a r2 a2)⟩
  · cases e

/-! ### dicts -/
def valD (kvs : List (Key × Dt)) (k : Key) : Option Dt := (kvs.find? fun kv => decide (kv.1 = k)).map (·.2)
def putD (kvs : List (Key × Dt)) (k : Key) (v : Dt) : List (Key × Dt) := if (kvs.any fun kv => decide (kv.1 = k)) = true then kvs.map (fun kv => if kv.1 = k then (kv.1, v) else kv) else kvs ++ [(k, v)]
def keyD : Dt → Option Key
  | .int i => some (.inl i)
  | .str s => some (.inr s)
  | _ => none
theorem keyD_some {d : Dt} {k : Key} (h : keyD d = some k) {F : Hp} {v : V} (b : Dp K F v d) : v = kV k := by
  cases d <;> first | (cases h; done) | (cases h; cases b; rfl)
theorem dq_val {F : Hp} {k : Key} : ∀ {r : List (Key × V)} {s : List (Key × Dt)}, DQ K F r s → (valD s k = none → valV r k = none) ∧ ∀ d, valD s k = some d → ∃ v, valV r k = some v ∧ Dp K F v d
  | [], [], _ => ⟨fun _ => rfl, fun d h => by cases h⟩
  | (k1, v) :: r, (k2, d) :: s, ⟨h1, h2, h3⟩ => by
    subst h1
    have ih := dq_val (k := k) h3
    by_cases e : k1 = k
    · subst e
      have e1 : valD ((k1, d) :: s) k1 = some d := by simp [valD]
      have e2 : valV ((k1, v) :: r) k1 = some v := by simp [valV]
      rw [e1, e2]
      exact ⟨fun h => (by cases h), fun d' h => by cases h; exact ⟨v, rfl, h2⟩⟩
    · have e1 : valD ((k1, d) :: s) k = valD s k := by simp [valD, e]
      have e2 : valV ((k1, v) :: r) k = valV r k := by simp [valV, e]
      rw [e1, e2]
      exact ih
  | [], _ :: _, h => h.elim
  | _ :: _, [], h => h.elim
theorem dq_any {F : Hp} {k : Key} : ∀ {r : List (Key × V)} {s : List (Key × Dt)}, DQ K F r s → (r.any fun kv => decide (kv.1 = k)) = s.any fun kv => decide (kv.1 = k)
  | [], [], _ => rfl
  | (k1, v) :: r, (k2, d) :: s, ⟨h1, h2, h3⟩ => by
    subst h1
    rw [List.any_cons, List.any_cons, dq_any h3]
  | [], _ :: _, h => h.elim
  | _ :: _, [], h => h.elim
theorem dq_len {F : Hp} : ∀ {r : List (Key × V)} {s : List (Key × Dt)}, DQ K F r s → r.length = s.length
  | [], [], _ => rfl
  | (k1, v) :: r, (k2, d) :: s, ⟨h1, h2, h3⟩ => by rw [List.length_cons, List.length_cons, dq_len h3]
  | [], _ :: _, h => h.elim
  | _ :: _, [], h => h.elim
theorem dq_app {F : Hp} {k : Key} {w : V} {e : Dt} (b : Dp K F w e) : ∀ {r : List (Key × V)} {s : List (Key × Dt)}, DQ K F r s → DQ K F (r ++ [(k, w)]) (s ++ [(k, e)])
  | [], [], _ => ⟨rfl, b, trivial⟩
  | (k1, v) :: r, (k2, d) :: s, ⟨h1, h2, h3⟩ => ⟨h1, h2, dq_app b h3⟩
  | [], _ :: _, h => h.elim
  | _ :: _, [], h => h.elim
theorem dq_map {F : Hp} {k : Key} {w : V} {e : Dt} (b : Dp K F w e) : ∀ {r : List (Key × V)} {s : List (Key × Dt)}, DQ K F r s → DQ K F (r.map fun kv => if kv.1 = k then (kv.1, w) else kv) (s.map fun kv => if kv.1 = k then (kv.1, e) else kv)
  | [], [], _ => trivial
  | (k1, v) :: r, (k2, d) :: s, ⟨h1, h2, h3⟩ => by
    subst h1
    rw [List.map_cons, List.map_cons]
    by_cases q : k1 = k
    · rw [if_pos q, if_pos q]; exact ⟨rfl, b, dq_map b h3⟩
    · rw [if_neg q, if_neg q]; exact ⟨rfl, h2, dq_map b h3⟩
  | [], _ :: _, h => h.elim
  | _ :: _, [], h => h.elim
theorem dq_put {F : Hp} {k : Key} {w : V} {e : Dt} (b : Dp K F w e) {r : List (Key × V)} {s : List (Key × Dt)} (h : DQ K F r s) : DQ K F (putK r k w) (putD s k e) := by
  unfold putK putD
  rw [dq_any h]
  by_cases q : (s.any fun kv => decide (kv.1 = k)) = true
  · rw [if_pos q, if_pos q]; exact dq_map b h
  · rw [if_neg q, if_neg q]; exact dq_app b h
/-- d.get(k, x) -/
def eGet2 (i : Nat) (fk fx : En → Option Dt) : En → Option Dt := fun A => match A[i]? with | some (.od kvs) => (fk A).bind fun k => (keyD k).bind fun k' => (fx A).bind fun x => some ((valD kvs k').getD x) | _ => none
theorem se_get2 {i : Nat} (h1 : SE K ta fa) (h2 : SE K tb fb) : SE K (tDGet2 (tVar i) ta tb) (eGet2 i fa fb) := fun H0 F H σ A d R e Q q => by
  unfold eGet2 at e
  split at e
  · rename_i kvs hi
    obtain ⟨k, e1, e⟩ := bind_eq_some e
    obtain ⟨k', e2, e⟩ := bind_eq_some e
    obtain ⟨x, e3, e⟩ := bind_eq_some e
    cases e
    obtain ⟨p, vs, g1, g2, g3, g4, g5⟩ := (R.sl i _ hi).od kvs rfl
    refine ⟨_, g1, p, rfl, .inl ⟨vs, .inl g4⟩, ?_⟩
    refine h1 H0 F H σ A k R e1 _ fun F1 H1 v s1 b1 => ?_
    refine h2 H0 F1 H1 σ A x (R.step s1) e3 _ fun F2 H2 w s2 b2 => ?_
    have st := s1.trans s2
    have hp : H2 p = some (.dK vs) := st.hh.k g4
    refine ⟨valV vs k', .inl ⟨vs, k', .inl hp, keyD_some e2 b1, rfl⟩, ?_⟩
    obtain ⟨n1, n2⟩ := dq_val (k := k') (dq_same st.ff g5)
    cases ev : valD kvs k' with
    | none => rw [n1 ev]; exact q F2 H2 w st (by rw [ev]; exact b2)
    | some d => obtain ⟨v', z1, z2⟩ := n2 d ev; rw [z1]; exact q F2 H2 v' st (by rw [ev]; exact z2)
  · cases e
/-- d[k], there -/
def eDIx (i : Nat) (fk : En → Option Dt) : En → Option Dt := fun A => match A[i]? with | some (.od kvs) => (fk A).bind fun k => (keyD k).bind fun k' => valD kvs k' | _ => none
theorem se_dix {i : Nat} (h1 : SE K ta fa) : SE K (tDGet (tVar i) ta) (eDIx i fa) := fun H0 F H σ A d R e Q q => by
  unfold eDIx at e
  split at e
  · rename_i kvs hi
    obtain ⟨k, e1, e⟩ := bind_eq_some e
    obtain ⟨k', e2, e⟩ := bind_eq_some e
    obtain ⟨p, vs, g1, g2, g3, g4, g5⟩ := (R.sl i _ hi).od kvs rfl
    refine ⟨_, g1, ?_⟩
    refine h1 H0 F H σ A k R e1 _ fun F1 H1 v s1 b1 => ?_
    have hp : H1 p = some (.dK vs) := s1.hh.k g4
    obtain ⟨n1, n2⟩ := dq_val (k := k') (dq_same s1.ff g5)
    obtain ⟨v', z1, z2⟩ := n2 d e
    exact ⟨p, v', rfl, .inl ⟨vs, k', .inl hp, keyD_some e2 b1, z1.symm⟩, q F1 H1 v' s1 z2⟩
  · cases e
def eDIn (neg : Bool) (i : Nat) (fk : En → Option Dt) : En → Option Dt := fun A => match A[i]? with | some (.od kvs) => (fk A).bind fun k => (keyD k).bind fun k' => some (.bool (if neg then !(valD kvs k').isSome else (valD kvs k').isSome)) | _ => none
theorem din_some {F : Hp} {k : Key} {r : List (Key × V)} {s : List (Key × Dt)} (h : DQ K F r s) : (valV r k).isSome = (valD s k).isSome := by
  obtain ⟨n1, n2⟩ := dq_val (k := k) h
  cases ev : valD s k with
  | none => rw [n1 ev]; rfl
  | some d => obtain ⟨v', z1, _⟩ := n2 d ev; rw [z1]; rfl
theorem se_din {i : Nat} (h1 : SE K ta fa) : SE K (tDIn ta (tVar i)) (eDIn false i fa) := fun H0 F H σ A d R e Q q => by
  unfold eDIn at e
  split at e
  · rename_i kvs hi
    obtain ⟨k, e1, e⟩ := bind_eq_some e
    obtain ⟨k', e2, e⟩ := bind_eq_some e
    cases e
    obtain ⟨p, vs, g1, g2, g3, g4, g5⟩ := (R.sl i _ hi).od kvs rfl
    refine h1 H0 F H σ A k R e1 _ fun F1 H1 v s1 b1 => ?_
    have hp : H1 p = some (.dK vs) := s1.hh.k g4
    exact ⟨_, g1, p, _, rfl, .inl ⟨vs, k', .inl hp, keyD_some e2 b1, rfl⟩, q F1 H1 _ s1 (by rw [din_some (dq_same s1.ff g5)]; exact .bl _)⟩
  · cases e
theorem se_dnin {i : Nat} (h1 : SE K ta fa) : SE K (tDNotIn ta (tVar i)) (eDIn true i fa) := fun H0 F H σ A d R e Q q => by
  unfold eDIn at e
  split at e
  · rename_i kvs hi
    obtain ⟨k, e1, e⟩ := bind_eq_some e
    obtain ⟨k', e2, e⟩ := bind_eq_some e
    cases e
    obtain ⟨p, vs, g1, g2, g3, g4, g5⟩ := (R.sl i _ hi).od kvs rfl
    refine h1 H0 F H σ A k R e1 _ fun F1 H1 v s1 b1 => ?_
    have hp : H1 p = some (.dK vs) := s1.hh.k g4
    exact ⟨_, g1, p, _, rfl, .inl ⟨vs, k', .inl hp, keyD_some e2 b1, rfl⟩, q F1 H1 _ s1 (by rw [din_some (dq_same s1.ff g5)]; exact .bl _)⟩
  · cases e
/-- d[k] = v -/
def sPut (i : Nat) (fk fv : En → Option Dt) : En → Option Out := fun A => match A[i]? with | some (.od kvs) => (fv A).bind fun v => (fk A).bind fun k => (keyD k).bind fun k' => if kvs.length < sizeLine then some (.nx (A.set i (.od (putD kvs k' v)))) else none | _ => none
theorem ss_put {i : Nat} (hk : SE K ta fa) (hv : SE K tb fb) : SS K (sDPut (tVar i) ta tb) (sPut i fa fb) := fun F0 H0 F H σ A o D E R e G => by
  unfold sPut at e
  split at e
  · rename_i kvs hi
    obtain ⟨x, e1, e⟩ := bind_eq_some e
    obtain ⟨k, e2, e⟩ := bind_eq_some e
    obtain ⟨k', e3, e⟩ := bind_eq_some e
    obtain ⟨hz, rfl⟩ := ite_some e
    obtain ⟨p, vs, g1, g2, g3, g4, g5⟩ := (R.sl i _ hi).od kvs rfl
    refine hv H0 F H σ A x R e1 _ fun F1 H1 v s1 b1 => ⟨_, g1, ?_⟩
    refine hk H0 F1 H1 σ A k (R.step s1) e2 _ fun F2 H2 w s2 b2 => ?_
    have st := s1.trans s2
    have hp : H2 p = some (.dK vs) := st.hh.k g4
    refine ⟨p, _, rfl, .inl ⟨vs, k', hp, keyD_some e3 b2, by rw [dq_len g5]; exact hz, rfl⟩, ?_⟩
    have R' := R.step st
    have hf : F2 p = none := st.fr p g2 (notF_k g4)
    refine G F2 _ σ ((E.step st).mut g3 (by rw [hp]; exact noT_k)) (R'.chg ⟨.inr ⟨kvs, hi⟩, g1⟩ ⟨fun _ e => (by cases e), fun _ e => (by cases e), fun ys e => ?_⟩ fun _ => Sl.noConfusion)
    cases e
    exact ⟨p, _, g1, hf, g3, upd_same, dq_put (dp_same s2.ff b1) (dq_same st.ff g5)⟩
  · cases e
/-- {k: v for ..} -/
def dcD (g : Dt → En → Option En) (tt : En → Option Bool) (tk tv : En → Option Dt) (A : En) : List Dt → List (Key × Dt) → Option (List (Key × Dt))
  | [], acc => some acc
  | x :: xs, acc => (g x A).bind fun A1 => (tt A1).bind fun b => if b = true then (tk A1).bind fun k => (keyD k).bind fun k' => (tv A1).bind fun v => dcD g tt tk tv A xs (putD acc k' v) else dcD g tt tk tv A xs acc
def kDc (vs : List Nat) (it : En → Option (List Dt)) (g : Dt → En → Option En) (tt : En → Option Bool) (tk tv : En → Option Dt) : En → Option (List (Key × Dt)) := fun A => (it A).bind fun xs => if xs.length ≤ sizeLine then dcD g tt tk tv (wipeA A vs) xs [] else none
def sSetDc (i : Nat) (n : En → Option (List (Key × Dt))) : En → Option Out := fun A => (n A).map fun d => .nx (A.set i (.od d))
theorem putD_len (kvs : List (Key × Dt)) (k : Key) (v : Dt) : (putD kvs k v).length ≤ kvs.length + 1 := by
  unfold putD
  split
  · rw [List.length_map]; omega
  · rw [List.length_append]; exact Nat.le_refl _
theorem ss_setDc {i : Nat} {vs : List Nat} {wi : TI} {it : En → Option (List Dt)} {is : List Nat} {g : TG} {h : Dt → En → Option En} {tt : TT} {b1 : En → Option Bool} (hi : SI K wi it) (hg : SG K is g h) (hiv : ∀ i ∈ is, i ∈ vs) (ht : ST K tt b1) (hk : SE K ta fa) (hv : SE K tb fb) : SS K (tAsg (tDc wi g tt ta tb vs) (gName i)) (sSetDc i (kDc vs it h b1 fa fb)) := fun F0 H0 F H σ A out0 D0 E R e0 G => by
  obtain ⟨out, e, rfl⟩ := map_eq_some e0
  obtain ⟨xs, e1, e⟩ := bind_eq_some e
  by_cases hz : xs.length ≤ sizeLine
  case neg => rw [if_neg hz] at e; cases e
  rw [if_pos hz] at e
  refine hi H0 F H σ A xs R e1 _ fun J F1 H1 s1 wk D nD => ?_
  have R1 := (R.step s1).wipe vs
  have fD : F1 D = none := s1.sub.free nD
  refine ⟨fun i m H' => ∃ F' acc dn, Stp F1 H1 F' H' ∧ F' D = none ∧ H' D = some (.dK acc) ∧ DQ K F' acc dn ∧ dn.length ≤ i ∧ i + m = xs.length ∧ dcD h b1 fa fb (wipeA A vs) (xs.drop i) dn = some out,
    ⟨xs.length, F1, [], [], (stp0 s1.sub).newO nD, fD, upd_same, trivial, Nat.le_refl _, Nat.zero_add _, e⟩, ?_⟩
  rintro i m H' ⟨F', acc, dn, s', f', hD, a', hle, hl, e'⟩
  by_cases hlt : i < xs.length
  · obtain ⟨w1, w2⟩ := wk i F' H' s'.ff s'.sub
    obtain ⟨hgo, hy⟩ := w1 xs[i] (List.getElem?_eq_getElem hlt)
    rw [List.drop_eq_getElem_cons hlt] at e'
    obtain ⟨A1, e2, e'⟩ := bind_eq_some e'
    obtain ⟨b, e3, e'⟩ := bind_eq_some e'
    refine .inr ⟨hgo, fun H3 => ∃ F3 acc3 dn3, Stp F1 H1 F3 H3 ∧ F3 D = none ∧ H3 D = some (.dK acc3) ∧ DQ K F3 acc3 dn3 ∧ dn3.length ≤ i + 1 ∧ dcD h b1 fa fb (wipeA A vs) (xs.drop (i + 1)) dn3 = some out, fun H3 ⟨F3, acc3, dn3, t1, t2, t3, t4, t5, t6⟩ => ⟨m - 1, by omega, F3, acc3, dn3, t1, t2, t3, t4, t5, by omega, t6⟩, fun v H2 y => ?_⟩
    obtain ⟨F2, s2, bv⟩ := hy v H2 y
    have s12 := s'.trans s2
    have f2 : F2 D = none := s2.fr D f' (notF_k hD)
    have h2 : H2 D = some (.dK acc) := s2.hh.k hD
    refine hg H0 F2 H2 _ _ v _ A1 (R1.step s12) bv e2 _ fun σ2 R2 hw => ⟨?_, ?_⟩
    · rw [hw vs hiv]
      refine List.ext_getElem? fun j => ?_
      rw [wipe_get, wipe_get, wipe_length]
      by_cases hj : j ∈ vs
      · rw [if_pos hj, if_pos hj]
      · rw [if_neg hj, if_neg hj]
    refine ht H0 F2 H2 σ2 A1 b R2 e3 _ fun F3 H3 s3 => ?_
    have f3 : F3 D = none := s3.fr D f2 (notF_k h2)
    have h3 : H3 D = some (.dK acc) := s3.hh.k h2
    cases b with
    | false =>
      rw [if_neg Bool.false_ne_true] at e' ⊢
      exact ⟨F3, acc, dn, s12.trans s3, f3, h3, dq_same (s2.ff.trans s3.ff) a', by omega, e'⟩
    | true =>
      rw [if_pos rfl] at e' ⊢
      obtain ⟨k, e4, e'⟩ := bind_eq_some e'
      obtain ⟨k', e5, e'⟩ := bind_eq_some e'
      obtain ⟨d, e6, e'⟩ := bind_eq_some e'
      refine hk H0 F3 H3 σ2 A1 k (R2.step s3) e4 _ fun F4 H4 v4 s4 b4 => ?_
      have f4 : F4 D = none := s4.fr D f3 (notF_k h3)
      have h4 : H4 D = some (.dK acc) := s4.hh.k h3
      refine hv H0 F4 H4 σ2 A1 d ((R2.step s3).step s4) e6 _ fun F5 H5 v5 s5 b5 => ?_
      have f5 : F5 D = none := s5.fr D f4 (notF_k h4)
      have h5 : H5 D = some (.dK acc) := s5.hh.k h4
      have sm : Same F' F5 := s2.ff.trans (s3.ff.trans (s4.ff.trans s5.ff))
      refine ⟨acc, k', keyD_some e5 b4, h5, by rw [dq_len a']; omega, F5, _, putD dn k' d, (s12.trans (s3.trans (s4.trans s5))).mut (freeT_n nD) f5 (by rw [h5]; exact noT_k), f5, upd_same, dq_put b5 (dq_same sm a'), ?_, e'⟩
      exact Nat.le_trans (putD_len dn k' d) (by omega)
  · have e0 : xs.drop i = [] := List.drop_eq_nil_of_le (by omega)
    rw [e0] at e'
    cases e'
    obtain ⟨w1, w2⟩ := wk i F' H' s'.ff s'.sub
    have st := s1.trans s'
    exact .inl ⟨w2 (by omega), G F' H' _ (E.step st) (R.setK st (E.hh.freeT (s1.hh.free nD)) (s1.hh.free nD) f' hD a')⟩
end
section
variable {X : Cx}
theorem sw_trueD {kx vx : Expr} {gs : List Comprehension} {scope : Scope} {pos py : Pos} {y : Str} {l : Nat} {env : Env} (hk : env.scope.kind = .function) (hy : env.scope.names.lookup y = some .local) (hl : (py.line == pos.line) = true)
    (ha : (scope.names.any fun (n, k) => n == y && (k == .local || k == .cell)) = false) : swapsWith (.DictComp kx vx gs scope pos) (some (.Name y py)) l env = pure true := by
  have ky : env.kindOf y = some .local := hy
  have hb : env.blockKind = .function := by unfold Env.blockKind; rw [hk]; rfl
  unfold swapsWith
  simp only [hb, ky, ha, Expr.pos, hl]
  rfl
/-- name = {..} on one line -/
theorem ps_setDc {i : Nat} {y : Str} {py : Pos} {kx vx tg iter : Expr} {ifs : List Expr} {scope : Scope} {own : List (Str × Nat)} {pos spos : Pos} {wi : TI} {g : TG} {tt : TT} {tk tv : TE} (hc : X.calm = true) (hN : X.N.Nodup) (hy : X.N[i]? = some y) (hyl : X.env.scope.names.lookup y = some .local)
    (hsw : swapsWith (.DictComp kx vx [⟨tg, iter, ifs, 0⟩] scope pos) (some (.Name y py)) spos.line X.env = pure true) (hi : PI X tg iter wi) (ok : BlkOk X.N X.env.scope scope own)
    (hg : ∀ (s : Shared) (H : Hp) (C : Addr) (cl : List (Str × Addr)) (fp : List Addr), PG (X.blk s H scope (compEnvC scope cl C X.env) fp) tg g) (ht : ∀ (s : Shared) (H : Hp) (C : Addr) (cl : List (Str × Addr)) (fp : List Addr), PTs (X.blk s H scope (compEnvC scope cl C X.env) fp) ifs tt)
    (hk : ∀ (s : Shared) (H : Hp) (C : Addr) (cl : List (Str × Addr)) (fp : List Addr), PE (X.blk s H scope (compEnvC scope cl C X.env) fp) kx tk)
    (he : ∀ (s : Shared) (H : Hp) (C : Addr) (cl : List (Str × Addr)) (fp : List Addr), PE (X.blk s H scope (compEnvC scope cl C X.env) fp) vx tv) (hs : ∀ x, foldedSetIterable iter X.env x = pure x := by intro _; rfl) :
    PS X (.Assign [.Name y py] (.DictComp kx vx [⟨tg, iter, ifs, 0⟩] scope pos) spos) (tAsg (tDc wi g tt tk tv (own.map (·.2))) (gName i)) := by
  refine ⟨fun pins s σ H D I h => ?_⟩
  rw [exec_Assign_Name_used _ _ _ _ hsw]
  refine wpAny_bind (wpAny_standAt (wpAny_bind ?_))
  show wpAny _ X.A (do let _ ← comprehension (.DictComp kx vx [⟨tg, iter, ifs, 0⟩] scope pos) scope X.env (firstIterPos [⟨tg, iter, ifs, 0⟩] pos) newDict false (eval iter X.env) (some (assign (.Name y py) X.env))) _ _ s
  have h : tDc wi g tt tk tv (own.map (·.2)) σ H (fun x H1 => gName i x σ H1 D.nx) := h
  refine wpAny_bind (thn (dc_core (Qf := fun _ s' => SP X pins D .next s') hc hN I hi ok hg ht hk he hs h fun L C s' m H' I' q hn f => ?_) fun _ s' hq => wpAny_pure (wpAny_pure hq))
  show wpAny _ _ (assign (.Name y py) X.env (.ref L)) _ _ _
  refine wpAny_assign_Name (store_ok2 (v := V.ref L) I' hN hy (.inl hyl) rfl (fun s2 I2 ⟨a, sb, ha⟩ => ?_) (.inr hyl))
  obtain ⟨f0, f1, f2, f3, f4, f5⟩ := f
  have haC : C ≠ a := by
    rcases ha with z | z
    · rw [z]; exact f1
    · exact fun e => f4 y a z e.symm
  refine ⟨m, hn.sameBut sb haC, fun h3 sb3 => ?_⟩
  exact ⟨_, H', I2.turned (t' := s2.toks) (fun b o hb e => (sb3.2 b hb).trans e) f0 f1 f3 f4 f5, q⟩
end
end Dv

namespace Dv
open PySem PySem.Spec PyProof.Rows
open L2 hiding Dp DpAll
open LamX (TabS CodeO Tabs ExtN)
variable [Tb]

/-! ### Python's text and what it comes to, side by side -/
section
variable (K : PySem.W.Frag) (X : Cx)
structure DE (e : Expr) (te : TE) (f : En → Option Dt) : Prop where
  hk : X.K = K
  pe : PE X e te
  so : SE K te f
structure DB (e : Expr) (te : TE) (f : En → Option Dt) : Prop where
  hk : X.K = K
  pe : PE X e te
  so : SB K te f
structure DN (e : Expr) (te : TE) (f : En → Option (List Dt)) : Prop where
  hk : X.K = K
  pe : PE X e te
  so : SN K te f
structure DT (e : Expr) (tt : TT) (f : En → Option Bool) : Prop where
  hk : X.K = K
  pe : PT X e tt
  so : ST K tt f
structure DW (e : Expr) (tt : TT) (f : En → Option Bool) : Prop where
  hk : X.K = K
  pe : PW X e tt
  so : ST K tt f
structure DTs (e : List Expr) (tt : TT) (f : En → Option Bool) : Prop where
  pe : PTs X e tt
  so : ST K tt f
structure DA (es : List Expr) (ta : TA) (f : En → Option (List Dt)) : Prop where
  pe : PA X es ta
  so : SA K ta f
structure DF (es : List Expr) (ta : TA) (f : En → Option (List Dt)) : Prop where
  pe : PA X es ta
  so : SF K ta f
structure DO (e : Option Expr) (to : TO) (f : En → Option (Option Int)) : Prop where
  pe : PO X e to
  so : SO K to f
structure DI (tg e : Expr) (wi : TI) (f : En → Option (List Dt)) : Prop where
  pe : PI X tg e wi
  so : SI K wi f
structure DG (is : List Nat) (e : Expr) (g : TG) (h : Dt → En → Option En) : Prop where
  hk : X.K = K
  pe : PG X e g
  so : SG K is g h
structure DGs (is : List Nat) (es : List Expr) (g : TGs) (h : List Dt → En → Option En) : Prop where
  hk : X.K = K
  pe : PGs X es g
  so : SGs K is g h
structure DS (st : Stmt) (ts : TS) (f : En → Option Out) : Prop where
  pe : PS X st ts
  so : SS K ts f
structure DSs (st : List Stmt) (ts : TS) (f : En → Option Out) : Prop where
  pe : PSs X st ts
  so : SS K ts f
end
section
variable {K : PySem.W.Frag} {X : Cx} {x0 : Expr} {te : TE} {f : En → Option Dt} {n : En → Option (List Dt)}
theorem DE.b (h : DE K X x0 te f) : DB K X x0 te f := ⟨h.hk, h.pe, h.so.sb⟩
theorem DN.e (h : DN K X x0 te n) : DE K X x0 te (nE n) := ⟨h.hk, h.pe, h.so.se⟩
theorem DN.b (h : DN K X x0 te n) : DB K X x0 te (nE n) := h.e.b
end
section
variable {K : PySem.W.Frag} {X : Cx} {e a b c : Expr} {es : List Expr} {te ta tb tc : TE} {f fa fb fc : En → Option Dt} {n : En → Option (List Dt)} {pos p : Pos} {t : TA} {r : En → Option (List Dt)}
theorem de_v {i : Nat} {x : Str} (h : PE X (.Name x pos) (tVar i)) (hk : X.K = K := by rfl) : DE K X (.Name x pos) (tVar i) (eVar i) := ⟨hk, h, se_var i⟩
theorem db_v {i : Nat} {x : Str} (h : PE X (.Name x pos) (tVar i)) (hk : X.K = K := by rfl) : DB K X (.Name x pos) (tVar i) (bVar i) := ⟨hk, h, sb_var i⟩
theorem de_int {i : Int} {j} (hk : X.K = K := by rfl) : DE K X (.Constant (.int i) j pos) (tC (.int i)) (eC (.int i)) := ⟨hk, pe_int, se_c fun _ => .int i⟩
theorem de_bl {i : Bool} {j} (hk : X.K = K := by rfl) : DE K X (.Constant (.bool i) j pos) (tC (.bl i)) (eC (.bool i)) := ⟨hk, pe_bl, se_c fun _ => .bl i⟩
theorem de_str {i : Str} {j} (hk : X.K = K := by rfl) : DE K X (.Constant (.str i) j pos) (tC (.str i)) (eC (.str i)) := ⟨hk, pe_str, se_c fun _ => .str i⟩
theorem de_non {j} (hk : X.K = K := by rfl) : DE K X (.Constant .none j pos) (tC .non) (eC .none) := ⟨hk, pe_non, se_c fun _ => .non⟩
/-- a constant of the module -/
theorem de_gl {x : Str} {v : V} {u : Value} {d : Dt} (hm : X.mg x = some u) (r : RelV v u) (hd : ∀ F, Dp K F v d) (hg : Gl X x := by rfl) (hk : X.K = K := by rfl) (hdb : (x == ("__debug__" : Str)) = false := by decide) : DE K X (.Name x pos) (tC v) (eC d) := ⟨hk, pe_glob hg hm r hdb, se_c hd⟩

/-! ### arguments, displays -/
theorem da_nil : DA K X [] tNil aNil := ⟨pa_nil, sa_nil⟩
theorem df_nil : DF K X [] tNil aNil := ⟨pa_nil, sf_nil⟩
theorem da_cons (h : DB K X e te f) (hr : DA K X es t r) (hs : starEach (e :: es) X.env = (false, eval e X.env) :: starEach es X.env := by rfl) : DA K X (e :: es) (tCons te t) (aCons f r) := ⟨pa_cons h.pe hr.pe hs, sa_cons h.so hr.so⟩
theorem df_cons (h : DE K X e te f) (hr : DF K X es t r) (hs : starEach (e :: es) X.env = (false, eval e X.env) :: starEach es X.env := by rfl) : DF K X (e :: es) (tCons te t) (aCons f r) := ⟨pa_cons h.pe hr.pe hs, sf_cons h.so hr.so⟩
theorem de_tup {x1} (h : DF K X es t r) (hk : X.K = K := by rfl) : DE K X (.Tuple es x1 pos) (tTup t) (eTup r) := ⟨hk, pe_tup h.pe, se_tup h.so⟩
theorem dn_lst (h : DF K X es t r) (hk : X.K = K := by rfl) : DN K X (.List es pos) (tLst t) (nLst r) := ⟨hk, pe_lst h.pe, sn_lst h.so⟩

/-! ### operators -/
theorem de_add (ha : DB K X a ta fa) (hb : DB K X b tb fb) : DE K X (.BinOp a .Add b pos) (tOp (rAdd3 K) ta tb) (eOp addD fa fb) := by
  have hk := ha.hk
  subst hk
  exact ⟨rfl, pe_op op_add3 ha.pe hb.pe, se_op ha.so hb.so rs_add⟩
theorem dn_cat (ha : DB K X a ta fa) (hb : DB K X b tb fb) : DN K X (.BinOp a .Add b pos) (tOp (rAdd3 K) ta tb) (nOp catN fa fb) := by
  have hk := ha.hk
  subst hk
  exact ⟨rfl, pe_op op_add3 ha.pe hb.pe, sn_op ha.so hb.so rn_cat⟩
theorem de_sub (ha : DB K X a ta fa) (hb : DB K X b tb fb) : DE K X (.BinOp a .Sub b pos) (tOp (rI0 fun i j => .int (i - j)) ta tb) (eOp subD fa fb) := ⟨ha.hk, pe_op op_sub ha.pe hb.pe, se_op ha.so hb.so rs_sub⟩
theorem de_mul (ha : DB K X a ta fa) (hb : DB K X b tb fb) : DE K X (.BinOp a .Mult b pos) (tOp (rMul2 K) ta tb) (eOp mulD fa fb) := by
  have hk := ha.hk
  subst hk
  exact ⟨rfl, pe_op op_mul2 ha.pe hb.pe, se_op ha.so hb.so rs_mul⟩
theorem dn_rep (ha : DB K X a ta fa) (hb : DB K X b tb fb) : DN K X (.BinOp a .Mult b pos) (tOp (rMul2 K) ta tb) (nOp repN fa fb) := by
  have hk := ha.hk
  subst hk
  exact ⟨rfl, pe_op op_mul2 ha.pe hb.pe, sn_op ha.so hb.so rn_rep⟩
theorem de_mod (ha : DB K X a ta fa) (hb : DB K X b tb fb) : DE K X (.BinOp a .Mod b pos) (tOp (rI (fun _ j => 0 < j) fun i j => .int (i % j)) ta tb) (eOp modD fa fb) := ⟨ha.hk, pe_op op_mod ha.pe hb.pe, se_op ha.so hb.so rs_mod⟩
theorem de_fdiv (ha : DB K X a ta fa) (hb : DB K X b tb fb) : DE K X (.BinOp a .FloorDiv b pos) (tOp (rI CDivW fun i j => .int (i / j)) ta tb) (eOp fdivD fa fb) := ⟨ha.hk, pe_op op_fdivW ha.pe hb.pe, se_op ha.so hb.so rs_fdiv⟩
theorem de_pow (ha : DB K X a ta fa) (hb : DB K X b tb fb) : DE K X (.BinOp a .Pow b pos) (tOp (rI CPow fun i j => .int (i ^ j.toNat)) ta tb) (eOp powD fa fb) := ⟨ha.hk, pe_op op_pow ha.pe hb.pe, se_op ha.so hb.so rs_pow⟩
theorem de_neg (ha : DB K X a ta fa) : DE K X (.UnaryOp .USub a pos) (tUn (rU fun i => .int (-i)) ta) (eUn negD fa) := ⟨ha.hk, pe_un un_neg ha.pe, se_un ha.so ru_neg⟩

/-! ### comparisons: the operator by its values, as a value, as a test, in a chain -/
structure DC (K : PySem.W.Frag) (X : Cx) (op : CmpOp) (r : R2) (g : Dt → Dt → Option Dt) : Prop where
  pe : OpR X (compareOp op) r
  so : RS K r g
theorem c_lt : DC K X .Lt rLt2 ltD := ⟨op_lt2, rs_lt⟩
theorem c_le : DC K X .LtE rLe2 leD := ⟨op_le2, rs_le⟩
theorem c_gt : DC K X .Gt rGt2 gtD := ⟨op_gt2, rs_gt⟩
theorem c_ge : DC K X .GtE rGe2 geD := ⟨op_ge2, rs_ge⟩
theorem c_eq (hu : X.A.units + 64 < cLine) (hk : X.K = K := by rfl) : DC K X .Eq (rEqD K) eqD := by
  subst hk
  exact ⟨op_eqD hu, rs_eq⟩
theorem c_ne (hu : X.A.units + 64 < cLine) (hk : X.K = K := by rfl) : DC K X .NotEq (rNeD K) neD := by
  subst hk
  exact ⟨op_neD hu, rs_ne⟩
theorem c_is : DC K X .Is rIsN' isND := ⟨op_isN', rs_isN⟩
theorem c_isnot : DC K X .IsNot rNotN' notND := ⟨op_notN', rs_notN⟩
theorem c_in (hk : X.K = K := by rfl) : DC K X .In (rIn2 K false) inD := by
  subst hk
  exact ⟨op_in2, rs_in⟩
theorem c_nin (hk : X.K = K := by rfl) : DC K X .NotIn (rIn2 K true) notInD := by
  subst hk
  exact ⟨op_nin2, rs_nin⟩
variable {op op' : CmpOp} {rr rr' : R2} {g g' : Dt → Dt → Option Dt}
theorem de_cmp (hc : DC K X op rr g) (ha : DB K X a ta fa) (hb : DB K X b tb fb) (hm : behindInMarks op b = false := by first | exact nomark _ | rfl | with_unfolding_all rfl) : DE K X (.Compare a [op] [b] pos) (tOp rr ta tb) (eOp g fa fb) := ⟨ha.hk, pe_cmpR hc.pe ha.pe hb.pe hm, se_op ha.so hb.so hc.so⟩
theorem dt_cmp (hc : DC K X op rr g) (ha : DB K X a ta fa) (hb : DB K X b tb fb) (hm : behindInMarks op b = false := by first | exact nomark _ | rfl | with_unfolding_all rfl) : DT K X (.Compare a [op] [b] pos) (tTest (tOp rr ta tb)) (tOf (eOp g fa fb)) := ⟨ha.hk, pt_cmpR hc.pe ha.pe hb.pe hm, st_test (se_op ha.so hb.so hc.so)⟩
theorem de_chain (hc : DC K X op rr g) (hc' : DC K X op' rr' g') (ha : DB K X a ta fa) (hb : DB K X b tb fb) (hd : DB K X c tc fc) (hm : lastMarks [op, op'] [b, c] = false := by with_unfolding_all rfl) : DE K X (.Compare a [op, op'] [b, c] pos) (tChain rr rr' ta tb tc) (eChain g g' fa fb fc) :=
  ⟨ha.hk, pe_chain hc.pe hc'.pe ha.pe hb.pe hd.pe hm, se_chain ha.so hb.so hd.so hc.so hc'.so⟩
theorem dt_chain (hc : DC K X op rr g) (hc' : DC K X op' rr' g') (ha : DB K X a ta fa) (hb : DB K X b tb fb) (hd : DB K X c tc fc) (hm : lastMarks [op, op'] [b, c] = false := by with_unfolding_all rfl) : DT K X (.Compare a [op, op'] [b, c] pos) (tTest (tChain rr rr' ta tb tc)) (tOf (eChain g g' fa fb fc)) :=
  ⟨ha.hk, pt_chain hc.pe hc'.pe ha.pe hb.pe hd.pe hm, st_test (se_chain ha.so hb.so hd.so hc.so hc'.so)⟩
theorem de_din {i : Nat} {x : Str} (hu : X.A.units + 1 < cLine) (hv : PE X (.Name x p) (tVar i)) (ha : DE K X a ta fa) : DE K X (.Compare a [.In] [.Name x p] pos) (tDIn ta (tVar i)) (eDIn false i fa) := ⟨ha.hk, pe_cmp (pc_din hu ha.pe hv) (by rfl), se_din ha.so⟩
theorem dt_din {i : Nat} {x : Str} (hu : X.A.units + 1 < cLine) (hv : PE X (.Name x p) (tVar i)) (ha : DE K X a ta fa) : DT K X (.Compare a [.In] [.Name x p] pos) (tB (tDIn ta (tVar i))) (tOf (eDIn false i fa)) := ⟨ha.hk, pt_cmp (pc_din hu ha.pe hv) (by rfl), st_B (se_din ha.so)⟩
theorem de_dnin {i : Nat} {x : Str} (hu : X.A.units + 1 < cLine) (hv : PE X (.Name x p) (tVar i)) (ha : DE K X a ta fa) : DE K X (.Compare a [.NotIn] [.Name x p] pos) (tDNotIn ta (tVar i)) (eDIn true i fa) := ⟨ha.hk, pe_cmp (pc_dnotin hu ha.pe hv) (by rfl), se_dnin ha.so⟩
theorem dt_dnin {i : Nat} {x : Str} (hu : X.A.units + 1 < cLine) (hv : PE X (.Name x p) (tVar i)) (ha : DE K X a ta fa) : DT K X (.Compare a [.NotIn] [.Name x p] pos) (tB (tDNotIn ta (tVar i))) (tOf (eDIn true i fa)) := ⟨ha.hk, pt_cmp (pc_dnotin hu ha.pe hv) (by rfl), st_B (se_dnin ha.so)⟩
/-! ### and, or, not -/
variable {tt tu : TT} {b1 b2 : En → Option Bool} {rest : List Expr}
theorem dt_val (h : DE K X e te f) (he : ∀ whole, isTrue e X.env whole = (do let v ← whole; standAt e.pos; holding [v] (truthy v)) := by intro _; rfl) : DT K X e (tB te) (tOf f) := ⟨h.hk, pt_val h.pe he, st_B h.so⟩
theorem dw_t {x0 : Expr} (h : DW K X x0 tt b1) : DT K X x0 tt b1 := ⟨h.hk, h.pe.pt, h.so⟩
theorem dw_and1 (h : DT K X a tt b1) : DW K X (.BoolOp .And [a] pos) tt b1 := ⟨h.hk, pw_and1 h.pe, h.so⟩
theorem dw_or1 (h : DT K X a tt b1) : DW K X (.BoolOp .Or [a] pos) tt b1 := ⟨h.hk, pw_or1 h.pe, h.so⟩
theorem dw_and (h : DT K X a tt b1) (h2 : DW K X (.BoolOp .And (b :: rest) pos) tu b2) : DW K X (.BoolOp .And (a :: b :: rest) pos) (L2.tAnd tt tu) (tAnd' b1 b2) := ⟨h.hk, pw_and h.pe h2.pe, st_and h.so h2.so⟩
theorem dw_or (h : DT K X a tt b1) (h2 : DW K X (.BoolOp .Or (b :: rest) pos) tu b2) : DW K X (.BoolOp .Or (a :: b :: rest) pos) (L2.tOr tt tu) (tOr' b1 b2) := ⟨h.hk, pw_or h.pe h2.pe, st_or h.so h2.so⟩
theorem dt_not (h : DT K X a tt b1) : DT K X (.UnaryOp .Not a pos) (L2.tNot tt) (tNot' b1) := ⟨h.hk, pt_not h.pe, st_not h.so⟩
theorem de_one {op} (h : DE K X a ta fa) : DE K X (.BoolOp op [a] pos) ta fa := ⟨h.hk, pe_one h.pe, h.so⟩
theorem de_and (h : DE K X a ta fa) (h2 : DE K X (.BoolOp .And (b :: rest) pos) tb fb) : DE K X (.BoolOp .And (a :: b :: rest) pos) (tAndV ta tb) (eAnd fa fb) := ⟨h.hk, pe_and h.pe h2.pe, se_and h.so h2.so⟩
theorem de_or (h : DE K X a ta fa) (h2 : DE K X (.BoolOp .Or (b :: rest) pos) tb fb) : DE K X (.BoolOp .Or (a :: b :: rest) pos) (tOrV ta tb) (eOr fa fb) := ⟨h.hk, pe_or h.pe h2.pe, se_or h.so h2.so⟩
theorem de_not (h : DE K X a ta fa) : DE K X (.UnaryOp .Not a pos) (tNotV ta) (eNot fa) := ⟨h.hk, pe_not h.pe, se_not h.so⟩
theorem de_if (hc : DT K X c tt b1) (ha : DE K X a ta fa) (hb : DE K X b tb fb) : DE K X (.IfExp c a b pos) (L2.tIf tt ta tb) (eIf b1 fa fb) := ⟨ha.hk, pe_ifExp hc.pe ha.pe hb.pe, se_if hc.so ha.so hb.so⟩

/-! ### subscripts, slices -/
theorem de_ix (ha : DB K X a ta fa) (hb : DB K X b tb fb) (hs : PlainIx b := by intro _ _; rfl) : DE K X (.Subscript a b pos) (tOp (rIx K) ta tb) (eOp ixD fa fb) := by
  have hk := ha.hk
  subst hk
  exact ⟨rfl, pe_ix ix_seq ha.pe hb.pe hs, se_op ha.so hb.so rs_ix⟩
theorem de_dix {i : Nat} {x : Str} (hu : X.A.units + 1 < cLine) (hv : PE X (.Name x p) (tVar i)) (hb : DE K X b tb fb) (hs : NoSl b := by intro _ _; rfl) : DE K X (.Subscript (.Name x p) b pos) (tDGet (tVar i) tb) (eDIx i fb) := ⟨hb.hk, pe_dget hu hv hb.pe hs, se_dix hb.so⟩
theorem do_none : DO K X none tNoPart oNone := ⟨po_none, so_none⟩
theorem do_some (h : DE K X e te f) : DO K X (some e) (tPart te) (oSome f) := ⟨po_some h.pe, so_some h.so⟩
variable {lo hi : Option Expr} {tl th : TO} {l u : En → Option (Option Int)} {p2 : Pos}
theorem dn_sl (ha : DB K X a ta fa) (hl : DO K X lo tl l) (hh : DO K X hi th u) : DN K X (.Subscript a (.Slice lo hi none p2) pos) (tSl (rSlL K) ta tl th) (nSl fa l u) := by
  have hk := ha.hk
  subst hk
  exact ⟨rfl, pe_slice sl_list ha.pe hl.pe hh.pe, sn_sl ha.so hl.so hh.so⟩
theorem de_slS (ha : DB K X a ta fa) (hl : DO K X lo tl l) (hh : DO K X hi th u) : DE K X (.Subscript a (.Slice lo hi none p2) pos) (tSl rSlS ta tl th) (eSlS fa l u) := ⟨ha.hk, pe_slice sl_str ha.pe hl.pe hh.pe, se_slS ha.so hl.so hh.so⟩

/-! ### calls -/
theorem de_B {x : Str} {id : String} {rr : List V → Hp → VK → Prop} {g : List Dt → Option Dt} (hc : CallR X (.builtin id) rr) (hs : CS K rr g) (hm : X.mg x = none) (ha : DA K X (e :: es) t r) (hv : bootBuiltins x = some (.builtin id)) (hg : Gl X x := by rfl) (hk : X.K = K := by rfl) (hn : x ≠ "__name__" := by decide) (hdb : (x == ("__debug__" : Str)) = false := by decide)
    (he : starEach (e :: es) X.env = (false, eval e X.env) :: starEach es X.env := by rfl) (hpl : (backTo pos (starEach es X.env)).any (·.1) = false := by rfl) : DE K X (.Call (.Name x p) (e :: es) [] pos) (tCB rr t) (eCB g r) := ⟨hk, pe_callB hc hg hm hv ha.pe hn hdb he hpl, se_cb ha.so hs⟩
theorem dn_B {x : Str} {id : String} {rr : List V → Hp → VK → Prop} {g : List Dt → Option (List Dt)} (hc : CallR X (.builtin id) rr) (hs : CN K rr g) (hm : X.mg x = none) (ha : DA K X (e :: es) t r) (hv : bootBuiltins x = some (.builtin id)) (hg : Gl X x := by rfl) (hk : X.K = K := by rfl) (hn : x ≠ "__name__" := by decide) (hdb : (x == ("__debug__" : Str)) = false := by decide)
    (he : starEach (e :: es) X.env = (false, eval e X.env) :: starEach es X.env := by rfl) (hpl : (backTo pos (starEach es X.env)).any (·.1) = false := by rfl) : DN K X (.Call (.Name x p) (e :: es) [] pos) (tCB rr t) (nCB g r) := ⟨hk, pe_callB hc hg hm hv ha.pe hn hdb he hpl, sn_cb ha.so hs⟩
theorem de_T {x : Str} {T : String} {rr : List V → Hp → VK → Prop} {g : List Dt → Option Dt} (hc : CallR X (.type T) rr) (hs : CS K rr g) (hm : X.mg x = none) (ha : DA K X (e :: es) t r) (hv : bootBuiltins x = some (.type T)) (hg : Gl X x := by rfl) (hk : X.K = K := by rfl) (hn : x ≠ "__name__" := by decide) (hdb : (x == ("__debug__" : Str)) = false := by decide)
    (he : starEach (e :: es) X.env = (false, eval e X.env) :: starEach es X.env := by rfl) (hpl : (backTo pos (starEach es X.env)).any (·.1) = false := by rfl) : DE K X (.Call (.Name x p) (e :: es) [] pos) (tCB rr t) (eCB g r) := ⟨hk, pe_callTy hc hg hm hv ha.pe hn hdb he hpl, se_cb ha.so hs⟩
theorem dn_T {x : Str} {T : String} {rr : List V → Hp → VK → Prop} {g : List Dt → Option (List Dt)} (hc : CallR X (.type T) rr) (hs : CN K rr g) (hm : X.mg x = none) (ha : DA K X (e :: es) t r) (hv : bootBuiltins x = some (.type T)) (hg : Gl X x := by rfl) (hk : X.K = K := by rfl) (hn : x ≠ "__name__" := by decide) (hdb : (x == ("__debug__" : Str)) = false := by decide)
    (he : starEach (e :: es) X.env = (false, eval e X.env) :: starEach es X.env := by rfl) (hpl : (backTo pos (starEach es X.env)).any (·.1) = false := by rfl) : DN K X (.Call (.Name x p) (e :: es) [] pos) (tCB rr t) (nCB g r) := ⟨hk, pe_callTy hc hg hm hv ha.pe hn hdb he hpl, sn_cb ha.so hs⟩
theorem v_len : bootBuiltins ("len" : Str) = some (.builtin "len") := by decide +kernel
theorem v_max : bootBuiltins ("max" : Str) = some (.builtin "max") := by decide +kernel
theorem v_min : bootBuiltins ("min" : Str) = some (.builtin "min") := by decide +kernel
theorem v_abs : bootBuiltins ("abs" : Str) = some (.builtin "abs") := by decide +kernel
theorem v_any : bootBuiltins ("any" : Str) = some (.builtin "any") := by decide +kernel
theorem v_all : bootBuiltins ("all" : Str) = some (.builtin "all") := by decide +kernel
theorem v_sum : bootBuiltins ("sum" : Str) = some (.builtin "sum") := by decide +kernel
theorem v_sorted : bootBuiltins ("sorted" : Str) = some (.builtin "sorted") := by decide +kernel
theorem v_int : bootBuiltins ("int" : Str) = some (.type "int") := by decide +kernel
theorem v_tuple : bootBuiltins ("tuple" : Str) = some (.type "tuple") := by decide +kernel
theorem v_list : bootBuiltins ("list" : Str) = some (.type "list") := by decide +kernel
theorem v_str : bootBuiltins ("str" : Str) = some (.type "str") := by decide +kernel
theorem k_len (hk : X.K = K := by rfl) : CallR X (.builtin "len") (rLenB K) := by subst hk; exact call_len2
theorem k_tup (hk : X.K = K := by rfl) : CallR X (.type "tuple") (rTupOf K) := by subst hk; exact call_tup'
theorem k_lst (hk : X.K = K := by rfl) : CallR X (.type "list") (rLstOf K) := by subst hk; exact call_lst'
theorem k_any (hk : X.K = K := by rfl) (hc : X.calm = true := by rfl) : CallR X (.builtin "any") (rAny K) := by subst hk; exact cr_any hc
theorem k_all (hk : X.K = K := by rfl) (hc : X.calm = true := by rfl) : CallR X (.builtin "all") (rAll K) := by subst hk; exact cr_all hc
theorem k_sum (hk : X.K = K := by rfl) (hc : X.calm = true := by rfl) : CallR X (.builtin "sum") (rSum K) := by subst hk; exact cr_sum hc
theorem k_max2 (hc : X.calm = true := by rfl) : CallR X (.builtin "max") rMax2 := call_max2' hc
theorem k_min2 (hc : X.calm = true := by rfl) : CallR X (.builtin "min") rMin2 := call_min2' hc
/-- a def of data -/
theorem de_call {CX : CXT} {k : Nat} {fa : Addr} {fd : FuncData} {ps : List Str} {g : List Dt → Option Dt} {E : XK} {x : Str} (F : FnOk X.prog X.w X.K X.mg X.base CX k fa fd ps (spD K g)) (hr : Room k X.A) (hm : X.mg x = some (.ref fa)) (hkp : PySem.W.keepIn X.K (.ref fa) = true) (hb : Binds X.K fd ps []) (hx : Passes CX X E)
    (ha : DF K X (e :: es) t r) (hg : Gl X x := by rfl) (hk : X.K = K := by rfl) (hdb : (x == ("__debug__" : Str)) = false := by decide) (he : starEach (e :: es) X.env = (false, eval e X.env) :: starEach es X.env := by rfl) (hpl : (backTo pos (starEach es X.env)).any (·.1) = false := by rfl) :
    DE K X (.Call (.Name x p) (e :: es) [] pos) (tCall (spD K g) [] E t) (eCB g r) := ⟨hk, pe_call F hr hg hm hkp hb .nil hx ha.pe hdb he hpl, se_call ha.so⟩
/-- d.get(k, x) -/
theorem de_get2 {i : Nat} {x : Str} {apos cpos : Pos} (hu : X.A.units + 1 < cLine) (hv : PE X (.Name x p) (tVar i)) (ha : DE K X a ta fa) (hb : DE K X b tb fb) (m : M2 X (.Name x p) "get" apos a b cpos := by exact ⟨rfl, rfl, rfl, rfl⟩) : DE K X (.Call (.Attribute (.Name x p) "get" apos) [a, b] [] cpos) (tDGet2 (tVar i) ta tb) (eGet2 i fa fb) := ⟨ha.hk, pe_dget2 hu hv ha.pe hb.pe m, se_get2 ha.so hb.so⟩

/-! ### what is walked, targets, comprehensions -/
variable {tg it : Expr} {wi : TI} {xs : En → Option (List Dt)} {is js : List Nat} {gg : TG} {gs : TGs} {h : Dt → En → Option En} {hs : List Dt → En → Option En}
theorem di_any (h : DE K X e te f) : DI K X tg e (iAny K te) (eIt f) := by
  have hk := h.hk
  subst hk
  exact ⟨pi_any h.pe, si_any h.so⟩
theorem di_rng1 {pp : Pos} (hm : X.mg "range" = none) (h : DA K X [e] t r) (hg : Gl X "range" := by rfl) (h2 : starEach [e] X.env = [(false, eval e X.env)] := by rfl) : DI K X tg (.Call (.Name "range" p) [e] [] pp) (iRng1 t) (rng1 r) := ⟨pi_range1 hg hm h.pe h2, si_rng1 h.so⟩
theorem di_rng2 {pp : Pos} (hm : X.mg "range" = none) (h : DA K X [a, b] t r) (hg : Gl X "range" := by rfl) (h2 : starEach [a, b] X.env = [(false, eval a X.env), (false, eval b X.env)] := by rfl) (h3 : starEach [b] X.env = [(false, eval b X.env)] := by rfl) : DI K X tg (.Call (.Name "range" p) [a, b] [] pp) (iRng2 t) (rng2 r) := ⟨pi_range2 hg hm h.pe h2 h3, si_rng2 h.so⟩
theorem di_enum {pp tp : Pos} {elts : List Expr} {kk} (hm : X.mg "enumerate" = none) (h : DF K X [e] t r) (hg : Gl X "enumerate" := by rfl) (h2 : starEach [e] X.env = [(false, eval e X.env)] := by rfl) (hk : X.K = K := by rfl) : DI K X (.Tuple elts kk tp) (.Call (.Name "enumerate" p) [e] [] pp) (iEnum K t) (itEnum r) := by
  subst hk
  exact ⟨pi_enum hg hm h.pe h2, si_enum h.so⟩
theorem di_zip {pp tp : Pos} {elts : List Expr} {kk} (hm : X.mg "zip" = none) (h : DF K X [a, b] t r) (hg : Gl X "zip" := by rfl) (h2 : starEach [a, b] X.env = (false, eval a X.env) :: starEach [b] X.env := by rfl) (hpl : (backTo pp (starEach [b] X.env)).any (·.1) = false := by rfl) (hk : X.K = K := by rfl) : DI K X (.Tuple elts kk tp) (.Call (.Name "zip" p) [a, b] [] pp) (iZip K t) (itZip r) := by
  subst hk
  exact ⟨pi_zip hg hm h.pe h2 hpl, si_zip h.so⟩
theorem dg_n {i : Nat} {x : Str} (h : PG X (.Name x pos) (gName i)) (hk : X.K = K := by rfl) : DG K X [i] (.Name x pos) (gName i) (hName i) := ⟨hk, h, sg_name i⟩
theorem dgs_nil (hk : X.K = K := by rfl) : DGs K X [] [] gNil hNil := ⟨hk, pgs_nil, sgs_nil⟩
theorem dgs_cons (h1 : DG K X is e gg h) (h2 : DGs K X js es gs hs) (hx : (assignEach (e :: es) X.env).map (·.2) = assign e X.env :: (assignEach es X.env).map (·.2) := by rfl) : DGs K X (is ++ js) (e :: es) (gCons gg gs) (hCons h hs) := ⟨h1.hk, pgs_cons h1.pe h2.pe hx, sgs_cons h1.so h2.so⟩
theorem dg_tup {kk} {m : Nat} (h : DGs K X is es gs hs) (hc : X.calm = true := by rfl) (hn : (assignEach es X.env).length = m := by rfl) (hst : (assignEach es X.env).findIdx? (·.1) = none := by rfl) : DG K X is (.Tuple es kk pos) (gTup K m gs) (hTup m hs) := by
  have hk := h.hk
  subst hk
  exact ⟨rfl, pg_tup hc h.pe hn hst, sg_tup h.so⟩
theorem dts_nil : DTs K X [] tYes (fun _ => some true) := ⟨pts_nil, fun H0 F H σ A b R e Q q => by cases e; exact q F H (Stp.refl R.sub)⟩
theorem dts_one (h : DT K X c tt b1) : DTs K X [c] tt b1 := ⟨pts_one h.pe, h.so⟩
abbrev blkOf (X : Cx) (scope : Scope) (s : Shared) (H : Hp) (C : Addr) (cl : List (Str × Addr)) (fp : List Addr) : Cx := X.blk s H scope (compEnvC scope cl C X.env) fp
theorem dn_lc {elt : Expr} {ifs : List Expr} {scope : Scope} {own : List (Str × Nat)} (hN : X.N.Nodup) (hi : DI K X tg it wi xs) (ok : BlkOk X.N X.env.scope scope own)
    (hg : ∀ s H C cl fp, DG K (blkOf X scope s H C cl fp) is tg gg h) (hiv : ∀ i ∈ is, i ∈ own.map (·.2)) (ht : ∀ s H C cl fp, DTs K (blkOf X scope s H C cl fp) ifs tt b1) (he : ∀ s H C cl fp, DE K (blkOf X scope s H C cl fp) elt te f) (hk : X.K = K := by rfl) (hc : X.calm = true := by rfl) (hs : ∀ x, foldedSetIterable it X.env x = pure x := by intro _; rfl) :
    DN K X (.ListComp elt [⟨tg, it, ifs, 0⟩] scope pos) (tLc wi gg tt te (own.map (·.2))) (nLc (own.map (·.2)) xs h b1 f) :=
  ⟨hk, pe_lc hc hN hi.pe ok (fun s H C cl fp => (hg s H C cl fp).pe) (fun s H C cl fp => (ht s H C cl fp).pe) (fun s H C cl fp => (he s H C cl fp).pe) hs, sn_lc hi.so (hg X.s_0 X.H_0 0 [] []).so hiv (ht X.s_0 X.H_0 0 [] []).so (he X.s_0 X.H_0 0 [] []).so⟩

/-! ### statements -/
variable {st : Stmt} {sts : List Stmt} {ts tv : TS} {s1 s2 : En → Option Out}
theorem dss_nil : DSs K X [] tNext sNext := ⟨pss_nil, ss_next⟩
theorem dss_cons (h1 : DS K X st ts s1) (h2 : DSs K X sts tv s2) : DSs K X (st :: sts) (tSeq ts tv) (sSeq s1 s2) := ⟨pss_cons h1.pe h2.pe, ss_seq h1.so h2.so⟩
theorem dss_one (h1 : DS K X st ts s1) : DSs K X [st] ts s1 := ⟨pss_one h1.pe, h1.so⟩
theorem ds_frz (is : List Nat) (h : DS K X st ts s1) : DS K X st ts (sFrz is s1) := ⟨h.pe, ss_frz is h.so⟩
theorem ds_pass : DS K X (.Pass pos) tNext sNext := ⟨ps_pass, ss_next⟩
theorem ds_break : DS K X (.Break pos) tBreak sBreak := ⟨ps_break, ss_break⟩
theorem ds_cont : DS K X (.Continue pos) tCont sCont := ⟨ps_continue, ss_cont⟩
theorem ds_ret (h : DE K X e te f) : DS K X (.Return (some e) pos) (tRet te) (sRet f) := ⟨ps_ret h.pe, ss_ret h.so⟩
theorem ds_retN : DS K X (.Return none pos) tRetN sRetN := ⟨ps_retN, ss_retN⟩
theorem ds_if (hc : DT K X c tt b1) (h1 : DSs K X sts ts s1) {sts2 : List Stmt} (h2 : DSs K X sts2 tv s2) : DS K X (.If c sts sts2 pos) (tIfS tt ts tv) (sIf b1 s1 s2) := ⟨ps_if hc.pe h1.pe h2.pe, ss_if hc.so h1.so h2.so⟩
theorem ds_expr (h : DE K X e te f) (hx : swapsWith e none pos.line X.env = pure false := by rfl) : DS K X (.Expr e pos) (tDrop te) (sDrop f) := ⟨ps_expr h.pe hx, ss_drop h.so⟩
theorem ds_set {i : Nat} {x : Str} {pos' : Pos} (hN : X.N.Nodup) (h : DE K X e te f) (hi : X.N[i]? = some x := by rfl) (hl : Loc X.env.scope x := by first | exact .inl rfl | exact .inr rfl) (hx : swapsWith e (some (.Name x pos')) pos.line X.env = pure false := by rfl) (hf : X.fn x = true ∨ X.env.scope.names.lookup x = some .local := by first | exact .inl rfl | exact .inr rfl) : DS K X (.Assign [.Name x pos'] e pos) (tAsg te (gName i)) (sSet i f) := ⟨ps_set hN hi hl h.pe hx hf, ss_set h.so⟩
theorem ds_setO {i : Nat} {x : Str} {pos' : Pos} (hN : X.N.Nodup) (h : DN K X e te n) (hi : X.N[i]? = some x := by rfl) (hl : Loc X.env.scope x := by first | exact .inl rfl | exact .inr rfl) (hx : swapsWith e (some (.Name x pos')) pos.line X.env = pure false := by rfl) (hf : X.fn x = true ∨ X.env.scope.names.lookup x = some .local := by first | exact .inl rfl | exact .inr rfl) : DS K X (.Assign [.Name x pos'] e pos) (tAsg te (gName i)) (sSetO i n) := ⟨ps_set hN hi hl h.pe hx hf, ss_setO h.so⟩
theorem ds_setK {i : Nat} {x : Str} {pos' pd : Pos} (hN : X.N.Nodup) (hi : X.N[i]? = some x := by rfl) (hl : Loc X.env.scope x := by first | exact .inl rfl | exact .inr rfl) (hx : swapsWith (.Dict [] [] pd) (some (.Name x pos')) pos.line X.env = pure false := by rfl) (hf : X.fn x = true ∨ X.env.scope.names.lookup x = some .local := by first | exact .inl rfl | exact .inr rfl) : DS K X (.Assign [.Name x pos'] (.Dict [] [] pd) pos) (tAsg tDNewK (gName i)) (sSetK0 i) := ⟨ps_set hN hi hl pe_dnewK hx hf, ss_setK0⟩
theorem ds_asg (h : DE K X e te f) (hg : DG K X is tg gg h') (hx : swapsWithSole [tg] e pos.line X.env = pure false := by rfl) (hw : swappedStores [tg] e X.env = pure none := by rfl) (h1 : (assignEach [tg] X.env).map (·.2) = [assign tg X.env] := by rfl) : DS K X (.Assign [tg] e pos) (tAsg te gg) (sAsg f h') := ⟨ps_asg h.pe hg.pe hx hw h1, ss_asg h.so hg.so⟩
/-- x = [..] on one line, x a local: data, or an own list -/
theorem ds_lc {y : Str} {i : Nat} {py spos : Pos} {elt : Expr} {ifs : List Expr} {scope : Scope} {own : List (Str × Nat)} (hN : X.N.Nodup) (hi : DI K X tg it wi xs) (ok : BlkOk X.N X.env.scope scope own)
    (hg : ∀ s H C cl fp, DG K (blkOf X scope s H C cl fp) is tg gg h) (hiv : ∀ i ∈ is, i ∈ own.map (·.2)) (ht : ∀ s H C cl fp, DTs K (blkOf X scope s H C cl fp) ifs tt b1) (he : ∀ s H C cl fp, DE K (blkOf X scope s H C cl fp) elt te f)
    (hsw : swapsWith (.ListComp elt [⟨tg, it, ifs, 0⟩] scope pos) (some (.Name y py)) spos.line X.env = pure true) (hy : X.N[i]? = some y := by rfl) (hyl : X.env.scope.names.lookup y = some .local := by rfl) (hc : X.calm = true := by rfl) (hs : ∀ x, foldedSetIterable it X.env x = pure x := by intro _; rfl) :
    DS K X (.Assign [.Name y py] (.ListComp elt [⟨tg, it, ifs, 0⟩] scope pos) spos) (tAsg (tLc wi gg tt te (own.map (·.2))) (gName i)) (sSet i (nE (nLc (own.map (·.2)) xs h b1 f))) :=
  ⟨ps_setLc hc hN hy hyl hsw hi.pe ok (fun s H C cl fp => (hg s H C cl fp).pe) (fun s H C cl fp => (ht s H C cl fp).pe) (fun s H C cl fp => (he s H C cl fp).pe) hs, ss_set (sn_lc hi.so (hg X.s_0 X.H_0 0 [] []).so hiv (ht X.s_0 X.H_0 0 [] []).so (he X.s_0 X.H_0 0 [] []).so).se⟩
theorem ds_lcO {y : Str} {i : Nat} {py spos : Pos} {elt : Expr} {ifs : List Expr} {scope : Scope} {own : List (Str × Nat)} (hN : X.N.Nodup) (hi : DI K X tg it wi xs) (ok : BlkOk X.N X.env.scope scope own)
    (hg : ∀ s H C cl fp, DG K (blkOf X scope s H C cl fp) is tg gg h) (hiv : ∀ i ∈ is, i ∈ own.map (·.2)) (ht : ∀ s H C cl fp, DTs K (blkOf X scope s H C cl fp) ifs tt b1) (he : ∀ s H C cl fp, DE K (blkOf X scope s H C cl fp) elt te f)
    (hsw : swapsWith (.ListComp elt [⟨tg, it, ifs, 0⟩] scope pos) (some (.Name y py)) spos.line X.env = pure true) (hy : X.N[i]? = some y := by rfl) (hyl : X.env.scope.names.lookup y = some .local := by rfl) (hc : X.calm = true := by rfl) (hs : ∀ x, foldedSetIterable it X.env x = pure x := by intro _; rfl) :
    DS K X (.Assign [.Name y py] (.ListComp elt [⟨tg, it, ifs, 0⟩] scope pos) spos) (tAsg (tLc wi gg tt te (own.map (·.2))) (gName i)) (sSetO i (nLc (own.map (·.2)) xs h b1 f)) :=
  ⟨ps_setLc hc hN hy hyl hsw hi.pe ok (fun s H C cl fp => (hg s H C cl fp).pe) (fun s H C cl fp => (ht s H C cl fp).pe) (fun s H C cl fp => (he s H C cl fp).pe) hs, ss_setO (sn_lc hi.so (hg X.s_0 X.H_0 0 [] []).so hiv (ht X.s_0 X.H_0 0 [] []).so (he X.s_0 X.H_0 0 [] []).so)⟩
theorem ds_dc {y : Str} {i : Nat} {py spos : Pos} {kx vx : Expr} {ifs : List Expr} {scope : Scope} {own : List (Str × Nat)} (hN : X.N.Nodup) (hi : DI K X tg it wi xs) (ok : BlkOk X.N X.env.scope scope own)
    (hg : ∀ s H C cl fp, DG K (blkOf X scope s H C cl fp) is tg gg h) (hiv : ∀ i ∈ is, i ∈ own.map (·.2)) (ht : ∀ s H C cl fp, DTs K (blkOf X scope s H C cl fp) ifs tt b1) (hkx : ∀ s H C cl fp, DE K (blkOf X scope s H C cl fp) kx ta fa) (he : ∀ s H C cl fp, DE K (blkOf X scope s H C cl fp) vx tb fb)
    (hsw : swapsWith (.DictComp kx vx [⟨tg, it, ifs, 0⟩] scope pos) (some (.Name y py)) spos.line X.env = pure true) (hy : X.N[i]? = some y := by rfl) (hyl : X.env.scope.names.lookup y = some .local := by rfl) (hc : X.calm = true := by rfl) (hs : ∀ x, foldedSetIterable it X.env x = pure x := by intro _; rfl) :
    DS K X (.Assign [.Name y py] (.DictComp kx vx [⟨tg, it, ifs, 0⟩] scope pos) spos) (tAsg (tDc wi gg tt ta tb (own.map (·.2))) (gName i)) (sSetDc i (kDc (own.map (·.2)) xs h b1 fa fb)) :=
  ⟨ps_setDc hc hN hy hyl hsw hi.pe ok (fun s H C cl fp => (hg s H C cl fp).pe) (fun s H C cl fp => (ht s H C cl fp).pe) (fun s H C cl fp => (hkx s H C cl fp).pe) (fun s H C cl fp => (he s H C cl fp).pe) hs, ss_setDc hi.so (hg X.s_0 X.H_0 0 [] []).so hiv (ht X.s_0 X.H_0 0 [] []).so (hkx X.s_0 X.H_0 0 [] []).so (he X.s_0 X.H_0 0 [] []).so⟩
theorem ds_app {i : Nat} {x : Str} {apos cpos : Pos} (hv : PE X (.Name x p) (tVar i)) (h : DE K X e te f)
    (hbase : attributeBase (.Name x p) "append" X.env (eval (.Name x p) X.env) = eval (.Name x p) X.env := by rfl)
    (hfew : ((backTo cpos (starEach [e] X.env)).all (fun x => !x.1) && (backToKw cpos (keywordEach [] X.env)).all (fun x => x.1.isSome) && decide (([e] : List Expr).length + ([] : List Keyword).length + (if ([] : List Keyword).isEmpty then 0 else 1) < 30)) = true := by rfl)
    (hline : (apos.endLine == cpos.line) = true := by rfl) (hs : starEach [e] X.env = (false, eval e X.env) :: starEach [] X.env := by rfl) (hplain : (backTo cpos (starEach [] X.env)).any (·.1) = false := by rfl) (hx : swapsWith (.Call (.Attribute (.Name x p) "append" apos) [e] [] cpos) none pos.line X.env = pure false := by rfl) :
    DS K X (.Expr (.Call (.Attribute (.Name x p) "append" apos) [e] [] cpos) pos) (tDrop (tBM K "list" rAppend (tVar i) (tCons te tNil))) (sApp i f) := by
  have hk := h.hk
  subst hk
  exact ⟨ps_expr (pe_bm PySem.F.plainAttrs_list PySem.F.slot_list_append PySem.F.type_list_append mt_append hv (pa_cons h.pe pa_nil hs) hbase hfew hline hs hplain) hx, ss_app h.so⟩
theorem ds_put {i : Nat} {x : Str} {pos' : Pos} (hu : X.A.units + 1 < cLine) (hv : PE X (.Name x p) (tVar i)) (hk : DE K X a ta fa) (hw : DE K X b tb fb) (hx : swapsWith b (some (.Subscript (.Name x p) a pos')) pos.line X.env = pure false := by rfl) : DS K X (.Assign [.Subscript (.Name x p) a pos'] b pos) (sDPut (tVar i) ta tb) (sPut i fa fb) := ⟨ps_dput hu hv hk.pe hw.pe hx, ss_put hk.so hw.so⟩
theorem ds_for (hi : DI K X tg it wi xs) (hg : DG K X is tg gg h) (hb : DSs K X sts ts s1) (hp : PassesOwn (model X.prog X.w) X.A X.env X.xe := by exact PassesOwn.never) (hc : X.calm = true := by rfl) (hs : ∀ x, foldedSetIterable it X.env x = pure x := by intro _; rfl) : DS K X (.For tg it sts [] pos) (tFor wi gg ts) (sFor xs h s1) := ⟨ps_for hp hc hi.pe hg.pe hb.pe hs, ss_for hi.so hg.so hb.so⟩
theorem ds_while (m : Nat) (hc : DT K X c tt b1) (hb : DSs K X sts ts s1) (hp : PassesOwn (model X.prog X.w) X.A X.env X.xe := by exact PassesOwn.never) : DS K X (.While c sts [] pos) (tWhile tt ts) (sWhile m b1 s1) := ⟨ps_while hp hc.pe hb.pe, ss_while hc.so hb.so⟩
end

/-! ### a def -/
def outD : Option Out → Option Dt
  | some (.rt d) => some d
  | some (.nx _) => some .none
  | _ => none
def semF (n m : Nat) (run : En → Option Out) : List Dt → Option Dt := fun ds => if ds.length = m then outD (run (ds.map Sl.d ++ List.replicate (n - m) Sl.no)) else none
section
variable {P : Program} {w : World} {K : PySem.W.Frag} {mg : Str → Option Value} {base : Heap}
theorem start_rl {H F : Hp} (sub : Same F H) (tb : TbOk F H) {N : List Str} {vs : List V} {ds : List Dt} (a : DpAll K F vs ds) : Rl K H F H (L2.start N vs) (ds.map Sl.d ++ List.replicate (N.length - ds.length) Sl.no) := by
  have hl := DpAll.len a
  refine ⟨sub, fun i x e => ?_, fun i j p hij oi oj => ?_, ?_, tb⟩
  · by_cases h : i < (ds.map Sl.d).length
    · rw [List.getElem?_append_left h, List.getElem?_map] at e
      obtain ⟨d, e1, rfl⟩ := map_eq_some e
      obtain ⟨v, e2, hd⟩ := DpAll.get a e1
      refine ⟨fun y q => ?_, fun _ q => (by cases q), fun _ q => (by cases q)⟩
      cases q
      refine ⟨v, ?_, hd⟩
      unfold L2.start
      rw [List.getElem?_append_left (by rw [List.length_map, hl]; rw [List.length_map] at h; exact h), List.getElem?_map, e2]
      rfl
    · rw [List.getElem?_append_right (by omega)] at e
      have e2 := (List.getElem?_eq_some_iff.mp e).2
      rw [List.getElem_replicate] at e2
      subst e2
      exact ⟨fun _ q => (by cases q), fun _ q => (by cases q), fun _ q => (by cases q)⟩
  · have no : ∀ i x, (ds.map Sl.d ++ List.replicate (N.length - ds.length) Sl.no)[i]? = some x → (∃ d, x = Sl.d d) ∨ x = Sl.no := fun i x e => by
      by_cases h : i < (ds.map Sl.d).length
      · rw [List.getElem?_append_left h, List.getElem?_map] at e
        obtain ⟨d, e1, rfl⟩ := map_eq_some e
        exact .inl ⟨d, rfl⟩
      · rw [List.getElem?_append_right (by omega)] at e
        have e2 := (List.getElem?_eq_some_iff.mp e).2
        rw [List.getElem_replicate] at e2
        exact .inr e2.symm
    obtain ⟨o1, _⟩ := oi
    rcases o1 with ⟨_, o1⟩ | ⟨_, o1⟩ <;> rcases no i _ o1 with ⟨_, z⟩ | z <;> cases z
  · unfold L2.start
    rw [List.length_append, List.length_append, List.length_map, List.length_map, List.length_replicate, List.length_replicate, hl]
theorem ok_def {x qual : Str} {st : Stmt} {f : Addr} {fd : FuncData} {N ps : List Str} {k : Nat} {ts : TS} {run : En → Option Out} (F : Fun K x qual st f fd) (S : FnScope N ps (defScope st))
    (body : ∀ (cdv : Value) (A : Around) (outer : List Env) (s : Shared) (H : Hp) (E : XK), Room k (A.deeper (envOfC qual (defScope st) s.heap.objs.size f cdv)) → DSs K (cxOf CX0 P w K mg base N qual (defScope st) f cdv A outer s H E).nox (defBody st) ts run) :
    FnOk P w K mg base CX0 (k + 1) f fd ps (spD K (semF N.length ps.length run)) := by
  refine F.ok S (fun vs H Q E h => ?_) (fun cdv A outer s H vs Q E hr h => ?_)
  · obtain ⟨F', ds, d, _, _, a, e, _⟩ := h
    unfold semF at e
    split at e
    · rename_i hl
      rw [DpAll.len a]; exact hl
    · cases e
  · obtain ⟨F', ds, d, sub, tb, a, e, q⟩ := h
    have B := body cdv A outer s H E hr
    refine ⟨ts, B.pe, ?_⟩
    unfold semF at e
    split at e
    case isFalse => cases e
    rename_i hl
    cases e1 : run (ds.map Sl.d ++ List.replicate (N.length - ps.length) Sl.no) with
    | none => rw [e1] at e; cases e
    | some o =>
      rw [e1] at e
      have R := start_rl (N := N) sub tb a
      rw [hl] at R
      refine B.so F' H F' H (L2.start N vs) _ o _ ⟨Same.refl _, SameT.refl _, fun _ h _ => h, fun h => h⟩ R e1 ?_
      cases o with
      | rt d' =>
        cases e
        exact fun F2 H2 v E2 s2 b2 => q F2 H2 v ⟨E2.ff, E2.hh, s2, E2.fr, E2.ft⟩ b2
      | nx A' =>
        cases e
        exact fun F2 H2 σ2 E2 R2 => q F2 H2 .non ⟨E2.ff, E2.hh, R2.sub, E2.fr, E2.ft⟩ .non
      | bk _ => cases e
      | ct _ => cases e
end
end Dv

namespace Dv
open PySem PySem.Spec PyProof.Rows PySem.W PySem.SeqAt
open L2 hiding Dp DpAll
open LamX (TabS CodeO Tabs ExtN)
variable [Tb]

/-! ### sorted(..): the items compared from the left as far as they differ -/
def prefOk : List Dt → List Dt → Bool
  | x :: xs, y :: ys => alike x y && (!PyData.eqv x y || prefOk xs ys)
  | _, _ => true
def noTup : Dt → Bool
  | .tuple _ => false
  | _ => true
def tupOk : Dt → Dt → Bool
  | .tuple (x :: xs), .tuple (y :: ys) => noTup x && alike x y && prefOk (x :: xs) (y :: ys)
  | _, _ => false
def sclOk : Dt → Dt → Bool
  | .int _, .int _ => true
  | .str _, .str _ => true
  | _, _ => false
def sortOk (ds : List Dt) : Bool := (ds.all fun d => d.canLay0 && decide (d.depth ≤ 60)) && ((ds.all fun d => ds.all fun e => tupOk d e) || (ds.all fun d => ds.all fun e => sclOk d e))
noncomputable def sortD (ds : List Dt) : List Dt := ds.mergeSort (dataLe false id)

section
variable {prog : Program} {w : World} {A : Around} {s : Shared} {E : Value → Shared → Prop}
theorem katLex_pref {b fin : Bool} {Q : Bool → Shared → Prop} : ∀ (xs ys : List PyData) (i : Nat) (vs ws : List Value) (as bs : List Addr), ReadsAll s.heap vs xs as → ReadsAll s.heap ws ys bs → prefOk xs ys = true →
    A.units + min (PyData.depthAll xs) (PyData.depthAll ys) < cLine → (b = true → i = 0 → ∀ x r t, xs = x :: r → x ≠ .tuple t) → fin = decide (xs.length < ys.length) → Q (PyProof.Rows.lexLt itemOrd (keyToksAll xs) (keyToksAll ys)) s → KatLex prog w A b fin Q (vs.zip ws) i s
  | [], [], i, _, _, _, _, ra, rb, _, _, _, hf, hq => by
    cases ra
    cases rb
    have e : fin = false := by rw [hf]; rfl
    subst e
    rw [lex_irrefl] at hq
    exact kat_nil hq
  | [], y :: ys, i, _, _, _, _, ra, rb, _, _, _, hf, hq => by
    cases ra
    have e : fin = true := by rw [hf]; exact decide_eq_true (Nat.succ_pos _)
    subst e
    rw [toks_all_cons] at hq
    simp only [keyToksAll] at hq
    rw [lex_diff (O := itemOrd) (by simp)] at hq
    rw [List.zip_nil_left]
    exact kat_nil (by simpa [itemLt] using hq)
  | x :: xs, [], i, _, _, _, _, ra, rb, _, _, _, hf, hq => by
    cases rb
    have e : fin = false := by rw [hf]; exact decide_eq_false (Nat.not_lt_zero _)
    subst e
    rw [toks_all_cons] at hq
    simp only [keyToksAll] at hq
    rw [lex_diff (O := itemOrd) (by simp)] at hq
    rw [List.zip_nil_right]
    exact kat_nil (by simpa [itemLt] using hq)
  | x :: xs, y :: ys, i, _, _, _, _, ra, rb, h, hu, hb, hf, hq => by
    unfold prefOk at h
    rw [Bool.and_eq_true] at h
    obtain ⟨h1, h2⟩ := h
    have hf' : fin = decide (xs.length < ys.length) := by
      rw [hf]
      simp only [List.length_cons, Nat.add_lt_add_iff_right]
    cases ra with
    | cons r rs =>
      cases rb with
      | cons r' rs' =>
        rw [List.zip_cons_cons]
        refine kat_cons (eqAt_alike x y A s _ _ _ _ r r' h1 (room_head hu) prog w _ _ ?_)
        cases hx : PyData.eqv x y with
        | true =>
          rw [hx] at h2
          rw [dataLt_all_yes h1 hx] at hq
          exact kat_yes (katLex_pref xs ys (i + 1) _ _ _ _ rs rs' (by simpa using h2) (room_tail hu) (fun _ hi => absurd hi (Nat.succ_ne_zero i)) hf' hq)
        | false =>
          rw [dataLt_all_no h1 hx] at hq
          refine kat_no (oneLt_alike (fun hbi t => ?_) r r' h1 (ne_none_of h1 hx) (room_head hu) hq)
          rw [Bool.and_eq_true] at hbi
          exact hb hbi.1 (by simpa using hbi.2) x xs t rfl
theorem dataKind_lay {h : Heap} {ds : List PyData} (hal : ∀ d ∈ ds, d.canLay0 = true) {v : Value} {d : PyData} {as : List Addr} (hd : d ∈ ds) (r : Reads h v d as) : (dataKind h ds).keyOf v = some (keyToks d) := by
  have q : ∃ d, d ∈ ds ∧ ∃ as, Reads h v d as := ⟨d, hd, as, r⟩
  have e : (dataKind h ds).keyOf v = some (keyToks q.choose) := by
    show (open Classical in if q : ∃ d, d ∈ ds ∧ ∃ as, Reads h v d as then some (keyToks q.choose) else none) = _
    rw [dif_pos q]
  obtain ⟨h1, as', h2⟩ := q.choose_spec
  rw [e, (Reads.unique _ _ _ _ _ (hal _ h1) h2 r)]
theorem tupOk_dest {d e : Dt} (h : tupOk d e = true) : ∃ x xs y ys, d = .tuple (x :: xs) ∧ e = .tuple (y :: ys) ∧ noTup x = true ∧ alike x y = true ∧ prefOk (x :: xs) (y :: ys) = true := by
  unfold tupOk at h
  split at h
  · rename_i x xs y ys
    rw [Bool.and_eq_true, Bool.and_eq_true] at h
    exact ⟨x, xs, y, ys, rfl, rfl, h.1.1, h.1.2, h.2⟩
  · cases h
theorem SortsAt.pref {vs : List Value} {ds : List PyData} (e : EachIs (fun v d => ∃ as, Reads s.heap v d as) vs ds) (hl : ∀ d ∈ ds, d.canLay0 = true) (hk : ∀ d ∈ ds, ∀ e ∈ ds, tupOk d e = true) (hu : ∀ d, d ∈ ds → A.units + d.depth < cLine) : SortsAt prog w A s (dataKind s.heap ds) vs := by
  have room : ∀ {d d' : PyData}, d ∈ ds → A.units + min d.depth d'.depth < cLine := fun {d d'} hd => Nat.lt_of_le_of_lt (Nat.add_le_add_left (Nat.min_le_left _ _) _) (hu d hd)
  have ht : ∀ d, d ∈ ds → ∃ x r, d = .tuple (x :: r) := fun d hd => by
    obtain ⟨x, xs, _, _, rfl, _⟩ := tupOk_dest (hk d hd d hd)
    exact ⟨x, xs, rfl⟩
  refine ⟨fun v hv => ?_, ?_⟩
  · obtain ⟨d, hd, as, r⟩ := e.left v hv
    exact ⟨_, dataKind_lay hl hd r⟩
  · cases ds with
    | nil =>
      cases e
      exact ⟨general', fun E x y a b Q ha _ _ => (by
        obtain ⟨d, _, hd, _⟩ := dataKind_inv ha
        exact absurd hd (by simp)), fun h2 => absurd h2 (by simp)⟩
    | cons d₀ ds₀ =>
      obtain ⟨x₀, r₀, e₀⟩ := ht d₀ (List.mem_cons_self ..)
      have hfirst : ∀ x r, PyData.tuple (x :: r) ∈ d₀ :: ds₀ → alike x x₀ = true ∧ noTup x = true := by
        intro x r hm
        obtain ⟨x', xs, y, ys, q1, q2, q3, q4, q5⟩ := tupOk_dest (hk _ hm d₀ (List.mem_cons_self ..))
        cases q1
        rw [e₀] at q2
        cases q2
        exact ⟨q4, q3⟩
      have nt : ∀ {x : Dt}, noTup x = true → ∀ t, x ≠ .tuple t := fun {x} h t e => by
        subst e
        cases h
      refine ⟨tuples' (dataType x₀ != Value.type "tuple"), ?_, fun h2 E Q hq => ?_⟩
      · intro E x y a b Q ha hb hq
        obtain ⟨d, as, hd, ra, rfl⟩ := dataKind_inv ha
        obtain ⟨d', as', hd', rb, rfl⟩ := dataKind_inv hb
        have hroom := room (d' := d') hd
        obtain ⟨x1, r1, x2, r2, rfl, rfl, q3, q4, q5⟩ := tupOk_dest (hk d hd d' hd')
        have hq' : Q (dataLt (.tuple (x1 :: r1)) (.tuple (x2 :: r2))) s := hq
        rw [dataLt_tuple] at hq'
        cases ra with
        | @tuple l o xs n _ _ h1 h2 h3 h4 =>
          cases rb with
          | @tuple l' o' xs' n' _ _ k1 k2 k3 k4 =>
            have n1 : xs.size = (x1 :: r1).length := by simpa using SeqAt.ReadsAll.length _ _ _ h4
            have n2 : xs'.size = (x2 :: r2).length := by simpa using SeqAt.ReadsAll.length _ _ _ k4
            refine kat_lt h1 h3 k1 k3 (katLex_pref (x1 :: r1) (x2 :: r2) 0 _ _ _ _ h4 k4 q5 (by have q := SeqAt.room_in hroom; omega) (fun hb _ x r t ex => ?_) (by rw [n1, n2]) hq')
            obtain ⟨rfl, rfl⟩ := List.cons.inj ex
            exact nt q3 t
      · obtain ⟨fs, t1, t2, t3⟩ := each_katTups e ht
        refine kat_kind (T := dataType x₀) t1 (by omega) (fun f hf => ?_) (beq_self_eq_true _) hq
        obtain ⟨x, r, as, m1, m2⟩ := t3 f hf
        rw [← dataType_alike (hfirst x r m1).1]
        exact looks_reads m2
theorem scl_alike {ds : List Dt} (h : ∀ d ∈ ds, ∀ e ∈ ds, sclOk d e = true) : AllAlike ds ∧ Sortable ds := by
  refine ⟨fun d hd e he => ?_, .inr fun d hd => ?_⟩
  · have := h d hd e he
    unfold sclOk at this
    split at this <;> first | rfl | cases this
  · have := h d hd d hd
    cases d <;> first | (cases this; done) | exact ⟨nofun, nofun⟩
end

/-! ### as a rule -/
theorem vals_each {K : PySem.W.Frag} {F : Hp} : ∀ {xs : List V} {us : List Value} {ds : List Dt}, Vals xs us → DpAll K F xs ds → EachIs (fun u d => ∃ x, RelV x u ∧ Dp K F x d) us ds
  | _, _, _, .nil, .nil => .nil
  | _, _, _, .cons r t, .cons h t' => .cons ⟨_, r, h⟩ (vals_each t t')
theorem each_vals {K : PySem.W.Frag} {F : Hp} : ∀ {us : List Value} {ds : List Dt}, EachIs (fun u d => ∃ x, RelV x u ∧ Dp K F x d) us ds → ∃ xs, Vals xs us ∧ DpAll K F xs ds
  | _, _, .nil => ⟨[], .nil, .nil⟩
  | _, _, .cons ⟨x, r, h⟩ t => by
    obtain ⟨xs, h1, h2⟩ := each_vals t
    exact ⟨x :: xs, .cons r h1, .cons h h2⟩
def rSortedD (K : PySem.W.Frag) : List V → Hp → VK → Prop := fun vs H Q => ∃ (a : Addr) (F : Hp) (xs : List V) (ds : List Dt), vs = [.ref a] ∧ SqL K H a xs ∧ Same F H ∧ DpAll K F xs ds ∧ sortOk ds = true ∧ ∀ ys p, DpAll K F ys (sortD ds) → H p = none → Q (.ref p) (upd H p (.lst ys))
theorem cr_sortedD {X : Cx} (hu : X.A.units + 64 < cLine) : CallR X (.builtin "sorted") (rSortedD X.K) := by
  intro pins s σ H vs us Q I r h
  obtain ⟨a, F, xs, ds, rfl, hs, sub, da, ok, q⟩ := h
  obtain ⟨its, rv, hl, hz⟩ := I.list hs
  obtain ⟨u, rfl, ru⟩ := vals1 r
  obtain rfl : u = Value.ref a := ru
  have hlen : its.length = xs.length := rv.length.symm
  unfold sortOk at ok
  rw [Bool.and_eq_true] at ok
  obtain ⟨ok1, ok2⟩ := ok
  have lay : ∀ d ∈ ds, d.canLay0 = true ∧ d.depth ≤ 60 := fun d hd => by
    have := List.all_eq_true.mp ok1 d hd
    rw [Bool.and_eq_true] at this
    exact ⟨this.1, of_decide_eq_true this.2⟩
  have R0 := vals_each rv da
  have e2 : ∀ h2 : Heap, (∀ b o, s.heap.get? b = some o → h2.get? b = some o) → EachIs (fun v d => ∃ as, Reads h2 v d as) its ds := fun h2 k2 => R0.mono fun u d ⟨x, r, h⟩ => by
    obtain ⟨as, q⟩ := L2.Dp.reads I d x u (dp_same sub h).old r
    exact ⟨as, PyProof.Rows.Reads.keeps k2 q⟩
  have hu2 : ∀ d, d ∈ ds → X.A.in1.in1.units + d.depth < cLine := fun d hd => by
    have := (lay d hd).2
    show X.A.units + 1 + 1 + d.depth < cLine
    omega
  have S : SortsAt X.prog X.w X.A.in1.in1 { s with heap := sortingHeap (copyHeap s.heap its) (s.heap.objs.size + 1) its } (dataKind (sortingHeap (copyHeap s.heap its) (s.heap.objs.size + 1) its) ds) its := by
    have e3 := e2 (sortingHeap (copyHeap s.heap its) (s.heap.objs.size + 1) its) fun _ _ => sorting_copy_old
    rw [Bool.or_eq_true] at ok2
    rcases ok2 with ok2 | ok2
    · exact SortsAt.pref (s := { s with heap := sortingHeap (copyHeap s.heap its) (s.heap.objs.size + 1) its }) e3 (fun d hd => (lay d hd).1) (fun d hd e he => List.all_eq_true.mp (List.all_eq_true.mp ok2 d hd) e he) hu2
    · obtain ⟨z1, z2⟩ := scl_alike fun d hd e he => List.all_eq_true.mp (List.all_eq_true.mp ok2 d hd) e he
      exact SortsAt.data (s := { s with heap := sortingHeap (copyHeap s.heap its) (s.heap.objs.size + 1) its }) e3 z1 z2 hu2
  refine sorted_vals hl.isList S (by rw [hlen]; exact hz) ?_
  have e3 := e2 (sortingHeap (copyHeap s.heap its) (s.heap.objs.size + 1) its) fun _ _ => sorting_copy_old
  have ek : EachIs (fun v d => (dataKind (sortingHeap (copyHeap s.heap its) (s.heap.objs.size + 1) its) ds).keyOf v = some (keyToks (id d))) its ds := (each_mem e3).mono fun _ _ ⟨⟨_, r⟩, hd⟩ => dataKind_lay (fun d hd => (lay d hd).1) hd r
  have out := sortVals_each (κ := dataKind (sortingHeap (copyHeap s.heap its) (s.heap.objs.size + 1) its) ds) (rev := false) (fun d => keyToks (id d)) R0 ek
  obtain ⟨ys, v1, v2⟩ := each_vals out
  obtain ⟨ep, he'⟩ := PyProof.Rows.sortedAll_at s.heap its (sortVals (dataKind (sortingHeap (copyHeap s.heap its) (s.heap.objs.size + 1) its) ds) false its its).toArray
  have hly : ys.length ≤ sizeLine := by rw [v1.length, sortVals_length false rfl, hlen]; exact hz
  refine ⟨.ref _, upd H (s.heap.objs.size + 1) (.lst ys), I.laid (t' := s.toks) (fun _ _ => PyProof.Rows.sortedAll_old) (Nat.le_succ _) ⟨hly, _, ep, v1, he'⟩, rfl, q ys _ v2 (I.hok.fresh (Nat.le_succ _))⟩
noncomputable def srtN : List Dt → Option (List Dt)
  | [.list xs] => if sortOk xs = true then some (sortD xs) else none
  | [.tuple _] => none
  | _ => none
theorem cn_sorted {K : PySem.W.Frag} : CN K (rSortedD K) srtN := fun F H xs ds d sub h e Q q => by
  unfold srtN at e
  split at e
  · obtain ⟨ok, rfl⟩ := ite_some e
    obtain ⟨v, rfl, b⟩ := prd1 h
    obtain ⟨p, vs, rfl, r, a⟩ := b.list sub
    exact ⟨p, F, vs, _, rfl, rdL r, sub, a, ok, fun ys l dy nl => q F _ l ys ((stp0 sub).newO nl) (freeT_n nl) (sub.free nl) upd_same dy⟩
  · cases e
  · cases e
theorem k_sorted {K : PySem.W.Frag} {X : Cx} (hu : X.A.units + 64 < cLine) (hk : X.K = K := by rfl) : CallR X (.builtin "sorted") (rSortedD K) := by subst hk; exact cr_sortedD hu
end Dv

namespace Dv
open PySem PySem.Spec PyProof.Rows
open L2 hiding Dp DpAll
open LamX (TabS CodeO Tabs ExtN)
variable [Tb]
/-! ### a slice of a list, a text or a tuple -/
def rSl3 (K : PySem.W.Frag) : V → Option Int → Option Int → Hp → VK → Prop := fun x lo hi H Q => rSlL K x lo hi H Q ∨ (rSlS x lo hi H Q ∨ rSlA K x lo hi H Q)
theorem sl_3 {X : Cx} : L2.SlR X (rSl3 X.K) := L2.SlR.or sl_list (L2.SlR.or sl_str sl_tupA)
def slD (x : Dt) (lo hi : Option Int) : Option Dt := match x with
  | .list xs => some (.list (cutD xs lo hi))
  | .str z => if z.length ≤ sizeLine then some (.str (cutS z lo hi)) else none
  | .tuple xs => some (.tuple (cutD xs lo hi))
  | _ => none
def eSl (fa : En → Option Dt) (l u : En → Option (Option Int)) : En → Option Dt := fun A => (fa A).bind fun x => (l A).bind fun lo => (u A).bind fun hi => slD x lo hi
section
variable {K : PySem.W.Frag} {X : Cx} {a : Expr} {ta : TE} {fa : En → Option Dt} {lo hi : Option Expr} {tl th : TO} {l u : En → Option (Option Int)} {pos p2 : Pos}
theorem se_sl (ha : SB K ta fa) (hl : SO K tl l) (hu : SO K th u) : SE K (tSl (rSl3 K) ta tl th) (eSl fa l u) := fun H0 F H σ A d R e Q q => by
  obtain ⟨x, e1, e⟩ := bind_eq_some e
  obtain ⟨lo, e2, e⟩ := bind_eq_some e
  obtain ⟨hi, e3, e⟩ := bind_eq_some e
  refine ha H0 F H σ A _ R e1 _ fun F1 H1 v s1 b1 => ?_
  refine hl H0 F1 H1 σ A lo (R.step s1) e2 _ fun F2 H2 s2 => ?_
  refine hu H0 F2 H2 σ A hi ((R.step s1).step s2) e3 _ fun F3 H3 s3 => ?_
  have st := s1.trans (s2.trans s3)
  unfold slD at e
  split at e
  · cases e
    obtain ⟨p, vs, rfl, rd, ad⟩ := ((b1.step s2).step s3).list st.sub
    refine .inl ⟨p, vs, rfl, rd, fun l hl => q (upd F3 l (.lst (cutV vs lo hi))) _ _ (st.new hl) (.lst (SqL.of upd_same) (dpAll_same (same_upd (st.sub.free hl)) ?_))⟩
    have e := DpAll.len ad
    unfold cutV cutD
    rw [e]
    exact DpAll.take _ (DpAll.drop _ ad)
  · obtain ⟨hz, rfl⟩ := ite_some e
    exact .inr (.inl ⟨_, Bor.str b1, hz, q F3 H3 _ st (.str _)⟩)
  · cases e
    have b3 := (b1.step s2).step s3
    have d3 := b3.tupD
    obtain ⟨p, vs, rfl, rd, ad⟩ := b3.tuple st.sub
    have hl := DpAll.len ad
    refine .inr (.inr ⟨p, vs, rfl, rd, fun hw => ?_, fun _ l nl => ?_⟩)
    · have ec : ∀ zs : List Dt, vs.length = zs.length → cutD zs lo hi = zs := fun zs e => by
        unfold cutD
        rw [← e, hw.1, hw.2, List.drop_zero, Nat.sub_zero, e, List.take_length]
      rw [ec _ hl] at q
      exact q F3 H3 _ st d3
    · refine q (upd F3 l (.tup (cutV vs lo hi))) _ _ (st.new nl) (.tup (SqT.of upd_same) (dpAll_same (same_upd (st.sub.free nl)) ?_))
      unfold cutV cutD
      rw [hl]
      exact DpAll.take _ (DpAll.drop _ ad)
  · cases e
theorem de_sl (ha : DB K X a ta fa) (hl : DO K X lo tl l) (hh : DO K X hi th u) : DE K X (.Subscript a (.Slice lo hi none p2) pos) (tSl (rSl3 K) ta tl th) (eSl fa l u) := by
  have hk := ha.hk
  subst hk
  exact ⟨rfl, pe_slice sl_3 ha.pe hl.pe hh.pe, se_sl ha.so hl.so hh.so⟩
end
end Dv

namespace Dv
open PySem PySem.Spec PyProof.Rows
open L2 hiding Dp DpAll
open LamX (TabS CodeO Tabs ExtN)
variable [Tb]
/-! ### what the parts come to, as equations -/
theorem semF_eq {n m : Nat} {run : En → Option Out} {ds : List Dt} (h : ds.length = m) : semF n m run ds = outD (run (ds.map Sl.d ++ List.replicate (n - m) Sl.no)) := if_pos h
theorem sSeq_nx {f g : En → Option Out} {A A' : En} (h : f A = some (.nx A')) : sSeq f g A = g A' := by
  show (f A).bind _ = _
  rw [h]; rfl
theorem sSeq_rt {f g : En → Option Out} {A : En} {d : Dt} (h : f A = some (.rt d)) : sSeq f g A = some (.rt d) := by
  show (f A).bind _ = _
  rw [h]; rfl
theorem sIf_t {c : En → Option Bool} {f g : En → Option Out} {A : En} (h : c A = some true) : sIf c f g A = f A := by
  show (c A).bind _ = _
  rw [h]; rfl
theorem sIf_f {c : En → Option Bool} {f g : En → Option Out} {A : En} (h : c A = some false) : sIf c f g A = g A := by
  show (c A).bind _ = _
  rw [h]; rfl
/-- a loop by its invariant: it goes on to the end, or hands back what is P -/
theorem forD_inv {g : Dt → En → Option En} {body : En → Option Out} (Inv : Nat → En → Prop) (P : Dt → Prop) : ∀ (xs : List Dt) (k : Nat) (A : En), Inv k A →
    (∀ i x A, xs[i]? = some x → Inv (k + i) A → ∃ A1, g x A = some A1 ∧ ((∃ A2, (body A1 = some (.nx A2) ∨ body A1 = some (.ct A2)) ∧ Inv (k + i + 1) A2) ∨ ∃ d, body A1 = some (.rt d) ∧ P d)) →
    (∃ A', forD g body xs A = some (.nx A') ∧ Inv (k + xs.length) A') ∨ ∃ d, forD g body xs A = some (.rt d) ∧ P d
  | [], k, A, h, _ => .inl ⟨A, rfl, h⟩
  | x :: xs, k, A, h, st => by
    obtain ⟨A1, e1, q⟩ := st 0 x A rfl h
    rcases q with ⟨A2, e2, h2⟩ | ⟨d, e2, hd⟩
    · have ih := forD_inv Inv P xs (k + 1) A2 h2 fun i y B hy hB => by
        have hB' : Inv (k + (i + 1)) B := by rw [show k + (i + 1) = k + 1 + i by omega]; exact hB
        have z := st (i + 1) y B hy hB'
        rw [show k + (i + 1) + 1 = k + 1 + i + 1 by omega] at z
        exact z
      have e : forD g body (x :: xs) A = forD g body xs A2 := by
        show (g x A).bind _ = _
        rw [e1]
        show (body A1).bind _ = _
        rcases e2 with e2 | e2 <;> (rw [e2]; rfl)
      rw [e, show k + (x :: xs).length = k + 1 + xs.length by rw [List.length_cons]; omega]
      exact ih
    · refine .inr ⟨d, ?_, hd⟩
      show (g x A).bind _ = _
      rw [e1]
      show (body A1).bind _ = _
      rw [e2]; rfl
/-- a loop that hands back nothing -/
theorem forD_run {g : Dt → En → Option En} {body : En → Option Out} (Inv : Nat → En → Prop) (xs : List Dt) (A : En) (h : Inv 0 A)
    (st : ∀ i x A, xs[i]? = some x → Inv i A → ∃ A1 A2, g x A = some A1 ∧ body A1 = some (.nx A2) ∧ Inv (i + 1) A2) : ∃ A', forD g body xs A = some (.nx A') ∧ Inv xs.length A' := by
  rcases forD_inv Inv (fun _ => False) xs 0 A h (fun i x A hx hA => by
    rw [Nat.zero_add] at hA ⊢
    obtain ⟨A1, A2, e1, e2, h2⟩ := st i x A hx hA
    exact ⟨A1, e1, .inl ⟨A2, .inl e2, h2⟩⟩) with ⟨A', e, q⟩ | ⟨_, _, z⟩
  · rw [Nat.zero_add] at q; exact ⟨A', e, q⟩
  · exact z.elim
theorem sFor_eq {it : En → Option (List Dt)} {g : Dt → En → Option En} {body : En → Option Out} {A : En} {xs : List Dt} (h : it A = some xs) : sFor it g body A = forD g body xs A := by
  show (it A).bind _ = _
  rw [h]; rfl
theorem rngD_get {lo : Int} {n i : Nat} {x : Dt} (h : (rngD lo n)[i]? = some x) : i < n ∧ x = .int (lo + i) := by
  unfold rngD at h
  rw [List.getElem?_map] at h
  obtain ⟨c, hc, rfl⟩ := map_eq_some h
  have hi : i < n := by
    have := (List.getElem?_eq_some_iff.mp hc).1
    rw [List.length_range] at this; exact this
  rw [List.getElem?_range hi] at hc
  exact ⟨hi, by rw [← Option.some.inj hc]⟩
theorem rngD_len {lo : Int} {n : Nat} : (rngD lo n).length = n := by
  unfold rngD
  rw [List.length_map, List.length_range]
theorem atI_map {α β : Type} {f : α → β} {xs : List α} {j : Nat} {v : α} (h : xs[j]? = some v) : atI (xs.map f) (j : Int) = some (f v) := atI_nat (by rw [List.getElem?_map, h]; rfl)
end Dv
namespace Dv
open PySem PySem.Spec PyProof.Rows
open L2 hiding Dp DpAll
open LamX (TabS CodeO Tabs ExtN)
variable [Tb]
theorem rng1_in {r : En → Option (List Dt)} {A : En} {n : Int} (h : r A = some [.int n]) (hn : -(2 ^ 62) ≤ n ∧ n < 2 ^ 62) : rng1 r A = some (rngD 0 n.toNat) := by
  unfold rng1
  simp only [h, Option.bind_some]
  rw [if_pos hn]
theorem nat_62 {n : Nat} (hn : n < 1099511627776) : -(2 ^ 62) ≤ (n : Int) ∧ (n : Int) < 2 ^ 62 := ⟨by omega, by omega⟩
theorem rng1_eq {r : En → Option (List Dt)} {A : En} {n : Nat} (h : r A = some [.int (n : Int)]) (hn : n < 1099511627776) : rng1 r A = some (rngD 0 n) :=
  rng1_in (n := (n : Int)) h (nat_62 hn)
theorem rng1_int {r : En → Option (List Dt)} {A : En} {i : Int} (h : r A = some [.int i]) (h0 : 0 ≤ i) (hn : i < 1099511627776) : rng1 r A = some (rngD 0 i.toNat) :=
  rng1_in h ⟨by omega, by omega⟩
end Dv

namespace Dv
open PySem PySem.Spec PyProof.Rows
open L2 hiding Dp DpAll
open LamX (TabS CodeO Tabs ExtN)
variable [Tb]

/-! ### statements that may raise -/
/-- an end, or an exception of the class c with its fields -/
inductive OutX where
  | ok (o : Out) | ex (A : En) (c : Str) (fs : List (Str × Dt))
/-- at d: the fields of an exception -/
def XdIs (K : PySem.W.Frag) (F H : Hp) (d : Addr) (fs : List (Str × Dt)) : Prop := ∃ xs : List (Str × V), H d = some (.xd xs) ∧ ∀ f x, fs.lookup f = some x → ∃ v, xs.lookup f = some v ∧ Dp K F v x
theorem XdIs.step {K : PySem.W.Frag} {F H F' H' : Hp} {d : Addr} {fs : List (Str × Dt)} (h : XdIs K F H d fs) (s : Stp F H F' H') : XdIs K F' H' d fs := by
  obtain ⟨xs, h1, h2⟩ := h
  refine ⟨xs, s.hh.x h1, fun f x e => ?_⟩
  obtain ⟨v, e1, e2⟩ := h2 f x e
  exact ⟨v, e1, dp_same s.ff e2⟩
section
variable (K : PySem.W.Frag) (cv : Str → Value)
def GoodX (W : WX) (F0 H0 : Hp) (D : Ends) : OutX → Prop
  | .ok o => Good K F0 H0 D o
  | .ex A c fs => ∀ F H σ d, Ent F0 H0 F H → Rl K H0 F H σ A → XdIs K F H d fs → W (cv c) (some d) σ H
def SX (ts : WX → TS) (f : En → Option OutX) : Prop := ∀ W F0 H0 F H σ A o D, Ent F0 H0 F H → Rl K H0 F H σ A → f A = some o → GoodX K cv W F0 H0 D o → ts W D σ H
variable (X : Cx)
structure DX (st : Stmt) (ts : WX → TS) (f : En → Option OutX) : Prop where
  pe : ∀ W, Takes X W → PassesOwn (model X.prog X.w) X.A X.env X.xe → PS X st (ts W)
  so : SX K cv ts f
structure DXs (st : List Stmt) (ts : WX → TS) (f : En → Option OutX) : Prop where
  pe : ∀ W, Takes X W → PassesOwn (model X.prog X.w) X.A X.env X.xe → PSs X st (ts W)
  so : SX K cv ts f
end
section
variable {K : PySem.W.Frag} {cv : Str → Value} {X : Cx} {st : Stmt} {sts : List Stmt} {ts us : WX → TS} {t : TS} {f g : En → Option OutX} {f0 : En → Option Out}
theorem ps_nox (h : PS X.nox st t) : PS X st t := ⟨fun pins s σ H D I hw =>
  wpAny_mono (h.run pins s σ H D (I.wish _) hw) (fun _ _ q => q.unwish) fun _ _ z => False.elim z⟩
def liftX (f : En → Option Out) : En → Option OutX := fun A => (f A).map .ok
theorem sx_lift (h : SS K t f0) : SX K cv (fun _ => t) (liftX f0) := fun W F0 H0 F H σ A o D E R e G => by
  obtain ⟨o1, e1, rfl⟩ := map_eq_some e
  exact h F0 H0 F H σ A o1 D E R e1 G
theorem dx_lift (h : DS K X.nox st t f0) : DX K cv X st (fun _ => t) (liftX f0) := ⟨fun _ _ _ => ps_nox h.pe, sx_lift h.so⟩
def xSeq (f g : En → Option OutX) : En → Option OutX := fun A => (f A).bind fun o => match o with
  | .ok (.nx A') => g A'
  | .ok (.rt d) => some (.ok (.rt d))
  | .ok (.bk A') => some (.ok (.bk A'))
  | .ok (.ct A') => some (.ok (.ct A'))
  | .ex A' c fs => some (.ex A' c fs)
def xNext : En → Option OutX := fun A => some (.ok (.nx A))
theorem dxs_nil : DXs K cv X [] (fun _ => tNext) xNext := ⟨fun _ _ _ => pss_nil, fun W F0 H0 F H σ A o D E R e G => by
  cases e
  exact G F H σ E R⟩
theorem dxs_one (h : DX K cv X st ts f) : DXs K cv X [st] ts f := ⟨fun W tk hp => pss_one (h.pe W tk hp), h.so⟩
theorem sx_seq (h1 : SX K cv ts f) (h2 : SX K cv us g) : SX K cv (fun W => tSeq (ts W) (us W)) (xSeq f g) := fun W F0 H0 F H σ A o D E R e G => by
  obtain ⟨o1, e1, e⟩ := bind_eq_some e
  refine h1 W F0 H0 F H σ A o1 { D with nx := us W D } E R e1 ?_
  cases o1 with
  | ex A' c fs => cases e; exact G
  | ok o2 =>
    cases o2 with
    | nx A' => exact fun F' H' σ' E' R' => h2 W F0 H0 F' H' σ' A' o D E' R' e G
    | rt d => cases e; exact G
    | bk A' => cases e; exact G
    | ct A' => cases e; exact G
theorem dxs_cons (h : DX K cv X st ts f) (hr : DXs K cv X sts us g) : DXs K cv X (st :: sts) (fun W => tSeq (ts W) (us W)) (xSeq f g) := ⟨fun W tk hp => pss_cons (h.pe W tk hp) (hr.pe W tk hp), sx_seq h.so hr.so⟩
theorem dxs_lift (h : DSs K X.nox sts t f0) : DXs K cv X sts (fun _ => t) (liftX f0) := ⟨fun _ _ _ => h.pe.nox, sx_lift h.so⟩
def xIf (c : En → Option Bool) (f g : En → Option OutX) : En → Option OutX := fun A => (c A).bind fun b => if b = true then f A else g A
theorem dx_if {c : Expr} {a b : List Stmt} {tc : TT} {cc : En → Option Bool} {pos : Pos} (hc : DT K X.nox c tc cc) (ha : DXs K cv X a ts f) (hb : DXs K cv X b us g) : DX K cv X (.If c a b pos) (fun W => tIfS tc (ts W) (us W)) (xIf cc f g) := ⟨fun W tk hp => ps_if hc.pe.nox (ha.pe W tk hp) (hb.pe W tk hp), fun W F0 H0 F H σ A o D E R e G => by
  obtain ⟨b, e1, e⟩ := bind_eq_some e
  refine hc.so H0 F H σ A b R e1 _ fun F' H' s => ?_
  cases b with
  | true => exact ha.so W F0 H0 F' H' σ A o D (E.step s) (R.step s) e G
  | false => exact hb.so W F0 H0 F' H' σ A o D (E.step s) (R.step s) e G⟩
def forX (g : Dt → En → Option En) (body : En → Option OutX) : List Dt → En → Option OutX
  | [], A => some (.ok (.nx A))
  | x :: xs, A => (g x A).bind fun A1 => (body A1).bind fun o => match o with
    | .ok (.nx A2) => forX g body xs A2
    | .ok (.ct A2) => forX g body xs A2
    | .ok (.bk A2) => some (.ok (.nx A2))
    | .ok (.rt d) => some (.ok (.rt d))
    | .ex A2 c fs => some (.ex A2 c fs)
def xFor (it : En → Option (List Dt)) (g : Dt → En → Option En) (body : En → Option OutX) : En → Option OutX := fun A => (it A).bind fun xs => forX g body xs A
theorem sx_for {wi : TI} {it : En → Option (List Dt)} {is : List Nat} {g : TG} {h : Dt → En → Option En} {body : En → Option OutX} (hi : SI K wi it) (hg : SG K is g h) (hb : SX K cv ts body) : SX K cv (fun W => tFor wi g (ts W)) (xFor it h body) := fun W F0 H0 F H σ A o D E R e G => by
  obtain ⟨xs, e1, e⟩ := bind_eq_some e
  refine hi H0 F H σ A xs R e1 _ fun J F1 H1 s1 wk => ?_
  refine ⟨fun i m σ' H' => ∃ F' A', Ent F0 H0 F' H' ∧ Rl K H0 F' H' σ' A' ∧ Same F1 F' ∧ i + m = xs.length ∧ forX h body (xs.drop i) A' = some o, ⟨xs.length, F1, A, E.step s1, R.step s1, Same.refl _, Nat.zero_add _, e⟩, ?_⟩
  rintro i m σ' H' ⟨F', A', E', R', sm, hl, e'⟩
  by_cases hlt : i < xs.length
  · obtain ⟨w1, w2⟩ := wk i F' H' sm R'.sub
    obtain ⟨hgo, hy⟩ := w1 xs[i] (List.getElem?_eq_getElem hlt)
    rw [List.drop_eq_getElem_cons hlt] at e'
    obtain ⟨A1, e2, e'⟩ := bind_eq_some e'
    obtain ⟨o1, e3, e'⟩ := bind_eq_some e'
    refine .inr ⟨hgo, fun σ3 H3 => ∃ F3 A3, Ent F0 H0 F3 H3 ∧ Rl K H0 F3 H3 σ3 A3 ∧ Same F1 F3 ∧ forX h body (xs.drop (i + 1)) A3 = some o, fun σ3 H3 ⟨F3, A3, E3, R3, s3, q3⟩ => ⟨m - 1, by omega, F3, A3, E3, R3, s3, by omega, q3⟩, fun v H2 y => ?_⟩
    obtain ⟨F2, s2, b⟩ := hy v H2 y
    refine hg H0 F2 H2 σ' A' v _ A1 (R'.step s2) b e2 _ fun σ2 R2 _ => ?_
    have E2 := E'.step s2
    refine hb W F2 H0 F2 H2 σ2 A1 o1 _ E2.re R2 e3 ?_
    cases o1 with
    | ex A2 c fs =>
      cases e'
      exact fun F3 H3 σ3 d E3 R3 x3 => G F3 H3 σ3 d (E2.cat E3) R3 x3
    | ok o2 =>
      cases o2 with
      | nx A2 => exact fun F3 H3 σ3 E3 R3 => ⟨F3, A2, E2.cat E3, R3, sm.trans (s2.ff.trans E3.ff), e'⟩
      | ct A2 => exact fun F3 H3 σ3 E3 R3 => ⟨F3, A2, E2.cat E3, R3, sm.trans (s2.ff.trans E3.ff), e'⟩
      | bk A2 =>
        cases e'
        exact fun F3 H3 σ3 E3 R3 => G F3 H3 σ3 (E2.cat E3) R3
      | rt d =>
        cases e'
        exact fun F3 H3 v E3 s3 b3 => G F3 H3 v (E2.cat E3) s3 b3
  · have e0 : xs.drop i = [] := List.drop_eq_nil_of_le (by omega)
    rw [e0] at e'
    cases e'
    obtain ⟨w1, w2⟩ := wk i F' H' sm R'.sub
    exact .inl ⟨w2 (by omega), G F' H' σ' E' R'⟩
theorem dx_for {tg it : Expr} {wi : TI} {xs : En → Option (List Dt)} {is : List Nat} {gg : TG} {h : Dt → En → Option En} {pos : Pos} (hi : DI K X tg it wi xs) (hg : DG K X is tg gg h) (hb : DXs K cv X sts ts f) (hc : X.calm = true := by rfl) (hs : ∀ x, foldedSetIterable it X.env x = pure x := by intro _; rfl) :
    DX K cv X (.For tg it sts [] pos) (fun W => tFor wi gg (ts W)) (xFor xs h f) := ⟨fun W tk hp => ps_for hp hc hi.pe hg.pe (hb.pe W tk hp) hs, sx_for hi.so hg.so hb.so⟩

/-! ### calls that may raise -/
inductive ResX where
  | val (d : Dt) | ex (c : Str) (fs : List (Str × Dt))
variable (K) in
def spX (cv : Str → Value) (g : List Dt → Option ResX) : Sp := fun vs H Q E => ∃ F ds r, Same F H ∧ TbOk F H ∧ DpAll K F vs ds ∧ g ds = some r ∧ (match r with
  | .val d => ∀ F' H' v, Stp F H F' H' → Dp K F' v d → Q v H'
  | .ex c fs => ∀ F' H' d, Stp F H F' H' → XdIs K F' H' d fs → E (cv c) (some d) H')
/-- what becomes of a call's result -/
def xUse (use : Dt → En → Out) (g : List Dt → Option ResX) (r : En → Option (List Dt)) : En → Option OutX := fun A => (r A).bind fun ds => (g ds).map fun z => match z with
  | .val d => .ok (use d A)
  | .ex c fs => .ex A c fs
def uDrop : Dt → En → Out := fun _ A => .nx A
def uRet : Dt → En → Out := fun d _ => .rt d
def uSet (i : Nat) : Dt → En → Out := fun d A => .nx (A.set i (.d d))
theorem sx_drop {ta : TA} {r : En → Option (List Dt)} {g : List Dt → Option ResX} (h : SF K ta r) : SX K cv (fun W => tDrop (tCallS (spX K cv g) (WE W) ta)) (xUse uDrop g r) := fun W F0 H0 F H σ A o D E R e G => by
  obtain ⟨ds, e1, e⟩ := bind_eq_some e
  obtain ⟨z, e2, rfl⟩ := map_eq_some e
  refine h H0 F H σ A ds R e1 _ fun F1 H1 vs s1 b1 => ?_
  refine ⟨F1, ds, z, s1.sub, R.tb.step s1, b1, e2, ?_⟩
  cases z with
  | val d => exact fun F2 H2 v s2 b2 => G F2 H2 σ (E.step (s1.trans s2)) (R.step (s1.trans s2))
  | ex c fs => exact fun F2 H2 d s2 x2 => G F2 H2 σ d (E.step (s1.trans s2)) (R.step (s1.trans s2)) x2
theorem sx_ret {ta : TA} {r : En → Option (List Dt)} {g : List Dt → Option ResX} (h : SF K ta r) : SX K cv (fun W => tRet (tCallS (spX K cv g) (WE W) ta)) (xUse uRet g r) := fun W F0 H0 F H σ A o D E R e G => by
  obtain ⟨ds, e1, e⟩ := bind_eq_some e
  obtain ⟨z, e2, rfl⟩ := map_eq_some e
  refine h H0 F H σ A ds R e1 _ fun F1 H1 vs s1 b1 => ?_
  refine ⟨F1, ds, z, s1.sub, R.tb.step s1, b1, e2, ?_⟩
  cases z with
  | val d => exact fun F2 H2 v s2 b2 => G F2 H2 v (E.step (s1.trans s2)) s2.sub b2
  | ex c fs => exact fun F2 H2 d s2 x2 => G F2 H2 σ d (E.step (s1.trans s2)) (R.step (s1.trans s2)) x2
theorem sx_set {i : Nat} {ta : TA} {r : En → Option (List Dt)} {g : List Dt → Option ResX} (h : SF K ta r) : SX K cv (fun W => tAsg (tCallS (spX K cv g) (WE W) ta) (gName i)) (xUse (uSet i) g r) := fun W F0 H0 F H σ A o D E R e G => by
  obtain ⟨ds, e1, e⟩ := bind_eq_some e
  obtain ⟨z, e2, rfl⟩ := map_eq_some e
  refine h H0 F H σ A ds R e1 _ fun F1 H1 vs s1 b1 => ?_
  refine ⟨F1, ds, z, s1.sub, R.tb.step s1, b1, e2, ?_⟩
  cases z with
  | val d => exact fun F2 H2 v s2 b2 => G F2 H2 _ (E.step (s1.trans s2)) ((R.step (s1.trans s2)).setD b2)
  | ex c fs => exact fun F2 H2 d s2 x2 => G F2 H2 σ d (E.step (s1.trans s2)) (R.step (s1.trans s2)) x2
section
variable {k : Nat} {fa : Addr} {fd : FuncData} {ps : List Str} {g' : List Dt → Option ResX} {x : Str} {e : Expr} {es : List Expr} {ta : TA} {r : En → Option (List Dt)} {p pos pos' : Pos}
/-- the pieces of a call of a def that may raise -/
structure CallX (K : PySem.W.Frag) (cv : Str → Value) (X : Cx) (x : Str) (es : List Expr) (ta : TA) (r : En → Option (List Dt)) (g' : List Dt → Option ResX) : Prop where
  pe : ∀ W, Takes X W → ∀ p pos, PE X (.Call (.Name x p) es [] pos) (tCallS (spX K cv g') (WE W) ta)
  so : SF K ta r
theorem callX (F : FnOk X.prog X.w X.K X.mg X.base (L2.CX X.prog X.w) k fa fd ps (spX K cv g')) (hr : Room k X.A) (hm : X.mg x = some (.ref fa)) (hkp : PySem.W.keepIn X.K (.ref fa) = true) (hb : Binds X.K fd ps [])
    (ha : DF K X.nox (e :: es) ta r) (hg : Gl X x := by rfl) (hdb : (x == ("__debug__" : Str)) = false := by decide) (he : starEach (e :: es) X.env = (false, eval e X.env) :: starEach es X.env := by rfl) (hpl : ∀ pos, (backTo pos (starEach es X.env)).any (·.1) = false := by intro _; rfl)
    (hpa : PA X (e :: es) ta) : CallX K cv X x (e :: es) ta r g' := ⟨fun W tk p pos => pe_callS F hr hg hm hkp hb (passAt tk) hpa hdb he (hpl pos), ha.so⟩
end
end
end Dv

namespace Dv
open PySem PySem.Spec PyProof.Rows
open L2 hiding Dp DpAll
open LamX (TabS CodeO Tabs ExtN)
variable [Tb]
section
variable {K : PySem.W.Frag} {cv : Str → Value} {X : Cx} {e : Expr} {es : List Expr} {te : TE} {ta : TA} {r : En → Option (List Dt)} {p pos pos' : Pos} {x : Str} {g' : List Dt → Option ResX}
theorem pa_nox (h : PA X.nox es ta) : PA X es ta := ⟨fun pos pins s σ H Q I hw =>
  wpAny_mono (h.run pos pins s σ H Q (I.wish _) hw) (fun _ _ ⟨v, H', I', r, q⟩ => ⟨v, H', I'.unwish, r, q⟩) fun _ _ z => False.elim z⟩
theorem callX' {k : Nat} {fa : Addr} {fd : FuncData} {ps : List Str} (F : FnOk X.prog X.w X.K X.mg X.base (L2.CX X.prog X.w) k fa fd ps (spX K cv g')) (hr : Room k X.A) (hm : X.mg x = some (.ref fa)) (hkp : PySem.W.keepIn X.K (.ref fa) = true) (hb : Binds X.K fd ps [])
    (ha : DF K X.nox (e :: es) ta r) (hg : Gl X x := by rfl) (hdb : (x == ("__debug__" : Str)) = false := by decide) (he : starEach (e :: es) X.env = (false, eval e X.env) :: starEach es X.env := by rfl) (hpl : ∀ pos, (backTo pos (starEach es X.env)).any (·.1) = false := by intro _; rfl) :
    CallX K cv X x (e :: es) ta r g' := callX F hr hm hkp hb ha hg hdb he hpl (pa_nox ha.pe)
theorem dx_drop (h : CallX K cv X x es ta r g') (hx : swapsWith (.Call (.Name x p) es [] pos') none pos.line X.env = pure false := by rfl) : DX K cv X (.Expr (.Call (.Name x p) es [] pos') pos) (fun W => tDrop (tCallS (spX K cv g') (WE W) ta)) (xUse uDrop g' r) :=
  ⟨fun W tk _ => ps_expr (h.pe W tk p pos') hx, sx_drop h.so⟩
theorem dx_ret (h : CallX K cv X x es ta r g') : DX K cv X (.Return (some (.Call (.Name x p) es [] pos')) pos) (fun W => tRet (tCallS (spX K cv g') (WE W) ta)) (xUse uRet g' r) :=
  ⟨fun W tk _ => ps_ret (h.pe W tk p pos'), sx_ret h.so⟩
/-! ### raise -/
/-- the heap behind an exception's __init__ that stores two fields -/
def spIni (C : Addr) (f1 f2 : Str) : Sp := fun vs H Q _ => ∃ (a : Addr) (y1 y2 : V), vs = [.ref a, y1, y2] ∧ H a = some (exo a C none) ∧ ∀ dx, H dx = none → dx ≠ a → Q .non (upd (upd (upd H dx (exd dx [(f1, y1)])) a (exo a C (some dx))) dx (exd dx [(f2, y2), (f1, y1)]))
def spIni1 (C : Addr) (f1 : Str) : Sp := fun vs H Q _ => ∃ (a : Addr) (y1 : V), vs = [.ref a, y1] ∧ H a = some (exo a C none) ∧ ∀ dx, H dx = none → dx ≠ a → Q .non (upd (upd H dx (exd dx [(f1, y1)])) a (exo a C (some dx)))
def xRaise (c : Str) (fs : List Str) (r : En → Option (List Dt)) : En → Option OutX := fun A => (r A).bind fun ds => if ds.length = fs.length then some (.ex A c (fs.zip ds)) else none
theorem look_put {α : Type} (f g : Str) (y : α) (fs : List (Str × α)) : ((f, y) :: fs).lookup g = if g = f then some y else fs.lookup g := by
  by_cases h : g = f
  · subst h
    simp [List.lookup]
  · have e : (g == f) = false := by simpa using h
    rw [if_neg h]
    simp [List.lookup, e]
theorem stp_new {F H : Hp} {d : Addr} {o : HO} (sub : Same F H) (hd : H d = none) : Stp F H F (upd H d o) := by
  refine ⟨Same.refl _, (SameT.refl _).new hd, fun b u q => ?_, fun _ h _ => h, fun h => h⟩
  · rw [upd_ne (ne_of_none (sub _ _ q) hd)]; exact sub _ _ q
theorem sx_raise2 {c f1 f2 : Str} {C : Addr} (hne : f1 ≠ f2) (hcv : cv c = .ref C) (h : SF K ta r) : SX K cv (fun W σh => fun σ H => tMkO C (spIni C f1 f2) [] ta σ H fun cls d H' => W cls d σ H') (xRaise c [f1, f2] r) := fun W F0 H0 F H σ A o D E R e G => by
  obtain ⟨ds, e1, e⟩ := bind_eq_some e
  obtain ⟨hl, rfl⟩ := ite_some e
  match ds, hl with
  | [x1, x2], _ =>
    refine h H0 F H σ A [x1, x2] R e1 _ fun F1 H1 vs s1 b1 => ?_
    cases b1 with
    | cons b1 b2 =>
      cases b2 with
      | cons b2 b3 =>
        cases b3
        rename_i v1 v2
        refine ⟨by show 2 ≤ 1000; omega, fun a na => ⟨a, v1, v2, rfl, upd_same, fun dx ndx ne => ⟨rfl, dx, [(f2, v2), (f1, v1)], ?_, upd_same, ?_, ?_⟩⟩⟩
        · rw [upd_ne (Ne.symm ne), upd_same]
        · rw [upd_ne ne] at ndx; exact ndx
        · have nd1 : H1 dx = none := by rw [upd_ne ne] at ndx; exact ndx
          have eH : upd (del (upd (upd (upd (upd H1 a (exo a C none)) dx (exd dx [(f1, v1)])) a (exo a C (some dx))) dx (exd dx [(f2, v2), (f1, v1)])) a) dx (.xd [(f2, v2), (f1, v1)]) = upd H1 dx (.xd [(f2, v2), (f1, v1)]) := by
            funext b
            by_cases hb : b = dx
            · rw [hb, upd_same, upd_same]
            · rw [upd_ne hb, upd_ne hb]
              by_cases hba : b = a
              · rw [hba, del_same, na]
              · rw [del_ne hba, upd_ne hb, upd_ne hba, upd_ne hb, upd_ne hba]
          rw [eH]
          have s2 := s1.trans (stp_new (o := .xd [(f2, v2), (f1, v1)]) s1.sub nd1)
          rw [← hcv]
          refine G F1 _ σ dx (E.step s2) (R.step s2) ⟨_, upd_same, fun f x e => ?_⟩
          have e' : List.lookup f [(f1, x1), (f2, x2)] = some x := e
          rw [look_put] at e'
          rw [look_put]
          by_cases h1 : f = f1
          · have h2 : ¬ f = f2 := fun z => hne (h1.symm.trans z)
            rw [if_pos h1] at e'
            cases e'
            rw [if_neg h2, look_put, if_pos h1]
            exact ⟨v1, rfl, b1⟩
          · rw [if_neg h1, look_put] at e'
            by_cases h2 : f = f2
            · rw [if_pos h2] at e'
              cases e'
              rw [if_pos h2]
              exact ⟨v2, rfl, b2⟩
            · rw [if_neg h2] at e'
              cases e'
theorem dx_raise2 {x c f1 f2 : Str} {C fI : Addr} {k : Nat} {fd : FuncData} {ps : List Str} (T : OexC X.K C) (iC : PySem.W.findIn X.K (.ref C) "__init__" = some (some (.ref fI))) (tI : PySem.W.typeIn X.K (.ref fI) = some (.type "function"))
    (F1 : FnOk X.prog X.w X.K X.mg X.base CX0 k fI fd ps (spIni C f1 f2)) (hr : Room (k + 1) X.A) (hb : Binds X.K fd ps []) (hm : X.mg x = some (.ref C)) (hne : f1 ≠ f2) (hcv : cv c = .ref C) (ha : DF K X.nox (e :: es) ta r) (hc : X.calm = true := by rfl) (hg : Gl X x := by rfl)
    (hdb : (x == ("__debug__" : Str)) = false := by decide) (he : starEach (e :: es) X.env = (false, eval e X.env) :: starEach es X.env := by rfl) (hpl : (backTo pos (starEach es X.env)).any (·.1) = false := by rfl) :
    DX K cv X (.Raise (some (.Call (.Name x p) (e :: es) [] pos)) none pos') (fun W _ σ H => tMkO C (spIni C f1 f2) [] ta σ H fun cls d H' => W cls d σ H') (xRaise c [f1, f2] r) :=
  ⟨fun W tk _ => ps_raise hc tk (pmk_oex T iC tI F1 hr hb .nil (fun _ _ _ _ _ _ _ h => h.elim) hg hm (pa_nox ha.pe) hdb he hpl), sx_raise2 hne hcv ha.so⟩
/-! ### an __init__ that stores two arguments -/
section
variable {P : Program} {w : World} {mg : Str → Option Value} {base : Heap}
theorem ok_init2 {C : Addr} {x qual f1 f2 : Str} {st : Stmt} {f : Addr} {fd : FuncData} {N ps : List Str} {k : Nat} (F : Fun K x qual st f fd) (S : FnScope N ps (defScope st)) (hp : ps.length = 3) (T : OexC K C)
    (n1 : PySem.W.findIn K (.ref C) f1 = some none) (n2 : PySem.W.findIn K (.ref C) f2 = some none)
    (body : ∀ (cdv : Value) (A : Around) (outer : List Env) (s : Shared) (H : Hp) (E : XK), Room k (A.deeper (envOfC qual (defScope st) s.heap.objs.size f cdv)) → PSs (cxOf CX0 P w K mg base N qual (defScope st) f cdv A outer s H E).nox (defBody st) (tSeq (tOst K f1 (tVar 0) (tVar 1)) (tOst K f2 (tVar 0) (tVar 2)))) :
    FnOk P w K mg base CX0 (k + 1) f fd ps (spIni C f1 f2) := by
  refine F.ok S (fun vs H Q E h => ?_) (fun cdv A outer s H vs Q E hr h => ?_)
  · obtain ⟨a, y1, y2, rfl, _⟩ := h
    exact hp.symm
  · obtain ⟨a, y1, y2, rfl, ha, q⟩ := h
    refine ⟨_, body cdv A outer s H E hr, ?_⟩
    refine ⟨y1, rfl, .ref a, rfl, a, C, rfl, T, n1, .inl ⟨ha, fun dx nd ne => ?_⟩⟩
    have e1 : upd (upd H dx (exd dx [(f1, y1)])) a (exo a C (some dx)) a = some (exo a C (some dx)) := upd_same
    have e2 : upd (upd H dx (exd dx [(f1, y1)])) a (exo a C (some dx)) dx = some (exd dx [(f1, y1)]) := by rw [upd_ne ne, upd_same]
    exact ⟨y2, rfl, .ref a, rfl, a, C, rfl, T, n2, .inr ⟨dx, [(f1, y1)], e1, e2, by show 1 ≤ 900; omega, q dx nd ne⟩⟩
end
end
end Dv

namespace Dv
open PySem PySem.Spec PyProof.Rows
open L2 hiding Dp DpAll
open LamX (TabS CodeO Tabs ExtN)
variable [Tb]
theorem Rl.setNo {K : PySem.W.Frag} {H0 F H : Hp} {σ : L2.St} {A : En} (R : Rl K H0 F H σ A) (i : Nat) (v : V) : Rl K H0 F H (σ.set i (some v)) (A.set i .no) :=
  R.setG (fun _ => ⟨fun _ e => (by cases e), fun _ e => (by cases e), fun _ e => (by cases e)⟩) fun p _ h => by
    rcases h with ⟨_, h⟩ | ⟨_, h⟩ <;> cases h
theorem Rl.unset {K : PySem.W.Frag} {H0 F H : Hp} {σ : L2.St} {A : En} (R : Rl K H0 F H σ A) (i : Nat) : Rl K H0 F H (σ.set i none) (A.set i .no) := R.wipe [i]
theorem ite_some' {α : Type} {p : Prop} [Decidable p] {x : Option α} {y : α} (h : (if p then x else none) = some y) : p ∧ x = some y := by
  split at h
  · rename_i hp
    exact ⟨hp, h⟩
  · cases h
/-! ### a def that may raise -/
def outX : Option OutX → Option ResX
  | some (.ok (.rt d)) => some (.val d)
  | some (.ok (.nx _)) => some (.val .none)
  | some (.ex _ c fs) => some (.ex c fs)
  | _ => none
def semX (n m : Nat) (run : En → Option OutX) : List Dt → Option ResX := fun ds => if ds.length = m then outX (run (ds.map Sl.d ++ List.replicate (n - m) Sl.no)) else none
/-- a def that lets nothing out, with a try inside -/
def outT : Option OutX → Option Dt
  | some (.ok (.rt d)) => some d
  | some (.ok (.nx _)) => some .none
  | _ => none
def semT (n m : Nat) (run : En → Option OutX) : List Dt → Option Dt := fun ds => if ds.length = m then outT (run (ds.map Sl.d ++ List.replicate (n - m) Sl.no)) else none
section
variable {P : Program} {w : World} {K : PySem.W.Frag} {cv : Str → Value} {mg : Str → Option Value} {base : Heap}
theorem ok_defX {x qual : Str} {st : Stmt} {f : Addr} {fd : FuncData} {N ps : List Str} {k : Nat} {ts : WX → TS} {run : En → Option OutX} (F : Fun K x qual st f fd) (S : FnScope N ps (defScope st))
    (body : ∀ (cdv : Value) (A : Around) (outer : List Env) (s : Shared) (H : Hp) (E : XK), Room k (A.deeper (envOfC qual (defScope st) s.heap.objs.size f cdv)) → DXs K cv (cxOf (L2.CX P w) P w K mg base N qual (defScope st) f cdv A outer s H E) (defBody st) ts run) :
    FnOk P w K mg base (L2.CX P w) (k + 1) f fd ps (spX K cv (semX N.length ps.length run)) := by
  refine F.okX S (fun vs H Q E h => ?_) (fun cdv A outer s H vs Q E hr h => ?_)
  · obtain ⟨F', ds, d, _, _, a, e, _⟩ := h
    unfold semX at e
    split at e
    · rename_i hl
      rw [DpAll.len a]; exact hl
    · cases e
  · obtain ⟨F', ds, z, sub, tb, a, e, q⟩ := h
    have B := body cdv A outer s H E hr
    refine ⟨ts (fun cls d _ H => E cls d H), B.pe _ (takes_of rfl rfl rfl rfl) (passes_of rfl), ?_⟩
    unfold semX at e
    split at e
    case isFalse => cases e
    rename_i hl
    cases e1 : run (ds.map Sl.d ++ List.replicate (N.length - ps.length) Sl.no) with
    | none => rw [e1] at e; cases e
    | some o =>
      rw [e1] at e
      have R := start_rl (N := N) sub tb a
      rw [hl] at R
      refine B.so _ F' H F' H (L2.start N vs) _ o _ ⟨Same.refl _, SameT.refl _, fun _ h _ => h, fun h => h⟩ R e1 ?_
      cases o with
      | ex A' c fs =>
        cases e
        exact fun F2 H2 σ2 d E2 R2 x2 => q F2 H2 d ⟨E2.ff, E2.hh, R2.sub, E2.fr, E2.ft⟩ x2
      | ok o =>
        cases o with
        | rt d' =>
          cases e
          exact fun F2 H2 v E2 s2 b2 => q F2 H2 v ⟨E2.ff, E2.hh, s2, E2.fr, E2.ft⟩ b2
        | nx A' =>
          cases e
          exact fun F2 H2 σ2 E2 R2 => q F2 H2 .non ⟨E2.ff, E2.hh, R2.sub, E2.fr, E2.ft⟩ .non
        | bk _ => cases e
        | ct _ => cases e
theorem ok_defT {x qual : Str} {st : Stmt} {f : Addr} {fd : FuncData} {N ps : List Str} {k : Nat} {ts : WX → TS} {run : En → Option OutX} (F : Fun K x qual st f fd) (S : FnScope N ps (defScope st))
    (body : ∀ (cdv : Value) (A : Around) (outer : List Env) (s : Shared) (H : Hp) (E : XK), Room k (A.deeper (envOfC qual (defScope st) s.heap.objs.size f cdv)) → DXs K cv (cxOf CX0 P w K mg base N qual (defScope st) f cdv A outer s H E).nox (defBody st) ts run) :
    FnOk P w K mg base CX0 (k + 1) f fd ps (spD K (semT N.length ps.length run)) := by
  refine F.ok S (fun vs H Q E h => ?_) (fun cdv A outer s H vs Q E hr h => ?_)
  · obtain ⟨F', ds, d, _, _, a, e, _⟩ := h
    unfold semT at e
    split at e
    · rename_i hl
      rw [DpAll.len a]; exact hl
    · cases e
  · obtain ⟨F', ds, d, sub, tb, a, e, q⟩ := h
    have B := body cdv A outer s H E hr
    refine ⟨ts (fun _ _ _ _ => False), B.pe _ takes0 PassesOwn.never, ?_⟩
    unfold semT at e
    split at e
    case isFalse => cases e
    rename_i hl
    cases e1 : run (ds.map Sl.d ++ List.replicate (N.length - ps.length) Sl.no) with
    | none => rw [e1] at e; cases e
    | some o =>
      rw [e1] at e
      have R := start_rl (N := N) sub tb a
      rw [hl] at R
      refine B.so _ F' H F' H (L2.start N vs) _ o _ ⟨Same.refl _, SameT.refl _, fun _ h _ => h, fun h => h⟩ R e1 ?_
      cases o with
      | ex A' c fs => cases e
      | ok o =>
        cases o with
        | rt d' =>
          cases e
          exact fun F2 H2 v E2 s2 b2 => q F2 H2 v ⟨E2.ff, E2.hh, s2, E2.fr, E2.ft⟩ b2
        | nx A' =>
          cases e
          exact fun F2 H2 σ2 E2 R2 => q F2 H2 .non ⟨E2.ff, E2.hh, R2.sub, E2.fr, E2.ft⟩ .non
        | bk _ => cases e
        | ct _ => cases e
end
/-! ### what stands behind except C as n -/
section
variable (K : PySem.W.Frag) (i : Nat) (C : Addr)
/-- the fields fs of the exception in slot i stand at d -/
def SH (te : Addr → Value → Option Addr → TE) (f : List (Str × Dt) → En → Option Dt) : Prop := ∀ a d fs H0 F H σ A x, Rl K H0 F H σ A → σ[i]? = some (some (.ref a)) → XdIs K F H d fs → f fs A = some x → ∀ Q : VK, (∀ F' H' v, Stp F H F' H' → Dp K F' v x → Q v H') → te a (.ref C) (some d) σ H Q
def SHA (ta : Addr → Value → Option Addr → TA) (f : List (Str × Dt) → En → Option (List Dt)) : Prop := ∀ a d fs H0 F H σ A xs, Rl K H0 F H σ A → σ[i]? = some (some (.ref a)) → XdIs K F H d fs → f fs A = some xs → ∀ Q : List V → Hp → Prop, (∀ F' H' vs, Stp F H F' H' → DpAll K F' vs xs → Q vs H') → ta a (.ref C) (some d) σ H Q
variable (X : Cx)
structure HE (e : Expr) (te : Addr → Value → Option Addr → TE) (f : List (Str × Dt) → En → Option Dt) : Prop where
  pe : ∀ (a : Addr) (oe : Obj) (cls : Value) (d : Option Addr) (pn : List (Addr × Obj)), Zc cls d oe → (∃ vs, oe.data = .fields vs) → PE (X.suite a ((a, oe) :: pn)) e (te a cls d)
  so : SH K i C te f
structure HA (es : List Expr) (ta : Addr → Value → Option Addr → TA) (f : List (Str × Dt) → En → Option (List Dt)) : Prop where
  pe : ∀ (a : Addr) (oe : Obj) (cls : Value) (d : Option Addr) (pn : List (Addr × Obj)), Zc cls d oe → (∃ vs, oe.data = .fields vs) → PA (X.suite a ((a, oe) :: pn)) es (ta a cls d)
  so : SHA K i C ta f
end
def eXf (f : Str) : List (Str × Dt) → En → Option Dt := fun fs _ => fs.lookup f
def hCst (d : Dt) : List (Str × Dt) → En → Option Dt := fun _ _ => some d
def hNilA : List (Str × Dt) → En → Option (List Dt) := fun _ _ => some []
def hConsA (f : List (Str × Dt) → En → Option Dt) (r : List (Str × Dt) → En → Option (List Dt)) : List (Str × Dt) → En → Option (List Dt) := fun fs A => (f fs A).bind fun x => (r fs A).bind fun ys => some (x :: ys)
def hTupE (r : List (Str × Dt) → En → Option (List Dt)) : List (Str × Dt) → En → Option Dt := fun fs A => (r fs A).bind fun xs => if xs.length ≤ sizeLine then some (.tuple xs) else none
section
variable {K : PySem.W.Frag} {i : Nat} {C : Addr} {X : Cx} {e : Expr} {es : List Expr} {te : Addr → Value → Option Addr → TE} {f : List (Str × Dt) → En → Option Dt} {ta : Addr → Value → Option Addr → TA} {r : List (Str × Dt) → En → Option (List Dt)} {n a : Str} {p pos : Pos}
theorem he_attr (T : XfC X.K C) (hno : PySem.W.findIn X.K (.ref C) a = some none) (hv : ∀ ad oe pn, PE (X.suite ad ((ad, oe) :: pn)) (.Name n p) (tVar i)) (hb : ∀ ad pn, attributeBase (.Name n p) a (X.suite ad pn).env (eval (.Name n p) (X.suite ad pn).env) = eval (.Name n p) (X.suite ad pn).env := by intro _ _; rfl) :
    HE K i C X (.Attribute (.Name n p) a pos) (fun ad cls d => tXf ad cls d C a (tVar i)) (eXf a) := ⟨fun ad oe cls d pn hz hf => pe_xf T hno hz hf (hv ad oe pn) (hb ad pn), fun ad d fs H0 F H σ A x R hs hx e Q q => by
  obtain ⟨xs, h1, h2⟩ := hx
  obtain ⟨v, e1, e2⟩ := h2 a x e
  exact ⟨.ref ad, hs, rfl, rfl, d, xs, v, rfl, h1, e1, q F H v (Stp.refl R.sub) e2⟩⟩
theorem he_str {z : Str} {j} : HE K i C X (.Constant (.str z) j pos) (fun _ _ _ => tC (.str z)) (hCst (.str z)) := ⟨fun _ _ _ _ _ _ _ => pe_str, fun ad d fs H0 F H σ A x R _ _ e Q q => by
  cases e
  exact q F H _ (Stp.refl R.sub) (.str z)⟩
theorem ha_nil : HA K i C X [] (fun _ _ _ => tNil) hNilA := ⟨fun _ _ _ _ _ _ _ => pa_nil, fun a d fs H0 F H σ A xs R _ _ e Q q => by
  cases e
  exact q F H [] (Stp.refl R.sub) .nil⟩
theorem ha_cons (h : HE K i C X e te f) (hr : HA K i C X es ta r) (hs : ∀ ad pn, starEach (e :: es) (X.suite ad pn).env = (false, eval e (X.suite ad pn).env) :: starEach es (X.suite ad pn).env := by intro _ _; rfl) : HA K i C X (e :: es) (fun a cls d => tCons (te a cls d) (ta a cls d)) (hConsA f r) :=
  ⟨fun ad oe cls d pn hz hf => pa_cons (h.pe ad oe cls d pn hz hf) (hr.pe ad oe cls d pn hz hf) (hs ad _), fun a d fs H0 F H σ A ds R hs hx e Q q => by
  obtain ⟨x, e1, e⟩ := bind_eq_some e
  obtain ⟨y, e2, e⟩ := bind_eq_some e
  cases e
  refine h.so a d fs H0 F H σ A x R hs hx e1 _ fun F1 H1 v s1 b1 => ?_
  refine hr.so a d fs H0 F1 H1 σ A y (R.step s1) hs (hx.step s1) e2 _ fun F2 H2 w s2 b2 => ?_
  exact q F2 H2 _ (s1.trans s2) (.cons (dp_same s2.ff b1) b2)⟩
theorem he_tup {ex} (h : HA K i C X es ta r) : HE K i C X (.Tuple es ex pos) (fun a cls d => tTup (ta a cls d)) (hTupE r) := ⟨fun ad oe cls d pn hz hf => pe_tup (h.pe ad oe cls d pn hz hf), fun a d fs H0 F H σ A x R hs hx e Q q => by
  obtain ⟨xs, e1, e⟩ := bind_eq_some e
  obtain ⟨hl, rfl⟩ := ite_some e
  refine h.so a d fs H0 F H σ A xs R hs hx e1 _ fun F1 H1 vs s1 b1 => ⟨by rw [DpAll.len b1]; exact hl, fun p np => ?_⟩
  exact q (upd F1 p (.tup vs)) _ _ (s1.new np) (.tup (SqT.of upd_same) (dpAll_same (same_upd (s1.sub.free np)) b1))⟩
end
/-- try: body, except c as (slot i): return hand -/
def xTryR (c : Str) (i : Nat) (f : En → Option OutX) (hand : List (Str × Dt) → En → Option Dt) : En → Option OutX := fun A => (f A).bind fun o => match o with
  | .ok o => some (.ok o)
  | .ex A' c' fs => if c' = c ∧ i < A'.length then (hand fs (A'.set i .no)).map fun d => .ok (.rt d) else none
section
variable {K : PySem.W.Frag} {cv : Str → Value} {X : Cx} {ts : WX → TS} {f : En → Option OutX} {body : List Stmt} {x n c : Str} {i : Nat} {e : Expr} {np pr pos pos' : Pos} {C : Addr} {te : Addr → Value → Option Addr → TE} {hand : List (Str × Dt) → En → Option Dt}
theorem dx_tryR (hcv : cv c = .ref C) (hm : PySem.W.exmOne K (.ref C) (.ref C) = some true) (hN : X.N.Nodup) (hg : X.mg x = some (.ref C)) (hb : ∀ pn xe, DXs K cv (X.tr pn xe) body ts f) (hh : HE K i C X e te hand) (hk : X.K = K := by rfl) (hgl : Gl X x := by rfl) (hdb : (x == ("__debug__" : Str)) = false := by decide)
    (hs : X.stack = X.env :: X.outer := by rfl) (hf : X.env.frame = some X.env.locals := by rfl) (hi : X.N[i]? = some n := by rfl) (hln : X.env.kindOf n = some .local := by rfl) :
    DX K cv X (.Try body [.ExceptHandler (some (.Name x np)) (some n) [.Return (some e) pr] pos'] [] [] pos) (fun Wout D σ H => ts (wAs K (.ref C) i (fun a cls d => tRet (te a cls d)) Wout D) D σ H) (xTryR c i f hand) := by
  subst hk
  refine ⟨fun Wout tk _ => ps_try_as hs hf hN hi hln ⟨hgl, hdb, .inl hg⟩ tk (fun W pn xe tk' hp => (hb pn xe).pe W tk' hp) fun a oe cls d pn hz hf => pss_one (ps_ret (hh.pe a oe cls d pn hz hf)), fun W F0 H0 F H σ A o D E R e G => ?_⟩
  obtain ⟨o1, e1, e⟩ := bind_eq_some e
  refine (hb [] (fun _ _ => False)).so _ F0 H0 F H σ A o1 D E R e1 ?_
  cases o1 with
  | ok o2 => cases e; exact G
  | ex A' c' fs =>
    obtain ⟨⟨hcc, hlt⟩, e3⟩ := ite_some' e
    subst hcc
    obtain ⟨d, e2, rfl⟩ := map_eq_some e3
    intro F' H' σ' dd E' R' x'
    rw [hcv]
    refine ⟨true, hm, fun _ a na => ?_, fun z => (by cases z)⟩
    refine hh.so a dd fs H0 F' H' _ _ d (R'.setNo i (.ref a)) ?_ x' e2 _ fun F2 H2 v s2 b2 => G F2 H2 v (E'.step s2) s2.sub b2
    have : i < σ'.length := by rw [← R'.len]; exact hlt
    rw [List.getElem?_set_self this]
end
end Dv

namespace Dv
open PySem PySem.Spec PyProof.Rows
open L2 hiding Dp DpAll
open LamX (TabS CodeO Tabs ExtN)
/-! ### sorted(xs, key=lambda v: v[j]) -/
section
variable {prog : Program} {w : World} {A : Around} {s : Shared}
/-- the lambda is called with a tuple -/
theorem call_at {f c' t : Addr} {q v : Str} {p1 p2 p3 : Pos} {kd j : Nat} {params : Arguments} {scope : Scope} {pm ctv y : Value} {its : Array Value} {k : PyData}
    (hf : s.heap.get? f = some (W.kla_obj "<lambda>" q params (.Subscript (.Name v p1) (.Constant (.int (j : Int)) kd p2) p3) scope [] pm c' ctv)) (hroom : A.depth < recursionLimit)
    (co : scope.isCoroutine = false) (gen : scope.isGenerator = false) (hk : scope.kind = .function) (hcell : ∀ x ∈ scope.names, x.2 ≠ .cell) (hloc : scope.names.lookup v = some .local)
    (hbind : ∀ u : Value, bindArgs (W.kla_fn "<lambda>" q params (.Subscript (.Name v p1) (.Constant (.int (j : Int)) kd p2) p3) scope [] pm (.ref c') ctv) ⟨[u], []⟩ = pure [(v, u)])
    (hcode : s.heap.CodeRec (.ref c') q) (lim : s.heap.NoLimit) (ht : IsTup s.heap t its) (hjl : j < its.size) (hjb : j < 2 ^ 40) (hy : its[j]? = some y) (hr : Reads s.heap y k []) (hd : (v == ("__debug__" : Str)) = false) :
    wpAny (model prog w) A (call (.ref f) [.ref t]) (W.KeyPure k s) (fun _ _ => False) s := by
  have rc : codeAny (model prog w) A (.call (.ref f) ⟨[.ref t], []⟩) (fun r s' => ∃ x, r = .ok (.ret x) ∧ W.KeyPure k s x s') s := by
    refine W.kla_callFunE hroom hf rfl co gen rfl hcode ?_
    rw [hbind]
    refine wpAny_pure (wpAny_newFunctionEnv hcell (fun x hx => ?_) (fun h₁ hns hsb => ⟨lim.fresh _ hsb, ?_⟩) hk)
    · rw [List.mem_singleton.mp hx]; exact hloc
    · have kp : ∀ b o, s.heap.get? b = some o → h₁.get? b = some o := fun b o e => hsb.extBut b o (Nat.ne_of_lt (Heap.lt_size e)) (Heap.get?_push_of_some _ e)
      show codeAny _ _ (.expr _ (W.envX q scope s.heap.objs.size f (.ref c') [])) _ _
      refine W.kla_codeExpr ?_
      refine Subscript_ (wpAny_Name (wpAny_loadName_local (v := .ref t) hk hloc hns (by simp [List.lookup]) ?_) hd)
      refine wpAny_Constant_int ?_
      have ht1 : IsTup h₁ t its := ht.keeps kp
      refine subscriptTail_builtinR (x := y) (IsTup.typeIs (s := { s with heap := h₁, toks := s.toks + 1 + 1 }) ht1) slot_tuple_getitem.lookup (getItem_tuple (j := j) (Q := fun r s' => r = y ∧ _) ht1 (by omega) (by omega) ?_ hy ⟨rfl, ?_⟩) (by rfl)
      · have e1 : decide ((j : Int) < 0) = false := decide_eq_false (by omega)
        unfold seqIndex?
        have h1 : ¬ ((j : Int) < 0) := by omega
        simp only [if_neg h1]
        have h2 : (decide (0 ≤ (j : Int)) && decide ((j : Int) < (its.size : Int))) = true := by
          rw [decide_eq_true (show 0 ≤ (j : Int) by omega), decide_eq_true (show (j : Int) < (its.size : Int) by omega)]; rfl
        rw [if_pos h2, Int.toNat_natCast]
      · exact ⟨y, rfl, h₁, _, rfl, kp, PyProof.Rows.Reads.keeps kp hr⟩
  refine wpAny_call (codeAny_mono rc fun r s2 hq => ?_)
  obtain ⟨x, rfl, h⟩ := hq
  exact h
end
def keyAt (j : Nat) : Dt → Option Dt
  | .tuple ys => ys[j]?
  | _ => none
def keyOf (j : Nat) (d : Dt) : Dt := (keyAt j d).getD .none
def keysOk (j : Nat) (ds : List Dt) : Bool := ds.all fun d => ds.all fun e => match keyAt j d, keyAt j e with
  | some a, some b => sclOk a b
  | _, _ => false
noncomputable def sortKD (j : Nat) (ds : List Dt) : List Dt := ds.mergeSort (W.dataLe false (keyOf j))
theorem keysOk_get {j : Nat} {ds : List Dt} (h : keysOk j ds = true) {d : Dt} (hd : d ∈ ds) : ∃ ys k, d = .tuple ys ∧ ys[j]? = some k ∧ keyOf j d = k ∧ ∀ e ∈ ds, sclOk k (keyOf j e) = true := by
  have h1 := List.all_eq_true.mp h d hd
  have h2 := List.all_eq_true.mp h1 d hd
  cases hk : keyAt j d with
  | none => rw [hk] at h2; cases h2
  | some k =>
    cases d with
    | tuple ys =>
      refine ⟨ys, k, rfl, hk, by unfold keyOf; rw [hk]; rfl, fun e he => ?_⟩
      have h3 := List.all_eq_true.mp h1 e he
      rw [hk] at h3
      unfold keyOf
      cases he' : keyAt j e with
      | none => rw [he'] at h3; cases h3
      | some k' => rw [he'] at h3; exact h3
    | _ => cases hk
theorem scl_reads {K : PySem.W.Frag} {F : Hp} {k e : Dt} {y : V} {u : Value} (h : sclOk k e = true) (b : Dp K F y k) (r : L2.RelV y u) (hp : Heap) : Reads hp u k [] ∧ k.depth ≤ 2 := by
  unfold sclOk at h
  split at h
  · cases b
    obtain ⟨t, rfl⟩ := r
    exact ⟨.int _ _, by simp [PyData.depth]⟩
  · cases b
    obtain ⟨t, rfl⟩ := r
    exact ⟨.str _ _, by simp [PyData.depth]⟩
  · cases h
/-- what is asked of the list, behind the lambda -/
def sortKB (K : PySem.W.Frag) (T : List (Addr × Str)) (j : Nat) (Q : VK) (x : V) (H1 : Hp) : Prop := Tabs T H1 ∧ ∀ H2, ExtN H1 H2 → Tabs T H2 → ∃ (a : Addr) (F : Hp) (xs : List V) (ds : List Dt), x = .ref a ∧ SqL K H2 a xs ∧ Same F H2 ∧ DpAll K F xs ds ∧ keysOk j ds = true ∧ ∀ ys p, DpAll K F ys (sortKD j ds) → H2 p = none → Q (.ref p) (upd H2 p (.lst ys))
def tSortK (K : PySem.W.Frag) (T : List (Addr × Str)) (j : Nat) (te : TE) : TE := fun σ H Q => tCons te tNil σ H fun vs H1 => ∃ x, vs = [x] ∧ sortKB K T j Q x H1
section
variable [Tb]
variable {X : Cx} {T : List (Addr × Str)} {c P : Addr} {e : Expr} {te : TE} {params : Arguments} {scope : Scope} {v : Str} {p lpos kpos p1 p2 p3 pos : Pos} {kd j : Nat}
theorem pe_sortK (TB : LamX.TabB X.base X.mg c P) (hcode : X.env.code = .ref c) (hmT : (P, X.env.qual ++ "<lambda>") ∈ T) (hu : ∀ q ∈ T, q.1 = P → q.2 = X.env.qual ++ "<lambda>") {n : Nat} (hr : Room (n + 2) X.A) (hm : X.mg "sorted" = none) (ha : PE X e te)
    (co : scope.isCoroutine = false) (gen : scope.isGenerator = false) (hk : scope.kind = .function) (hcell : ∀ x ∈ scope.names, x.2 ≠ .cell) (hfree : ∀ x ∈ scope.names, x.2 ≠ .free) (hloc : scope.names.lookup v = some .local) (hcl : ∀ cells, cloFrom cells scope.names [] = []) (hdef : defaultsOf params X.env = ([], []))
    (hbind : ∀ (q : Str) (pm cdv ctv u : Value), bindArgs (W.kla_fn "<lambda>" q params (.Subscript (.Name v p1) (.Constant (.int (j : Int)) kd p2) p3) scope [] pm cdv ctv) ⟨[u], []⟩ = pure [(v, u)]) (hjb : j < 2 ^ 40) (hdv : (v == ("__debug__" : Str)) = false) (hg : Gl X "sorted") (hdb : (("sorted" : Str) == ("__debug__" : Str)) = false := by decide)
    (hst : starEach [e] X.env = (false, eval e X.env) :: starEach [] X.env := by rfl) (he : backTo pos (starEach [e] X.env) = (false, eval e X.env) :: backTo pos (starEach [] X.env) := by rfl) (hpl : (backTo pos (starEach [e] X.env)).any (·.1) = false := by rfl)
    (hall : (backToKw pos (keywordEach [⟨some "key", .Lambda params (.Subscript (.Name v p1) (.Constant (.int (j : Int)) kd p2) p3) scope lpos, kpos⟩] X.env)).all (·.1.isSome) = true := by rfl) (hnone : (backToKw pos (keywordEach [⟨some "key", .Lambda params (.Subscript (.Name v p1) (.Constant (.int (j : Int)) kd p2) p3) scope lpos, kpos⟩] X.env)).any (·.1.isNone) = false := by rfl) :
    PE X (.Call (.Name "sorted" p) [e] [⟨some "key", .Lambda params (.Subscript (.Name v p1) (.Constant (.int (j : Int)) kd p2) p3) scope lpos, kpos⟩] pos) (tSortK X.K T j te) := by
  refine ⟨fun pins s σ H Q I h => ?_⟩
  refine wpAny_Call_Name_kw (ld_blt I hg hm PyProof.Rows.Boot.«sorted» ?_ (by decide) hdb)
  refine PyProof.Rows.callWith_kw (thn ((pa_cons ha pa_nil hst).run pos pins s σ H _ I h) fun us s1 ⟨vs, H1, I1, r1, x, ev, hT, q1⟩ => ?_) he hpl hall hnone
  subst ev
  obtain ⟨u, rfl, ru⟩ := vals1 r1
  refine wpAny_evalAll_cons (wpAny_bind (LamX.lam_make2 I1 TB hcode hmT hu hT hdef (fun y hy z => absurd z (hfree y hy)) fun f c' pm ctv H2 s2 I2 eN T2 hf hfn hfr hco => ?_))
  refine wpAny_bind (wpAny_standAt (wpAny_pure (wpAny_evalAll_nil ?_)))
  rw [hcl] at hf
  show wpAny _ _ (call (.builtin "sorted") [u] [(Str.ofString "key", .ref f)]) _ _ _
  obtain ⟨a, F, xs, ds, rfl, hs, sub, da, ok, q⟩ := q1 H2 eN T2
  obtain rfl : u = Value.ref a := ru
  obtain ⟨its, rv, hl, hz⟩ := I2.list hs
  have hlen : its.length = xs.length := rv.length.symm
  obtain ⟨⟨oc, ovs, tk0, hoc, hdc, hvc⟩, _, _⟩ := I2.hok c' _ hco
  have R0 := vals_each rv da
  have kk : ∀ d ∈ ds, ∀ e ∈ ds, sclOk (keyOf j d) (keyOf j e) = true := fun d hd e he => by
    obtain ⟨_, k, _, _, hk', h4⟩ := keysOk_get ok hd
    rw [hk']; exact h4 e he
  have alk : W.AllAlike (ds.map (keyOf j)) ∧ W.Sortable (ds.map (keyOf j)) := by
    refine scl_alike fun x hx y hy => ?_
    obtain ⟨d, hd, rfl⟩ := List.mem_map.mp hx
    obtain ⟨e, he, rfl⟩ := List.mem_map.mp hy
    exact kk d hd e he
  have hun := hr.un
  refine W.sorted_key_data (b := false) (keyOf j) hl.isList R0 alk.1 alk.2 (by rw [← DpAll.len da]; exact hz) (fun d hd => ?_) (ksk_s1 _ _) (fun _ => ksk_l1 _ _) (fun _ => ksk_t1 _ _) (fun u d hR hd h tk kp => ?_) fun out cc h' tk kp fr hget hol eo => ?_
  · have h2 := kk d hd d hd
    have h3 : (keyOf j d).depth ≤ 2 := by
      unfold sclOk at h2
      split at h2
      · rename_i e1 _; rw [e1]; simp [PyData.depth]
      · rename_i e1 _; rw [e1]; simp [PyData.depth]
      · cases h2
    omega
  · obtain ⟨y, ry, dy⟩ := hR
    obtain ⟨ys, k, rfl, hkj, hk', h4⟩ := keysOk_get ok hd
    rw [hk']
    cases dy with
    | @tup t zs _ ht hz' =>
      obtain rfl : u = Value.ref t := ry
      obtain ⟨tis, rvt, pt, _⟩ := I2.tuple (sqT_same sub ht)
      obtain ⟨yv, e1, dk⟩ := DpAll.get hz' hkj
      obtain ⟨uv, e2, rk⟩ := rvt.get e1
      have rd := scl_reads (h4 _ hd) dk rk h
      have hjl : j < tis.length := (List.getElem?_eq_some_iff.mp e2).1
      refine call_at (s := { s2 with heap := h, toks := tk }) (kp _ _ hf) (show X.A.depth < _ from Room.depth hr) co gen hk hcell hloc (fun u => hbind _ _ _ _ u) ⟨c', oc, ovs, tk0, rfl, kp _ _ hoc, hdc, hvc⟩ (I2.nolimit.keeps kp) (pt.keeps kp) (by rw [List.size_toArray]; exact hjl) hjb (by simpa using e2) rd.1 hdv
  · obtain ⟨ys, v1, v2⟩ := each_vals eo
    have hly : ys.length ≤ sizeLine := by rw [v1.length, hol, ← DpAll.len da]; exact hz
    refine ⟨.ref _, upd H2 (s2.heap.objs.size + 1) (.lst ys), I2.laid (t' := tk) kp (Nat.le_succ _) ⟨hly, _, cc, v1, hget⟩, rfl, q ys _ v2 (I2.hok.fresh (Nat.le_succ _))⟩
end
section
variable [Tb]
variable {K : PySem.W.Frag} {X : Cx}
noncomputable def nSortK (j : Nat) (f : En → Option Dt) : En → Option (List Dt) := fun A => (f A).bind fun d => match d with
  | .list ds => if keysOk j ds = true then some (sortKD j ds) else none
  | _ => none
theorem same_ext {F H H2 : Hp} (s : Same F H) (n : NoTb F) (e : ExtN H H2) : Same F H2 := fun b u h => e b u (s b u h) fun ps z => n b ps (by rw [h, z])
theorem sn_sortK {j : Nat} {te : TE} {f : En → Option Dt} (h : SB K te f) : SN K (tSortK K Tb.T j te) (nSortK j f) := fun H0 F H σ A out R e Q q => by
  obtain ⟨d, e1, e⟩ := bind_eq_some e
  cases d with
  | list ds =>
    obtain ⟨ok, rfl⟩ := ite_some e
    refine h H0 F H σ A _ R e1 _ fun F1 H1 x s1 b1 => ⟨x, rfl, (R.step s1).tb.t, fun H2 eN T2 => ?_⟩
    obtain ⟨a, xs, rfl, hs, da⟩ := b1.list s1.sub
    have hs2 : SqL K H2 a xs := by
      rcases hs with (hs | ⟨o, hs⟩) | hs
      · exact .inl (.inl (eN _ _ hs fun _ z => (by cases z)))
      · exact .inl (.inr ⟨o, eN _ _ hs fun _ z => (by cases z)⟩)
      · exact .inr hs
    have sub2 : Same F1 H2 := same_ext s1.sub (R.step s1).tb.n eN
    have sT : SameT H1 H2 := ⟨eN, fun _ => T2⟩
    have st2 : Stp F1 H1 F1 H2 := ⟨Same.refl _, sT, sub2, fun _ h _ => h, fun h => h⟩
    refine ⟨a, F1, xs, ds, rfl, hs2, sub2, da, ok, fun ys p dy np => ?_⟩
    have st := s1.trans st2
    exact q F1 _ p ys (st.newO np) (st.hh.free np) (sub2.free np) upd_same dy
  | _ => cases e
end
end Dv

namespace Dv
open PySem PySem.Spec PyProof.Rows
open L2 hiding Dp DpAll
open LamX (TabS CodeO Tabs ExtN)
/-! ### the law is called -/
/-- a program without lambdas -/
@[reducible] def noT : Tb := ⟨[]⟩
theorem dp_ints {K : PySem.W.Frag} {H : Hp} : ∀ ns : List Int, DpAll K H (ns.map V.int) (ns.map PyData.int)
  | [] => .nil
  | n :: ns => .cons (.int n) (dp_ints ns)
theorem spD_start {K : PySem.W.Frag} {g : List Dt → Option Dt} {a : Addr} {H : Hp} {ns : List Int} (only : Only H) (hS : SqL K H a (ns.map V.int)) (h : g [.list (ns.map .int)] = some (.bool true)) : @spD noT K g [.ref a] H (fun v _ => v = .bl true) (fun _ _ _ => False) := by
  letI : Tb := noT
  refine ⟨H, [.list (ns.map .int)], .bool true, Same.refl _, ⟨fun p hp => (by cases hp), fun b ps e => ?_⟩, .cons (.lst hS (dp_ints ns)) .nil, h, fun F' H' v _ b => ?_⟩
  · rcases only b with z | ⟨o, xs, z⟩
    · rw [z] at e; cases e
    · rw [z] at e; cases e
  · cases b
    rfl
end Dv

namespace Dv
open PySem PySem.Spec PyProof.Rows
open L2 hiding Dp DpAll
open LamX (TabS CodeO Tabs ExtN)
variable [Tb]
/-! ### a < b < c < d -/
def tChain3 (r r' r'' : R2) (ta tb tc td : TE) : TE := fun σ H Q => ta σ H fun x H1 => tb σ H1 fun y H2 => r x y H2 fun z H3 => ∃ k, z = .bl k ∧ (if k = true then tc σ H3 fun w H4 => r' y w H4 fun z2 H5 => ∃ k2, z2 = .bl k2 ∧ (if k2 = true then td σ H5 fun u H6 => r'' w u H6 Q else Q (.bl false) H5) else Q (.bl false) H3)
section
variable {X : Cx} {a b c d : Expr} {ta tb tc td : TE} {pos : Pos} {op op' op'' : CmpOp} {r r' r'' : R2}
theorem pe_chain3 (ho : OpR X (compareOp op) r) (ho' : OpR X (compareOp op') r') (ho'' : OpR X (compareOp op'') r'') (ha : PE X a ta) (hb : PE X b tb) (hc : PE X c tc) (hd : PE X d td)
    (hm : lastMarks [op, op', op''] [b, c, d] = false := by with_unfolding_all rfl) : PE X (.Compare a [op, op', op''] [b, c, d] pos) (tChain3 r r' r'' ta tb tc td) := by
  refine ⟨fun pins s σ H Q I h => ?_⟩
  refine Compare_chain (thn (ha.run pins s σ H _ I h) fun v s1 ⟨x, H1, I1, r1, q1⟩ => chain_link (thn (hb.run pins s1 σ H1 _ I1 q1) fun u s2 ⟨y, H2, I2, r2, q2⟩ =>
    thn (ho pins s2 σ H2 x y v u _ I2 r1 r2 q2) fun e s3 ⟨z, H3, I3, r3, k, ek, q3⟩ => ?_)) hm
  subst ek
  cases r3
  refine wpAny_truthy_bool ?_
  cases k with
  | false => exact ite_ff ⟨.bl false, H3, I3, rfl, q3⟩
  | true =>
    refine ite_tt (chain_link (thn (hc.run pins s3 σ H3 _ I3 q3) fun w' s4 ⟨z', H4, I4, r4, q4⟩ => thn (ho' pins s4 σ H4 y z' u w' _ I4 r2 r4 q4) fun e2 s5 ⟨z2, H5, I5, r5, k2, ek2, q5⟩ => ?_))
    subst ek2
    cases r5
    refine wpAny_truthy_bool ?_
    cases k2 with
    | false => exact ite_ff ⟨.bl false, H5, I5, rfl, q5⟩
    | true => exact ite_tt (chain_last (thn (hd.run pins s5 σ H5 _ I5 q5) fun w2 s6 ⟨z3, H6, I6, r6, q6⟩ => ho'' pins s6 σ H6 z' z3 w' w2 Q I6 r4 r6 q6))
theorem pt_chain3 (ho : OpR X (compareOp op) r) (ho' : OpR X (compareOp op') r') (ho'' : OpR X (compareOp op'') r'') (ha : PE X a ta) (hb : PE X b tb) (hc : PE X c tc) (hd : PE X d td)
    (hm : lastMarks [op, op', op''] [b, c, d] = false := by with_unfolding_all rfl) : PT X (.Compare a [op, op', op''] [b, c, d] pos) (tTest (tChain3 r r' r'' ta tb tc td)) := by
  refine ⟨fun pins s σ H Q I h => ?_⟩
  refine isTrue_chain (thn (ha.run pins s σ H _ I h) fun v s1 ⟨x, H1, I1, r1, q1⟩ => test_link (thn (hb.run pins s1 σ H1 _ I1 q1) fun u s2 ⟨y, H2, I2, r2, q2⟩ =>
    thn (ho pins s2 σ H2 x y v u _ I2 r1 r2 q2) fun e s3 ⟨z, H3, I3, r3, k, ek, q3⟩ => ?_)) hm
  subst ek
  cases r3
  refine wpAny_truthy_bool ?_
  cases k with
  | false =>
    obtain ⟨k', e', q'⟩ := q3
    cases e'
    exact ite_ff ⟨H3, I3, q'⟩
  | true =>
    refine ite_tt (test_link (thn (hc.run pins s3 σ H3 _ I3 q3) fun w' s4 ⟨z', H4, I4, r4, q4⟩ => thn (ho' pins s4 σ H4 y z' u w' _ I4 r2 r4 q4) fun e2 s5 ⟨z2, H5, I5, r5, k2, ek2, q5⟩ => ?_))
    subst ek2
    cases r5
    refine wpAny_truthy_bool ?_
    cases k2 with
    | false =>
      obtain ⟨k', e', q'⟩ := q5
      cases e'
      exact ite_ff ⟨H5, I5, q'⟩
    | true =>
      refine ite_tt (test_last (thn (hd.run pins s5 σ H5 _ I5 q5) fun w2 s6 ⟨z3, H6, I6, r6, q6⟩ => thn (ho'' pins s6 σ H6 z' z3 w' w2 _ I6 r4 r6 q6) fun d' s7 ⟨z4, H7, I7, r7, k4, e4, q7⟩ => ?_))
      subst e4
      cases r7
      exact wpAny_truthy_bool ⟨H7, I7, q7⟩
end
def eChain3 (g g' g'' : Dt → Dt → Option Dt) (fa fb fc fd : En → Option Dt) : En → Option Dt := fun A => (fa A).bind fun x => (fb A).bind fun y => (g x y).bind fun z => (asB z).bind fun k => if k = true then (fc A).bind fun w => (g' y w).bind fun z2 => (asB z2).bind fun k2 => if k2 = true then (fd A).bind fun u => g'' w u else some (.bool false) else some (.bool false)
section
variable {K : PySem.W.Frag} {ta tb tc td : TE} {fa fb fc fd : En → Option Dt}
theorem se_chain3 {r r' r'' : R2} {g g' g'' : Dt → Dt → Option Dt} (ha : SB K ta fa) (hb : SB K tb fb) (hc : SB K tc fc) (hd : SB K td fd) (hr : RS K r g) (hr' : RS K r' g') (hr'' : RS K r'' g'') : SE K (tChain3 r r' r'' ta tb tc td) (eChain3 g g' g'' fa fb fc fd) := fun H0 F H σ A d R e Q q => by
  obtain ⟨x, e1, e⟩ := bind_eq_some e
  obtain ⟨y, e2, e⟩ := bind_eq_some e
  obtain ⟨z, e3, e⟩ := bind_eq_some e
  obtain ⟨k, e4, e⟩ := bind_eq_some e
  rw [asB_some e4] at e3
  refine ha H0 F H σ A x R e1 _ fun F1 H1 v s1 b1 => ?_
  refine hb H0 F1 H1 σ A y (R.step s1) e2 _ fun F2 H2 w s2 b2 => ?_
  refine hr F2 H2 v w x y _ s2.sub (b1.step s2) b2 e3 _ fun F3 H3 z' s3 b3 => ⟨k, dp_bool b3, ?_⟩
  have R3 := (R.step s1).step (s2.trans s3)
  cases k with
  | false => cases e; exact q F3 H3 _ (s1.trans (s2.trans s3)) (.bl false)
  | true =>
    obtain ⟨w', e5, e⟩ := bind_eq_some e
    obtain ⟨z2, e6, e⟩ := bind_eq_some e
    obtain ⟨k2, e7, e⟩ := bind_eq_some e
    rw [asB_some e7] at e6
    refine hc H0 F3 H3 σ A w' R3 e5 _ fun F4 H4 u s4 b4 => ?_
    refine hr' F4 H4 w u y w' _ s4.sub ((b2.step s3).step s4) b4 e6 _ fun F5 H5 z5 s5 b5 => ⟨k2, dp_bool b5, ?_⟩
    have s15 := s1.trans (s2.trans (s3.trans (s4.trans s5)))
    cases k2 with
    | false => cases e; exact q F5 H5 _ s15 (.bl false)
    | true =>
      obtain ⟨u', e8, e⟩ := bind_eq_some e
      refine hd H0 F5 H5 σ A u' (R.step s15) e8 _ fun F6 H6 u6 s6 b6 => ?_
      exact hr'' F6 H6 u u6 w' u' d s6.sub ((b4.step s5).step s6) b6 e _ fun F7 H7 v7 s7 b7 => q F7 H7 v7 (s15.trans (s6.trans s7)) b7
end
section
variable {K : PySem.W.Frag} {X : Cx} {a b c d e : Expr} {ta tb tc td te : TE} {fa fb fc fd f : En → Option Dt} {rr rr' rr'' : R2} {g g' g'' : Dt → Dt → Option Dt} {op op' op'' : CmpOp} {pos p p2 p3 : Pos}
theorem de_chain3 (hc : DC K X op rr g) (hc' : DC K X op' rr' g') (hc'' : DC K X op'' rr'' g'') (ha : DB K X a ta fa) (hb : DB K X b tb fb) (hd : DB K X c tc fc) (he : DB K X d td fd) (hm : lastMarks [op, op', op''] [b, c, d] = false := by with_unfolding_all rfl) : DE K X (.Compare a [op, op', op''] [b, c, d] pos) (tChain3 rr rr' rr'' ta tb tc td) (eChain3 g g' g'' fa fb fc fd) :=
  ⟨ha.hk, pe_chain3 hc.pe hc'.pe hc''.pe ha.pe hb.pe hd.pe he.pe hm, se_chain3 ha.so hb.so hd.so he.so hc.so hc'.so hc''.so⟩
theorem dt_chain3 (hc : DC K X op rr g) (hc' : DC K X op' rr' g') (hc'' : DC K X op'' rr'' g'') (ha : DB K X a ta fa) (hb : DB K X b tb fb) (hd : DB K X c tc fc) (he : DB K X d td fd) (hm : lastMarks [op, op', op''] [b, c, d] = false := by with_unfolding_all rfl) : DT K X (.Compare a [op, op', op''] [b, c, d] pos) (tTest (tChain3 rr rr' rr'' ta tb tc td)) (tOf (eChain3 g g' g'' fa fb fc fd)) :=
  ⟨ha.hk, pt_chain3 hc.pe hc'.pe hc''.pe ha.pe hb.pe hd.pe he.pe hm, st_test (se_chain3 ha.so hb.so hd.so he.so hc.so hc'.so hc''.so)⟩
/-! ### xs[i] = v, xs an own list -/
def sPutL (i : Nat) (fi fv : En → Option Dt) : En → Option Out := fun A => match A[i]? with
  | some (.ol xs) => (fv A).bind fun d => (fi A).bind fun z => match z with
    | .int k => (ixN xs.length k).map fun j => .nx (A.set i (.ol (xs.set j d)))
    | _ => none
  | _ => none
theorem ss_putL {i : Nat} (hi : SE K ta fa) (hv : SE K te f) : SS K (tAsg te (gSub (tVar i) ta rSetL)) (sPutL i fa f) := fun F0 H0 F H σ A o D E R e G => by
  unfold sPutL at e
  split at e
  · rename_i xs hx
    obtain ⟨d, e1, e⟩ := bind_eq_some e
    obtain ⟨z, e2, e⟩ := bind_eq_some e
    cases z with
    | int k =>
      obtain ⟨j, e3, rfl⟩ := map_eq_some e
      obtain ⟨p, vs, h1, h2, h3, h4, h5⟩ := (R.sl i _ hx).ol xs rfl
      refine hv H0 F H σ A d R e1 _ fun F' H' v s b => ?_
      refine ⟨_, h1, ?_⟩
      refine hi H0 F' H' σ A _ (R.step s) e2 _ fun F2 H2 u s2 b2 => ?_
      have st := s.trans s2
      have hp : H2 p = some (.lst vs) := st.hh.l h4
      refine ⟨p, vs, k, j, rfl, dp_int b2, hp, by rw [DpAll.len h5]; exact e3, ?_⟩
      have R' := R.step st
      have hf : F2 p = none := st.fr p h2 (notF_l h4)
      refine G F2 _ σ ((E.step st).mut h3 (by rw [hp]; exact noT_l)) (R'.chg ⟨.inl ⟨xs, hx⟩, h1⟩ ⟨fun _ e => (by cases e), fun ys e => ?_, fun _ e => (by cases e)⟩ fun _ => Sl.noConfusion)
      cases e
      exact ⟨p, _, h1, hf, h3, upd_same, DpAll.set j (dpAll_same st.ff h5) (dp_same s2.ff b)⟩
    | _ => cases e
  · cases e
theorem ds_putL {i : Nat} {x : Str} {pos' : Pos} (hv : PE X (.Name x p) (tVar i)) (hi : DE K X a ta fa) (hw : DE K X e te f)
    (ha : ∀ v, assign (.Subscript (.Name x p) a pos') X.env v = (do
      let ov ← holding [v] (eval (.Name x p) X.env)
      let iv ← holding [v, ov] (eval a X.env)
      standAt pos'
      holding [v, ov, iv] (setItem ov iv v)
      release [v, ov, iv] []) := by intro _; rfl)
    (hs : swapsWithSole [.Subscript (.Name x p) a pos'] e pos.line X.env = pure false := by rfl) (hw2 : swappedStores [.Subscript (.Name x p) a pos'] e X.env = pure none := by rfl) (h1 : (assignEach [.Subscript (.Name x p) a pos'] X.env).map (·.2) = [assign (.Subscript (.Name x p) a pos') X.env] := by rfl) :
    DS K X (.Assign [.Subscript (.Name x p) a pos'] e pos) (tAsg te (gSub (tVar i) ta rSetL)) (sPutL i fa f) := ⟨ps_asg hw.pe (pg_sub hv hi.pe set_list ha) hs hw2 h1, ss_putL hi.so hw.so⟩
/-! ### str(i), xs[::-1] -/
def rStrI : List V → Hp → VK → Prop := fun xs H Q => ∃ i : Int, xs = [.int i] ∧ i.natAbs.log2 < 1920 ∧ Q (.str (toString i)) H
def strD : List Dt → Option Dt
  | [.int i] => if i.natAbs.log2 < 1920 then some (.str (toString i)) else none
  | _ => none
theorem k_strI : CallR X (.type "str") rStrI := call_str_int
theorem cs_strI : CS K rStrI strD := fun F H xs ds d sub h e Q q => by
  unfold strD at e
  split at e
  · obtain ⟨hz, rfl⟩ := ite_some e
    obtain ⟨v, rfl, b⟩ := prd1 h
    exact ⟨_, by rw [b.int], hz, q F H _ (stp0 sub) (.str _)⟩
  · cases e
def nRev (f : En → Option Dt) : En → Option (List Dt) := fun A => (f A).bind fun d => match d with
  | .list xs => some xs.reverse
  | _ => none
theorem sn_rev (h : SB K te f) : SN K (tRevL K te) (nRev f) := fun H0 F H σ A out R e Q q => by
  obtain ⟨d, e1, e⟩ := bind_eq_some e
  cases d with
  | list xs =>
    cases e
    refine h H0 F H σ A _ R e1 _ fun F1 H1 v s b => ?_
    obtain ⟨p, vs, rfl, hs, da⟩ := b.list s.sub
    exact ⟨p, vs, rfl, hs, fun l nl => q F1 _ l _ (s.newO nl) (s.hh.free nl) (s.sub.free nl) upd_same da.rev⟩
  | _ => cases e
theorem dn_rev {k : Nat} (h : DB K X e te f) : DN K X (.Subscript e (.Slice none none (some (.UnaryOp .USub (.Constant (.int 1) k p) p2)) p3) pos) (tRevL K te) (nRev f) := by
  have hk := h.hk
  subst hk
  exact ⟨rfl, pe_revL h.pe, sn_rev h.so⟩
end
end Dv

namespace Dv
open PySem PySem.Spec PyProof.Rows
open L2 hiding Dp DpAll
open LamX (TabS CodeO Tabs ExtN)
/-! ### what the written part says of an exception's class -/
theorem exm_self {K : PySem.W.Frag} {C : Addr} (T : OexC K C) (h : PySem.W.subIn K (.ref C) (.ref C) = some true) : PySem.W.exmOne K (.ref C) (.ref C) = some true := by
  obtain ⟨nm, q, N, bs, bm, sn, sub, ab, col, dd, k0, k1, k2, k3, k5, hC, hbm⟩ := T.cls
  have hcl : (PySem.W.clsIn K C).isSome = true := by unfold PySem.W.clsIn; rw [hC] <;> rfl
  unfold PySem.W.exmOne
  rw [if_pos (by rw [T.exC]; rfl)]
  show (if ((PySem.W.clsIn K C).isSome && PySem.W.typeIn K (.ref C) == some (.type "type")) = true then PySem.W.subIn K (.ref C) (.ref C) else none) = _
  rw [if_pos (by rw [hcl, T.tyC]; rfl), h]
/-! ### a class's body -/
def clsBody : Stmt → List Stmt
  | .ClassDef _ _ _ b _ _ _ _ _ _ _ => b
  | _ => []
/-! ### constants of the module -/
inductive StrVals : List Value → List Str → Prop
  | nil : StrVals [] []
  | cons {z : Str} {t : Tok} {us : List Value} {zs : List Str} : StrVals us zs → StrVals (.str z t :: us) (z :: zs)
theorem StrVals.vals : ∀ {us : List Value} {zs : List Str}, StrVals us zs → Vals (zs.map V.str) us
  | _, _, .nil => .nil
  | _, _, .cons h => .cons ⟨_, rfl⟩ h.vals
theorem dp_strs {K : PySem.W.Frag} {F : Hp} : ∀ zs : List Str, DpAll K F (zs.map V.str) (zs.map PyData.str)
  | [] => .nil
  | z :: zs => .cons (.str z) (dp_strs zs)
section
variable [Tb] {K : PySem.W.Frag} {X : Cx} {pos : Pos} {x : Str}
theorem de_glI {i : Int} (h : ∃ t, X.mg x = some (.int i t)) (hg : Gl X x := by rfl) (hk : X.K = K := by rfl) (hdb : (x == ("__debug__" : Str)) = false := by decide) : DE K X (.Name x pos) (tC (.int i)) (eC (.int i)) := by
  obtain ⟨t, h⟩ := h
  exact de_gl (v := .int i) h ⟨t, rfl⟩ (fun _ => .int i) hg hk hdb
theorem de_glT {a : Addr} {zs : List Str} (h : X.mg x = some (.ref a)) (hs : ∀ F, Dp K F (.ref a) (.tuple (zs.map .str))) (hg : Gl X x := by rfl) (hk : X.K = K := by rfl) (hdb : (x == ("__debug__" : Str)) = false := by decide) : DE K X (.Name x pos) (tC (.ref a)) (eC (.tuple (zs.map .str))) :=
  de_gl (v := .ref a) h rfl hs hg hk hdb
theorem tup_strs {a : Addr} {od : Option Addr} {its : Array Value} {n : Nat} {sl : Array (Option Value)} {zs : List Str} (l : K.lookup a = some ⟨.type "tuple", od, .seq its n, sl⟩) (h : StrVals its.toList zs) (hz : its.size ≤ sizeLine) (F : Hp) : Dp K F (.ref a) (.tuple (zs.map .str)) :=
  .tup (.inr ⟨_, its, n, l, rfl, rfl, hz, h.vals⟩) (dp_strs zs)
/-! ### x = f(..), f a def that may raise -/
theorem dx_set {cv : Str → Value} {y : Str} {i : Nat} {es : List Expr} {ta : TA} {r : En → Option (List Dt)} {g' : List Dt → Option ResX} {p py pos' : Pos} (hN : X.N.Nodup) (h : CallX K cv X x es ta r g') (hi : X.N[i]? = some y := by rfl) (hf : X.fn y = true ∨ X.env.scope.names.lookup y = some .local := by first | exact .inl rfl | exact .inr rfl)
    (hg : PG X (.Name y py) (gName i)) (hx : swapsWithSole [.Name y py] (.Call (.Name x p) es [] pos') pos.line X.env = pure false := by rfl) (hw : swappedStores [.Name y py] (.Call (.Name x p) es [] pos') X.env = pure none := by rfl) (h1 : (assignEach [.Name y py] X.env).map (·.2) = [assign (.Name y py) X.env] := by rfl) :
    DX K cv X (.Assign [.Name y py] (.Call (.Name x p) es [] pos') pos) (fun W => tAsg (tCallS (spX K cv g') (WE W) ta) (gName i)) (xUse (uSet i) g' r) :=
  ⟨fun W tk _ => ps_asg (h.pe W tk p pos') hg hx hw h1, sx_set h.so⟩
end
/-! ### a def whose code object is known -/
structure FunC (K : PySem.W.Frag) (x qual : Str) (st : Stmt) (f : Addr) (fd : FuncData) (cd : Value) : Prop where
  ex : ∃ (oc : Value) (od : Option Addr) (kV doc pm : Value) (an : Option Addr) (ct : Value) (osl : Array (Option Value)),
    fd = PySem.W.fnOf x qual (defArgs st) (defBody st) (defScope st) .none kV doc pm an cd ct ∧ K.lookup f = some ⟨oc, od, .func fd, osl⟩ ∧ PySem.W.codeIn K cd qual = true
  kp : PySem.W.keepIn K (.ref f) = true
theorem FunC.fn {K : PySem.W.Frag} {x qual : Str} {st : Stmt} {f : Addr} {fd : FuncData} {cd : Value} (F : FunC K x qual st f fd cd) : Fun K x qual st f fd := by
  obtain ⟨⟨oc, od, kV, doc, pm, an, ct, osl, h1, h2, h3⟩, k⟩ := F
  exact ⟨⟨oc, od, kV, doc, pm, an, cd, ct, osl, h1, h2, h3⟩, k⟩
theorem funC_mk {K : PySem.W.Frag} {x qual : Str} {st : Stmt} {f : Addr} {oc : Value} {od an : Option Addr} {osl : Array (Option Value)} {kV doc pm cdv ct : Value} (l : K.lookup f = some ⟨oc, od, .func (PySem.W.fnOf x qual (defArgs st) (defBody st) (defScope st) .none kV doc pm an cdv ct), osl⟩)
    (c : PySem.W.codeIn K cdv qual = true) (k : PySem.W.keepIn K (.ref f) = true) : FunC K x qual st f (PySem.W.fnOf x qual (defArgs st) (defBody st) (defScope st) .none kV doc pm an cdv ct) cdv := ⟨⟨oc, od, kV, doc, pm, an, ct, osl, rfl, l, c⟩, k⟩
section
variable [Tb] {P : Program} {w : World} {K : PySem.W.Frag} {cv : Str → Value} {mg : Str → Option Value} {base : Heap}
theorem ok_defC {cd : Value} {x qual : Str} {st : Stmt} {f : Addr} {fd : FuncData} {N ps : List Str} {k : Nat} {ts : TS} {run : En → Option Out} (F : FunC K x qual st f fd cd) (S : FnScope N ps (defScope st))
    (body : ∀ (A : Around) (outer : List Env) (s : Shared) (H : Hp) (E : XK), Room k (A.deeper (envOfC qual (defScope st) s.heap.objs.size f cd)) → DSs K (cxOf CX0 P w K mg base N qual (defScope st) f cd A outer s H E).nox (defBody st) ts run) :
    FnOk P w K mg base CX0 (k + 1) f fd ps (spD K (semF N.length ps.length run)) := by
  obtain ⟨⟨oc, od, kV, doc, pm, an, ct, osl, rfl, lk, hcd⟩, _⟩ := F
  refine fn_of lk hcd S (fun vs H Q E h => ?_) (fun A outer s H vs Q E hr h => ?_)
  · obtain ⟨F', ds, d, _, _, a, e, _⟩ := h
    unfold semF at e
    split at e
    · rename_i hl
      rw [DpAll.len a]; exact hl
    · cases e
  · obtain ⟨F', ds, d, sub, tb, a, e, q⟩ := h
    have B := body A outer s H E hr
    refine ⟨ts, B.pe.nox, ?_⟩
    unfold semF at e
    split at e
    case isFalse => cases e
    rename_i hl
    cases e1 : run (ds.map Sl.d ++ List.replicate (N.length - ps.length) Sl.no) with
    | none => rw [e1] at e; cases e
    | some o =>
      rw [e1] at e
      have R := start_rl (N := N) sub tb a
      rw [hl] at R
      refine B.so F' H F' H (L2.start N vs) _ o _ ⟨Same.refl _, SameT.refl _, fun _ h _ => h, fun h => h⟩ R e1 ?_
      cases o with
      | rt d' =>
        cases e
        exact fun F2 H2 v E2 s2 b2 => q F2 H2 v ⟨E2.ff, E2.hh, s2, E2.fr, E2.ft⟩ b2
      | nx A' =>
        cases e
        exact fun F2 H2 σ2 E2 R2 => q F2 H2 .non ⟨E2.ff, E2.hh, R2.sub, E2.fr, E2.ft⟩ .non
      | bk _ => cases e
      | ct _ => cases e
theorem ok_defCX {cd : Value} {x qual : Str} {st : Stmt} {f : Addr} {fd : FuncData} {N ps : List Str} {k : Nat} {ts : WX → TS} {run : En → Option OutX} (F : FunC K x qual st f fd cd) (S : FnScope N ps (defScope st))
    (body : ∀ (A : Around) (outer : List Env) (s : Shared) (H : Hp) (E : XK), Room k (A.deeper (envOfC qual (defScope st) s.heap.objs.size f cd)) → DXs K cv (cxOf (L2.CX P w) P w K mg base N qual (defScope st) f cd A outer s H E) (defBody st) ts run) :
    FnOk P w K mg base (L2.CX P w) (k + 1) f fd ps (spX K cv (semX N.length ps.length run)) := by
  obtain ⟨⟨oc, od, kV, doc, pm, an, ct, osl, rfl, lk, hcd⟩, _⟩ := F
  refine fn_of lk hcd S (fun vs H Q E h => ?_) (fun A outer s H vs Q E hr h => ?_)
  · obtain ⟨F', ds, d, _, _, a, e, _⟩ := h
    unfold semX at e
    split at e
    · rename_i hl
      rw [DpAll.len a]; exact hl
    · cases e
  · obtain ⟨F', ds, z, sub, tb, a, e, q⟩ := h
    have B := body A outer s H E hr
    refine ⟨ts (fun cls d _ H => E cls d H), B.pe _ (takes_of rfl rfl rfl rfl) (passes_of rfl), ?_⟩
    unfold semX at e
    split at e
    case isFalse => cases e
    rename_i hl
    cases e1 : run (ds.map Sl.d ++ List.replicate (N.length - ps.length) Sl.no) with
    | none => rw [e1] at e; cases e
    | some o =>
      rw [e1] at e
      have R := start_rl (N := N) sub tb a
      rw [hl] at R
      refine B.so _ F' H F' H (L2.start N vs) _ o _ ⟨Same.refl _, SameT.refl _, fun _ h _ => h, fun h => h⟩ R e1 ?_
      cases o with
      | ex A' c fs =>
        cases e
        exact fun F2 H2 σ2 d E2 R2 x2 => q F2 H2 d ⟨E2.ff, E2.hh, R2.sub, E2.fr, E2.ft⟩ x2
      | ok o =>
        cases o with
        | rt d' =>
          cases e
          exact fun F2 H2 v E2 s2 b2 => q F2 H2 v ⟨E2.ff, E2.hh, s2, E2.fr, E2.ft⟩ b2
        | nx A' =>
          cases e
          exact fun F2 H2 σ2 E2 R2 => q F2 H2 .non ⟨E2.ff, E2.hh, R2.sub, E2.fr, E2.ft⟩ .non
        | bk _ => cases e
        | ct _ => cases e
/-- sorted(e, key=lambda v: v[j]) -/
theorem dn_sortK {X : Cx} {c P : Addr} {e : Expr} {te : TE} {f : En → Option Dt} {params : Arguments} {scope : Scope} {v : Str} {p lpos kpos p1 p2 p3 pos : Pos} {kd j n : Nat} (TB : LamX.TabB X.base X.mg c P) (hcode : X.env.code = .ref c) (hT : (P, X.env.qual ++ "<lambda>") ∈ Tb.T ∧ ∀ q ∈ Tb.T, q.1 = P → q.2 = X.env.qual ++ "<lambda>") (hr : Room (n + 2) X.A) (hm : X.mg "sorted" = none) (ha : DB K X e te f)
    (co : scope.isCoroutine = false := by rfl) (gen : scope.isGenerator = false := by rfl) (hk : scope.kind = .function := by rfl) (hcell : ∀ x ∈ scope.names, x.2 ≠ .cell := by decide) (hfree : ∀ x ∈ scope.names, x.2 ≠ .free := by decide) (hloc : scope.names.lookup v = some .local := by rfl) (hcl : ∀ cells, cloFrom cells scope.names [] = [] := by intro _; rfl) (hdef : defaultsOf params X.env = ([], []) := by rfl)
    (hbind : ∀ (q : Str) (pm cdv ctv u : Value), bindArgs (W.kla_fn "<lambda>" q params (.Subscript (.Name v p1) (.Constant (.int (j : Int)) kd p2) p3) scope [] pm cdv ctv) ⟨[u], []⟩ = pure [(v, u)] := by intro _ _ _ _ _; rfl) (hjb : j < 2 ^ 40 := by decide) (hd : (v == ("__debug__" : Str)) = false := by decide) (hg : Gl X "sorted" := by rfl)
    (hst : starEach [e] X.env = (false, eval e X.env) :: starEach [] X.env := by rfl) (he : backTo pos (starEach [e] X.env) = (false, eval e X.env) :: backTo pos (starEach [] X.env) := by rfl) (hpl : (backTo pos (starEach [e] X.env)).any (·.1) = false := by rfl)
    (hall : (backToKw pos (keywordEach [⟨some "key", .Lambda params (.Subscript (.Name v p1) (.Constant (.int (j : Int)) kd p2) p3) scope lpos, kpos⟩] X.env)).all (·.1.isSome) = true := by rfl) (hnone : (backToKw pos (keywordEach [⟨some "key", .Lambda params (.Subscript (.Name v p1) (.Constant (.int (j : Int)) kd p2) p3) scope lpos, kpos⟩] X.env)).any (·.1.isNone) = false := by rfl) :
    DN K X (.Call (.Name "sorted" p) [e] [⟨some "key", .Lambda params (.Subscript (.Name v p1) (.Constant (.int (j : Int)) kd p2) p3) scope lpos, kpos⟩] pos) (tSortK K Tb.T j te) (nSortK j f) := by
  have h := ha.hk
  subst h
  exact ⟨rfl, pe_sortK TB hcode hT.1 hT.2 hr hm ha.pe co gen hk hcell hfree hloc hcl hdef hbind hjb hd hg (by decide) hst he hpl hall hnone, sn_sortK ha.so⟩
end
end Dv

namespace Dv
open PySem PySem.Spec PyProof.Rows
open L2 hiding Dp DpAll
open LamX (TabS CodeO Tabs ExtN LawAtS)
/-! ### a law over a program with lambdas -/
theorem walk_mine {l : PySem.W.OpenLaw} {n k : Nat} {q : Program} {loose : List Str} {XP : (Str → Option Value) → Heap → Prop} {YP : World → Heap → Prop} {d : DefRec} {K : Params → PySem.W.Frag} {CX : World → CXT} {x : Str}
    (hn : l.most = some n) (hn2 : n ≤ sizeLine) (hdf : d.params.defaults = []) (hr : Room k callerA) (hY : ∀ (w : World) (h : Heap), YP w h → (K w.params).In h)
    (F : ∀ (w : World) (mean : ExcName → Option Value) (mg mb : Str → Option Value) (fa : Addr) (h : Heap), Top q (PySem.W.looseW q loose) mean mg mb h → (K w.params).In h → h.Ns mainGlobals mg → mg d.name = some (.ref fa) → LawAtS l w (K w.params) (CX w) k n x mg fa h)
    (hCX : ∀ (w : World) (H : Hp) (s : Shared) (e : Value) (s' : Shared), CX w [] H s (fun _ _ _ => False) e s' → False) :
    PySem.W.WalkO q loose XP YP l.row.toRowW d [] (fun f vs => PySem.call f vs) := by
  refine Att.attach_callB hn hdf fun w s₀ s₁ mg mb fa o pm cd doc a vs ns G Y ho hd hcd hmg hobj hints hlen hbits hg => ?_
  have KX := hY w _ Y
  obtain ⟨fd, cs, sp, hT, nT, C, hb, hsp, hF⟩ := F w _ mg mb fa _ G.T KX G.T.g hmg
  exact LamX.law_callTs KX G.T.g G.T.b G.T.builtins G.T.nolimit hg hT nT C G.T.bmain hobj hints (Nat.le_trans hlen hn2) hr hF hb (fun H hH hS => hsp H a ns hlen hbits hH hS) fun H e s' => hCX w H s₁ e s'
theorem tab_facts {p : Program} {loose : List Str} {mean : ExcName → Option Value} {mg mb : Str → Option Value} {h : Heap} {K : PySem.W.Frag} {x : Str} {d : DefRec} {f c P : Addr} {oc a1 : Value} {od a2 : Option Addr} {sl a3 : Array (Option Value)} {ws : Array Value} {fd : FuncData}
    (T : Top p loose mean mg mb h) (X : K.In h) (hr : (recsOf p).find? (fun e => e.name == x) = some d) (q : PySem.W.nsIn K mainGlobals x = some (some (.ref f))) (l : K.lookup f = some ⟨oc, od, .func fd, sl⟩) (hc : fd.code = .ref c) (lc : K.lookup c = some ⟨a1, a2, .fields ws, a3⟩) (hv : ws[11]? = some (.ref P)) :
    PySem.W.CodeHd h c P ∧ h.get? P = some { cls := .none, data := .fields #[] } := PySem.W.tab_of T X hr (by
  unfold PySem.W.tabIn
  simp only [q, l, hc, lc, hv])
open Classical in
theorem spD_startT {K : PySem.W.Frag} {g : List Dt → Option Dt} {a : Addr} {H : Hp} {ns : List Int} {T : List (Addr × Str)} (hT : ∀ p ∈ T, H p.1 = some (.tbl #[])) (hS : SqL K H a (ns.map V.int)) (h : g [.list (ns.map .int)] = some (.bool true)) : @spD ⟨T⟩ K g [.ref a] H (fun v _ => v = .bl true) (fun _ _ _ => False) := by
  letI : Tb := ⟨T⟩
  -- what is data: the list of the script alone
  refine ⟨fun b => if ∃ ps, H b = some (.tbl ps) then none else H b, [.list (ns.map .int)], .bool true, fun b u e => ?_, ⟨fun p hp => LamX.TabS.nil (hT p hp), fun b ps e => ?_⟩, .cons (.lst ?_ (dp_ints ns)) .nil, h, fun F' H' v _ b => ?_⟩
  · have e' : (if ∃ ps, H b = some (.tbl ps) then none else H b) = some u := e
    split at e'
    · cases e'
    · exact e'
  · have e' : (if ∃ ps, H b = some (.tbl ps) then none else H b) = some (.tbl ps) := e
    split at e'
    · cases e'
    · rename_i hn
      exact hn ⟨ps, e'⟩
  · rcases hS with (hS | ⟨o, hS⟩) | hS
    · exact .inl (.inl (by show (if ∃ ps, H a = some (.tbl ps) then none else H a) = _; rw [if_neg (by rintro ⟨ps, z⟩; rw [hS] at z; cases z)]; exact hS))
    · exact .inl (.inr ⟨o, by show (if ∃ ps, H a = some (.tbl ps) then none else H a) = _; rw [if_neg (by rintro ⟨ps, z⟩; rw [hS] at z; cases z)]; exact hS⟩)
    · exact .inr hS
  · cases b
    rfl
end Dv

namespace Dv
open PySem PySem.Spec PyProof.Rows
open L2 hiding Dp DpAll
open LamX (TabS CodeO Tabs ExtN)
variable [Tb]
/-! ### a, b = [list(x) for x in xs]: own lists all -/
/-- fresh lists, apart from each other and from D -/
def OLs (K : PySem.W.Frag) (F H Hs : Hp) (D : Addr) : List V → List (List Dt) → Prop
  | [], [] => True
  | v :: vs, ys :: yss => (∃ p us, v = .ref p ∧ p ≠ D ∧ FreeT Hs p ∧ F p = none ∧ H p = some (.lst us) ∧ DpAll K F us ys ∧ v ∉ vs) ∧ OLs K F H Hs D vs yss
  | _, _ => False
section
variable {K : PySem.W.Frag} {F H Hs F' H' : Hp} {D : Addr}
theorem OLs.step : ∀ {vs : List V} {yss : List (List Dt)}, OLs K F H Hs D vs yss → Stp F H F' H' → OLs K F' H' Hs D vs yss
  | [], [], _, _ => trivial
  | v :: vs, ys :: yss, ⟨⟨p, us, h1, h2, h3, h4, h5, h6, h7⟩, t⟩, s => ⟨⟨p, us, h1, h2, h3, s.fr p h4 (notF_l h5), s.hh.l h5, dpAll_same s.ff h6, h7⟩, OLs.step t s⟩
  | [], _ :: _, h, _ => h.elim
  | _ :: _, [], h, _ => h.elim
theorem OLs.len : ∀ {vs : List V} {yss : List (List Dt)}, OLs K F H Hs D vs yss → vs.length = yss.length
  | [], [], _ => rfl
  | v :: vs, ys :: yss, ⟨_, t⟩ => by rw [List.length_cons, List.length_cons, OLs.len t]
  | [], _ :: _, h => h.elim
  | _ :: _, [], h => h.elim
theorem OLs.get : ∀ {vs : List V} {yss : List (List Dt)}, OLs K F H Hs D vs yss → ∀ v ∈ vs, ∃ p us, v = .ref p ∧ p ≠ D ∧ FreeT Hs p ∧ H p = some (.lst us)
  | [], [], _, _, hv => nomatch hv
  | v :: vs, ys :: yss, ⟨⟨p, us, h1, h2, h3, h4, h5, h6, h7⟩, t⟩, w, hw => by
    rcases List.mem_cons.mp hw with e | e
    · exact ⟨p, us, e.trans h1, h2, h3, h5⟩
    · exact OLs.get t w e
  | [], _ :: _, h, _, _ => h.elim
  | _ :: _, [], h, _, _ => h.elim
theorem OLs.notin {vs : List V} {yss : List (List Dt)} (h : OLs K F H Hs D vs yss) {p : Addr} (n : FreeT H p) : V.ref p ∉ vs := fun hv => by
  obtain ⟨q, us, e, _, _, hq⟩ := h.get _ hv
  cases e
  exact notF_l hq n
theorem OLs.snoc {p : Addr} {us : List V} {zs : List Dt} (h2 : p ≠ D) (h3 : FreeT Hs p) (h4 : F p = none) (h5 : H p = some (.lst us)) (h6 : DpAll K F us zs) : ∀ {vs : List V} {yss : List (List Dt)}, OLs K F H Hs D vs yss → V.ref p ∉ vs → OLs K F H Hs D (vs ++ [.ref p]) (yss ++ [zs])
  | [], [], _, _ => ⟨⟨p, us, rfl, h2, h3, h4, h5, h6, by simp⟩, trivial⟩
  | v :: vs, ys :: yss, ⟨⟨q, ws, g1, g2, g3, g4, g5, g6, g7⟩, t⟩, n => by
    refine ⟨⟨q, ws, g1, g2, g3, g4, g5, g6, fun z => ?_⟩, OLs.snoc h2 h3 h4 h5 h6 t fun z => n (List.mem_cons_of_mem _ z)⟩
    rcases List.mem_append.mp z with z | z
    · exact g7 z
    · exact n (by rw [List.mem_singleton.mp z]; exact List.mem_cons_self)
  | [], _ :: _, h, _ => h.elim
  | _ :: _, [], h, _ => h.elim
theorem OLs.upd {o : HO} : ∀ {vs : List V} {yss : List (List Dt)}, OLs K F H Hs D vs yss → OLs K F (L2.upd H D o) Hs D vs yss
  | [], [], _ => trivial
  | v :: vs, ys :: yss, ⟨⟨p, us, h1, h2, h3, h4, h5, h6, h7⟩, t⟩ => ⟨⟨p, us, h1, h2, h3, h4, by rw [upd_ne h2]; exact h5, h6, h7⟩, OLs.upd t⟩
  | [], _ :: _, h => h.elim
  | _ :: _, [], h => h.elim
end
variable (K : PySem.W.Frag) in
def SLL (te : TE) (f : En → Option (List (List Dt))) : Prop := ∀ H0 F H σ A yss, Rl K H0 F H σ A → f A = some yss → ∀ Q : VK, (∀ F' H' D vs, Stp F H F' H' → F' D = none → H' D = some (.lst vs) → OLs K F' H' H D vs yss → Q (.ref D) H') → te σ H Q
def llD (g : Dt → En → Option En) (tt : En → Option Bool) (te : En → Option (List Dt)) (A : En) : List Dt → Option (List (List Dt))
  | [] => some []
  | x :: xs => (g x A).bind fun A1 => (tt A1).bind fun b => (if b = true then (te A1).map fun d => [d] else some []).bind fun ys => (llD g tt te A xs).bind fun r => some (ys ++ r)
def nLL (vs : List Nat) (it : En → Option (List Dt)) (g : Dt → En → Option En) (tt : En → Option Bool) (te : En → Option (List Dt)) : En → Option (List (List Dt)) := fun A => (it A).bind fun xs => if xs.length ≤ sizeLine then llD g tt te (wipeA A vs) xs else none
section
variable {K : PySem.W.Frag} {te : TE} {fl : En → Option (List Dt)}
theorem sl_lc {vs : List Nat} {wi : TI} {it : En → Option (List Dt)} {is : List Nat} {g : TG} {h : Dt → En → Option En} {tt : TT} {b1 : En → Option Bool} (hi : SI K wi it) (hg : SG K is g h) (hiv : ∀ i ∈ is, i ∈ vs) (ht : ST K tt b1) (he : SN K te fl) : SLL K (tLc wi g tt te vs) (nLL vs it h b1 fl) := fun H0 F H σ A out R e Q q => by
  obtain ⟨xs, e1, e⟩ := bind_eq_some e
  by_cases hz : xs.length ≤ sizeLine
  case neg => rw [if_neg hz] at e; cases e
  rw [if_pos hz] at e
  refine hi H0 F H σ A xs R e1 _ fun J F1 H1 s1 wk D nD => ?_
  have R1 := (R.step s1).wipe vs
  have fD : F1 D = none := s1.sub.free nD
  refine ⟨fun i m H' => ∃ F' acc dn rest, Stp F1 H1 F' H' ∧ F' D = none ∧ H' D = some (.lst acc) ∧ OLs K F' H' H D acc dn ∧ dn.length ≤ i ∧ i + m = xs.length ∧ llD h b1 fl (wipeA A vs) (xs.drop i) = some rest ∧ dn ++ rest = out,
    ⟨xs.length, F1, [], [], out, (stp0 s1.sub).newO nD, fD, upd_same, trivial, Nat.le_refl _, Nat.zero_add _, e, rfl⟩, ?_⟩
  rintro i m H' ⟨F', acc, dn, rest, s', f', hD, a', hle, hl, e', eo⟩
  by_cases hlt : i < xs.length
  · obtain ⟨w1, w2⟩ := wk i F' H' s'.ff s'.sub
    obtain ⟨hgo, hy⟩ := w1 xs[i] (List.getElem?_eq_getElem hlt)
    rw [List.drop_eq_getElem_cons hlt] at e'
    obtain ⟨A1, e2, e'⟩ := bind_eq_some e'
    obtain ⟨b, e3, e'⟩ := bind_eq_some e'
    obtain ⟨ys, e4, e'⟩ := bind_eq_some e'
    obtain ⟨r, e5, e'⟩ := bind_eq_some e'
    cases e'
    refine .inr ⟨hgo, fun H3 => ∃ F3 acc3 dn3, Stp F1 H1 F3 H3 ∧ F3 D = none ∧ H3 D = some (.lst acc3) ∧ OLs K F3 H3 H D acc3 dn3 ∧ dn3.length ≤ i + 1 ∧ dn3 ++ r = out, fun H3 ⟨F3, acc3, dn3, t1, t2, t3, t4, t5, t6⟩ => ⟨m - 1, by omega, F3, acc3, dn3, r, t1, t2, t3, t4, t5, by omega, e5, t6⟩, fun v H2 y => ?_⟩
    obtain ⟨F2, s2, bv⟩ := hy v H2 y
    have s12 := s'.trans s2
    have f2 : F2 D = none := s2.fr D f' (notF_l hD)
    have h2 : H2 D = some (.lst acc) := s2.hh.l hD
    refine hg H0 F2 H2 _ _ v _ A1 (R1.step s12) bv e2 _ fun σ2 R2 hw => ⟨?_, ?_⟩
    · rw [hw vs hiv]
      refine List.ext_getElem? fun j => ?_
      rw [wipe_get, wipe_get, wipe_length]
      by_cases hj : j ∈ vs
      · rw [if_pos hj, if_pos hj]
      · rw [if_neg hj, if_neg hj]
    refine ht H0 F2 H2 σ2 A1 b R2 e3 _ fun F3 H3 s3 => ?_
    have f3 : F3 D = none := s3.fr D f2 (notF_l h2)
    have h3 : H3 D = some (.lst acc) := s3.hh.l h2
    cases b with
    | false =>
      rw [if_neg Bool.false_ne_true] at e4 ⊢
      cases e4
      exact ⟨F3, acc, dn, s12.trans s3, f3, h3, a'.step (s2.trans s3), by omega, eo⟩
    | true =>
      rw [if_pos rfl] at e4 ⊢
      obtain ⟨d, e6, rfl⟩ := map_eq_some e4
      refine he H0 F3 H3 σ2 A1 d (R2.step s3) e6 _ fun F4 H4 p4 us4 s4 n1 n2 n3 n4 => ?_
      have f4 : F4 D = none := s4.fr D f3 (notF_l h3)
      have h4 : H4 D = some (.lst acc) := s4.hh.l h3
      have a3 := a'.step (s2.trans s3)
      have nD4 : p4 ≠ D := fun z => by
        rw [z] at n1
        exact notF_l h3 n1
      have nf : FreeT H p4 := s1.hh.freeT ((s12.trans s3).hh.freeT n1)
      refine ⟨acc, h4, by rw [a'.len]; omega, F4, acc ++ [.ref p4], dn ++ [d], (s12.trans (s3.trans s4)).mut (freeT_n nD) f4 (by rw [h4]; exact noT_l), f4, upd_same, ((a3.step s4).snoc nD4 nf n2 n3 n4 (a3.notin n1)).upd, ?_, ?_⟩
      · rw [List.length_append]; simp only [List.length_cons, List.length_nil]; omega
      · rw [← eo, List.append_assoc]
  · have e0 : xs.drop i = [] := List.drop_eq_nil_of_le (by omega)
    rw [e0] at e'
    cases e'
    rw [List.append_nil] at eo
    subst eo
    obtain ⟨w1, w2⟩ := wk i F' H' s'.ff s'.sub
    exact .inl ⟨w2 (by omega), q F' H' D acc (s1.trans s') f' hD a'⟩
end
/-! ### into slots -/
def gNames : List Nat → TGs
  | [] => gNil
  | i :: is => gCons (gName i) (gNames is)
def setOs : List Nat → List (List Dt) → En → En
  | i :: is, ys :: yss, A => setOs is yss (A.set i (.ol ys))
  | _, _, A => A
section
variable {K : PySem.W.Frag} {H0 F H Hs : Hp} {D : Addr}
theorem unpack_ok : ∀ (is : List Nat) {vs : List V} {yss : List (List Dt)} {σ : L2.St} {A : En} {Q : L2.St → Hp → Prop}, Rl K H0 F H σ A → OLs K F H Hs D vs yss → (∀ p, FreeT Hs p → FreeT H0 p) → (∀ p, V.ref p ∈ vs → ∀ j, Own σ A j p → False) → is.length = yss.length → (∀ σ', Rl K H0 F H σ' (setOs is yss A) → Q σ' H) → gNames is vs σ H Q
  | [], [], [], σ, A, Q, R, _, _, _, _, q => ⟨rfl, q σ R⟩
  | i :: is, v :: vs, ys :: yss, σ, A, Q, R, ⟨⟨p, us, h1, h2, h3, h4, h5, h6, h7⟩, t⟩, hs, no, hl, q => by
    subst h1
    refine ⟨.ref p, vs, rfl, ?_⟩
    have R1 : Rl K H0 F H (σ.set i (some (.ref p))) (A.set i (.ol ys)) := R.setG (fun hlt => ⟨fun _ e => (by cases e), fun zs e => by cases e; exact ⟨p, us, set_self hlt, h4, hs p h3, h5, h6⟩, fun _ e => (by cases e)⟩) fun p' e _ j hj o => by
      cases e
      exact no p List.mem_cons_self j o
    refine unpack_ok is R1 t hs (fun p' hp j o => ?_) (by simpa using hl) q
    by_cases hj : j = i
    · subst hj
      obtain ⟨_, o2⟩ := o
      rcases get_set o2 with ⟨_, e⟩ | ⟨e, _⟩
      · have e' : V.ref p' = V.ref p := by simpa using e
        cases e'
        exact h7 hp
      · exact absurd rfl e
    · refine no p' (List.mem_cons_of_mem _ hp) j ?_
      obtain ⟨o1, o2⟩ := o
      rw [List.getElem?_set_ne (fun z => hj z.symm)] at o2
      rw [List.getElem?_set_ne (fun z => hj z.symm)] at o1
      exact ⟨o1, o2⟩
  | [], _ :: _, _ :: _, _, _, _, _, _, _, _, hl, _ => by simp at hl
  | _ :: _, [], [], _, _, _, _, _, _, _, hl, _ => by simp at hl
  | _, [], _ :: _, _, _, _, _, h, _, _, _, _ => h.elim
  | _, _ :: _, [], _, _, _, _, h, _, _, _, _ => h.elim
def sUnp (is : List Nat) (f : En → Option (List (List Dt))) : En → Option Out := fun A => (f A).bind fun yss => if yss.length = is.length then some (.nx (setOs is yss A)) else none
theorem ss_unp {is : List Nat} {te : TE} {f : En → Option (List (List Dt))} (h : SLL K te f) : SS K (tAsg te (gLst K is.length (gNames is))) (sUnp is f) := fun F0 H0 F H σ A o D E R e G => by
  obtain ⟨yss, e1, e⟩ := bind_eq_some e
  obtain ⟨hl, rfl⟩ := ite_some e
  refine h H0 F H σ A yss R e1 _ fun F' H' D' vs s fD hD ol => ?_
  refine ⟨D', vs, rfl, SqL.of hD, by rw [ol.len, hl], ?_⟩
  refine unpack_ok is (R.step s) ol (fun p hp => E.hh.freeT hp) (fun p hp j o => ?_) hl.symm fun σ' R' => G F' H' σ' (E.step s) R'
  obtain ⟨q, us, e, _, hq, _⟩ := ol.get _ hp
  cases e
  obtain ⟨_, _, u, hu⟩ := R.own_at o
  obtain ⟨ps, z⟩ := hq u hu
  exact (R.own_noT o).1 ps (by rw [hu, z])
end
section
variable {K : PySem.W.Frag} {X : Cx} {tg it elt e : Expr} {wi : TI} {xs : En → Option (List Dt)} {is : List Nat} {gg : TG} {h : Dt → En → Option En} {ifs : List Expr} {tt : TT} {b1 : En → Option Bool} {te : TE} {fl : En → Option (List Dt)} {scope : Scope} {own : List (Str × Nat)} {pos pos' pos2 : Pos}
structure DLL (K : PySem.W.Frag) (X : Cx) (e : Expr) (te : TE) (f : En → Option (List (List Dt))) : Prop where
  hk : X.K = K
  pe : PE X e te
  so : SLL K te f
theorem dll_lc (hN : X.N.Nodup) (hi : DI K X tg it wi xs) (ok : BlkOk X.N X.env.scope scope own)
    (hg : ∀ s H C cl fp, DG K (blkOf X scope s H C cl fp) is tg gg h) (hiv : ∀ i ∈ is, i ∈ own.map (·.2)) (ht : ∀ s H C cl fp, DTs K (blkOf X scope s H C cl fp) ifs tt b1) (he : ∀ s H C cl fp, DN K (blkOf X scope s H C cl fp) elt te fl) (hk : X.K = K := by rfl) (hc : X.calm = true := by rfl) (hs : ∀ x, foldedSetIterable it X.env x = pure x := by intro _; rfl) :
    DLL K X (.ListComp elt [⟨tg, it, ifs, 0⟩] scope pos) (tLc wi gg tt te (own.map (·.2))) (nLL (own.map (·.2)) xs h b1 fl) :=
  ⟨hk, pe_lc hc hN hi.pe ok (fun s H C cl fp => (hg s H C cl fp).pe) (fun s H C cl fp => (ht s H C cl fp).pe) (fun s H C cl fp => (he s H C cl fp).pe) hs, sl_lc hi.so (hg X.s_0 X.H_0 0 [] []).so hiv (ht X.s_0 X.H_0 0 [] []).so (he X.s_0 X.H_0 0 [] []).so⟩
theorem ds_unp {es : List Expr} {k : Nat} {f : En → Option (List (List Dt))} (h : DLL K X e te f) (hg : PGs X es (gNames is)) (hc : X.calm = true := by rfl) (hn : (assignEach es X.env).length = is.length := by rfl) (hst : (assignEach es X.env).findIdx? (·.1) = none := by rfl)
    (hx : swapsWithSole [.Tuple es k pos2] e pos.line X.env = pure false := by rfl) (hw : swappedStores [.Tuple es k pos2] e X.env = pure none := by rfl) (h1 : (assignEach [.Tuple es k pos2] X.env).map (·.2) = [assign (.Tuple es k pos2) X.env] := by rfl) :
    DS K X (.Assign [.Tuple es k pos2] e pos) (tAsg te (gLst K is.length (gNames is))) (sUnp is f) := by
  have hk := h.hk
  subst hk
  exact ⟨ps_asg h.pe (pg_lst hc hg hn hst) hx hw h1, ss_unp h.so⟩
end
end Dv

/-! comprehensions within comprehensions -/
namespace Dv
open PySem PySem.Spec PyProof.Rows
open L2 hiding Dp DpAll
def blkSc (o s : Scope) : Scope := { s with names := s.names.map fun (n, k) => if (k == NameKind.free && o.kind == .function && o.names.lookup n == some .cell) then (n, NameKind.cell) else (n, k) }
section
variable [Tb] {K : PySem.W.Frag} {X1 : Cx} {tg it elt : Expr} {wi : TI} {xs : En → Option (List Dt)} {is : List Nat} {gg : TG} {h : Dt → En → Option En} {ifs : List Expr} {tt : TT} {b1 : En → Option Bool} {te : TE} {f : En → Option Dt} {sc1 scope : Scope} {own : List (Str × Nat)} {pos : Pos} {s1 : Shared} {H1 : Hp} {C1 : Addr} {cl1 : List (Str × Addr)} {fp1 : List Addr}
theorem dn_lcB (hN : X1.N.Nodup) (hi : DI K (blkOf X1 sc1 s1 H1 C1 cl1 fp1) tg it wi xs) (ok : BlkOk X1.N (blkSc X1.env.scope sc1) scope own)
    (hg : ∀ s H C cl fp, DG K (blkOf (blkOf X1 sc1 s1 H1 C1 cl1 fp1) scope s H C cl fp) is tg gg h) (hiv : ∀ i ∈ is, i ∈ own.map (·.2)) (ht : ∀ s H C cl fp, DTs K (blkOf (blkOf X1 sc1 s1 H1 C1 cl1 fp1) scope s H C cl fp) ifs tt b1) (he : ∀ s H C cl fp, DE K (blkOf (blkOf X1 sc1 s1 H1 C1 cl1 fp1) scope s H C cl fp) elt te f) (hk : X1.K = K := by rfl) (hc : X1.calm = true := by rfl) (hs : ∀ x, foldedSetIterable it (blkOf X1 sc1 s1 H1 C1 cl1 fp1).env x = pure x := by intro _; rfl) :
    DN K (blkOf X1 sc1 s1 H1 C1 cl1 fp1) (.ListComp elt [⟨tg, it, ifs, 0⟩] scope pos) (tLc wi gg tt te (own.map (·.2))) (nLc (own.map (·.2)) xs h b1 f) :=
  dn_lc (X := blkOf X1 sc1 s1 H1 C1 cl1 fp1) hN hi ok hg hiv ht he hk hc hs
end
end Dv

/-! comprehensions of two clauses; extend; math.gcd -/
namespace Dv
open PySem PySem.Spec PyProof.Rows
open L2 hiding Dp DpAll
open LamX (TabS CodeO Tabs ExtN)
variable [Tb]
section
variable {K : PySem.W.Frag} {H0 F H : Hp} {σ : L2.St} {A : En}
/-- an object that is neither data nor a slot's is changed -/
theorem Rl.other (R : Rl K H0 F H σ A) {p : Addr} {o : HO} (hp : ¬ FreeT H0 p) (hF : F p = none) (n : NoT (H p)) : Rl K H0 F (upd H p o) σ A := by
  refine ⟨fun b u e => by rw [upd_ne (ne_of_none e hF)]; exact R.sub b u e, fun j y e => ?_, R.ds, R.len, ⟨fun z hz => tabS_mut (R.tb.t z hz) n, R.tb.n⟩⟩
  have s := R.sl j y e
  refine ⟨s.d, fun y' h => ?_, fun y' h => ?_⟩
  · obtain ⟨q, vs, h1, h2, h3, h4, h5⟩ := s.ol y' h
    have hq : q ≠ p := fun z => by subst z; exact hp h3
    exact ⟨q, vs, h1, h2, h3, by rw [upd_ne hq]; exact h4, h5⟩
  · obtain ⟨q, vs, h1, h2, h3, h4, h5⟩ := s.od y' h
    have hq : q ≠ p := fun z => by subst z; exact hp h3
    exact ⟨q, vs, h1, h2, h3, by rw [upd_ne hq]; exact h4, h5⟩
/-- the object p counts as known from the start -/
theorem Rl.known (R : Rl K H0 F H σ A) {p : Addr} {xs : List V} (hp : H p = none) : Rl K (upd H0 p (.lst xs)) F H σ A := by
  have fr : ∀ {q : Addr} {u : HO}, H q = some u → FreeT H0 q → FreeT (upd H0 p (.lst xs)) q := fun {q u} h f v e => by
    have hq : q ≠ p := fun z => by subst z; rw [hp] at h; cases h
    rw [upd_ne hq] at e
    exact f v e
  refine ⟨R.sub, fun j y e => ?_, R.ds, R.len, R.tb⟩
  have s := R.sl j y e
  refine ⟨s.d, fun y' h => ?_, fun y' h => ?_⟩
  · obtain ⟨q, vs, h1, h2, h3, h4, h5⟩ := s.ol y' h
    exact ⟨q, vs, h1, h2, fr h4 h3, h4, h5⟩
  · obtain ⟨q, vs, h1, h2, h3, h4, h5⟩ := s.od y' h
    exact ⟨q, vs, h1, h2, fr h4 h3, h4, h5⟩
end
section
variable {K : PySem.W.Frag} {te : TE} {f : En → Option Dt}
def lc2D (g : Dt → En → Option En) (tt : En → Option Bool) (it1 : En → Option (List Dt)) (vs1 : List Nat) (g1 : Dt → En → Option En) (tt1 : En → Option Bool) (te : En → Option Dt) (A : En) : List Dt → Option (List Dt)
  | [] => some []
  | x :: xs => (g x A).bind fun A1 => (tt A1).bind fun b => (if b = true then (it1 A1).bind fun ys => lcD g1 tt1 te (wipeA A1 vs1) ys else some []).bind fun zs => (lc2D g tt it1 vs1 g1 tt1 te A xs).bind fun r => some (zs ++ r)
def nLc2 (vs vs1 : List Nat) (it : En → Option (List Dt)) (g : Dt → En → Option En) (tt : En → Option Bool) (it1 : En → Option (List Dt)) (g1 : Dt → En → Option En) (tt1 : En → Option Bool) (te : En → Option Dt) : En → Option (List Dt) := fun A => (it A).bind fun xs => (lc2D g tt it1 vs1 g1 tt1 te (wipeA A vs) xs).bind fun out => if out.length ≤ sizeLine then some out else none
theorem sn_lc2 {vs vs1 : List Nat} {wi wi1 : TI} {it it1 : En → Option (List Dt)} {is is1 : List Nat} {g g1 : TG} {h h1 : Dt → En → Option En} {tt tt1 : TT} {b1 b2 : En → Option Bool} (hi : SI K wi it) (hg : SG K is g h) (hiv : ∀ i ∈ is, i ∈ vs) (ht : ST K tt b1) (hi1 : SI K wi1 it1) (hg1 : SG K is1 g1 h1) (hiv1 : ∀ i ∈ is1, i ∈ vs1) (ht1 : ST K tt1 b2) (he : SE K te f) : SN K (tLc2 wi g tt wi1 g1 tt1 te vs vs1) (nLc2 vs vs1 it h b1 it1 h1 b2 f) := fun H0 F H σ A out R e Q q => by
  obtain ⟨xs, e1, e⟩ := bind_eq_some e
  obtain ⟨out', e9, ez⟩ := bind_eq_some e
  obtain ⟨hz, rfl⟩ := ite_some ez
  refine hi H0 F H σ A xs R e1 _ fun J F1 H1 s1 wk D nD => ?_
  have R1 := ((R.step s1).wipe vs).known (xs := []) nD
  have kD : ¬ FreeT (upd H0 D (.lst [])) D := notF_l upd_same
  have fD : F1 D = none := s1.sub.free nD
  refine ⟨fun i m H' => ∃ F' acc dn rest, Stp F1 H1 F' H' ∧ F' D = none ∧ H' D = some (.lst acc) ∧ DpAll K F' acc dn ∧ i + m = xs.length ∧ lc2D h b1 it1 vs1 h1 b2 f (wipeA A vs) (xs.drop i) = some rest ∧ dn ++ rest = out',
    ⟨xs.length, F1, [], [], out', (stp0 s1.sub).newO nD, fD, upd_same, .nil, Nat.zero_add _, e9, rfl⟩, ?_⟩
  rintro i m H' ⟨F', acc, dn, rest, s', f', hD, a', hl, e', eo⟩
  by_cases hlt : i < xs.length
  · obtain ⟨w1, w2⟩ := wk i F' H' s'.ff s'.sub
    obtain ⟨hgo, hy⟩ := w1 xs[i] (List.getElem?_eq_getElem hlt)
    rw [List.drop_eq_getElem_cons hlt] at e'
    obtain ⟨A1, e2, e'⟩ := bind_eq_some e'
    obtain ⟨b, e3, e'⟩ := bind_eq_some e'
    obtain ⟨zs, e4, e'⟩ := bind_eq_some e'
    obtain ⟨r, e5, e'⟩ := bind_eq_some e'
    cases e'
    refine .inr ⟨hgo, fun H3 => ∃ F3 acc3 dn3, Stp F1 H1 F3 H3 ∧ F3 D = none ∧ H3 D = some (.lst acc3) ∧ DpAll K F3 acc3 dn3 ∧ dn3 ++ r = out', fun H3 ⟨F3, acc3, dn3, t1, t2, t3, t4, t6⟩ => ⟨m - 1, by omega, F3, acc3, dn3, r, t1, t2, t3, t4, by omega, e5, t6⟩, fun v H2 y => ?_⟩
    obtain ⟨F2, s2, bv⟩ := hy v H2 y
    have s12 := s'.trans s2
    have f2 : F2 D = none := s2.fr D f' (notF_l hD)
    have h2 : H2 D = some (.lst acc) := s2.hh.l hD
    refine hg _ F2 H2 _ _ v _ A1 (R1.step s12) bv e2 _ fun σ2 R2 hw => ⟨?_, ?_⟩
    · rw [hw vs hiv]
      refine List.ext_getElem? fun j => ?_
      rw [wipe_get, wipe_get, wipe_length]
      by_cases hj : j ∈ vs
      · rw [if_pos hj, if_pos hj]
      · rw [if_neg hj, if_neg hj]
    refine ht _ F2 H2 σ2 A1 b R2 e3 _ fun F3 H3 s3 => ?_
    have f3 : F3 D = none := s3.fr D f2 (notF_l h2)
    have h3 : H3 D = some (.lst acc) := s3.hh.l h2
    cases b with
    | false =>
      rw [if_neg Bool.false_ne_true] at e4 ⊢
      cases e4
      exact ⟨F3, acc, dn, s12.trans s3, f3, h3, dpAll_same (s2.ff.trans s3.ff) a', eo⟩
    | true =>
      rw [if_pos rfl] at e4 ⊢
      obtain ⟨ys, e6, e7⟩ := bind_eq_some e4
      have R3 := R2.step s3
      refine hi1 _ F3 H3 σ2 A1 ys R3 e6 _ fun J1 F4 H4 s4 wk1 => ?_
      have s14 := s12.trans (s3.trans s4)
      have f4 : F4 D = none := s4.fr D f3 (notF_l h3)
      have h4 : H4 D = some (.lst acc) := s4.hh.l h3
      refine ⟨fun j k H' => ∃ F' acc dn rest, Stp F1 H1 F' H' ∧ Same F4 F' ∧ Rl K (upd H0 D (.lst [])) F' H' σ2 A1 ∧ F' D = none ∧ H' D = some (.lst acc) ∧ DpAll K F' acc dn ∧ j + k = ys.length ∧ lcD h1 b2 f (wipeA A1 vs1) (ys.drop j) = some rest ∧ dn ++ rest ++ r = out',
        ⟨ys.length, F4, acc, dn, zs, s14, Same.refl _, R3.step s4, f4, h4, dpAll_same (s2.ff.trans (s3.ff.trans s4.ff)) a', Nat.zero_add _, e7, by rw [List.append_assoc]; exact eo⟩, ?_⟩
      clear hD a' s' f' eo hl e2 e3 R2 R3 h2 h3 h4 f2 f3 f4 w1 w2 hgo hy bv y hw e4 e6 e7 s12 s14 s2 s3 s4
      rintro j k H' ⟨F', acc, dn, rest, s', sm, R', f', hD, a', hl, e', eo⟩
      by_cases hlt1 : j < ys.length
      · obtain ⟨w1, w2⟩ := wk1 j F' H' sm s'.sub
        obtain ⟨hgo, hy⟩ := w1 ys[j] (List.getElem?_eq_getElem hlt1)
        rw [List.drop_eq_getElem_cons hlt1] at e'
        obtain ⟨A2, e2, e'⟩ := bind_eq_some e'
        obtain ⟨b, e3, e'⟩ := bind_eq_some e'
        obtain ⟨us, e4, e'⟩ := bind_eq_some e'
        obtain ⟨r1, e6, e'⟩ := bind_eq_some e'
        cases e'
        refine .inr ⟨hgo, fun H3 => ∃ F3 acc3 dn3, Stp F1 H1 F3 H3 ∧ Same F4 F3 ∧ Rl K (upd H0 D (.lst [])) F3 H3 σ2 A1 ∧ F3 D = none ∧ H3 D = some (.lst acc3) ∧ DpAll K F3 acc3 dn3 ∧ dn3 ++ r1 ++ r = out', fun H3 ⟨F3, acc3, dn3, t1, t2, t3, t4, t5, t6, t7⟩ => ⟨k - 1, by omega, F3, acc3, dn3, r1, t1, t2, t3, t4, t5, t6, by omega, e6, t7⟩, fun v H2 y => ?_⟩
        obtain ⟨F2, s2, bv⟩ := hy v H2 y
        have s12 := s'.trans s2
        have f2 : F2 D = none := s2.fr D f' (notF_l hD)
        have h2 : H2 D = some (.lst acc) := s2.hh.l hD
        refine hg1 _ F2 H2 _ _ v _ A2 ((R'.step s2).wipe vs1) bv e2 _ fun σ3 R2 hw => ⟨?_, ?_⟩
        · rw [hw vs1 hiv1]
          refine List.ext_getElem? fun j => ?_
          rw [wipe_get, wipe_get, wipe_length]
          by_cases hj : j ∈ vs1
          · rw [if_pos hj, if_pos hj]
          · rw [if_neg hj, if_neg hj]
        refine ht1 _ F2 H2 σ3 A2 b R2 e3 _ fun F3 H3 s3 => ?_
        have f3 : F3 D = none := s3.fr D f2 (notF_l h2)
        have h3 : H3 D = some (.lst acc) := s3.hh.l h2
        cases b with
        | false =>
          rw [if_neg Bool.false_ne_true] at e4 ⊢
          cases e4
          exact ⟨F3, acc, dn, s12.trans s3, sm.trans (s2.ff.trans s3.ff), (R'.step s2).step s3, f3, h3, dpAll_same (s2.ff.trans s3.ff) a', eo⟩
        | true =>
          rw [if_pos rfl] at e4 ⊢
          obtain ⟨d, e7, rfl⟩ := map_eq_some e4
          refine he _ F3 H3 σ3 A2 d (R2.step s3) e7 _ fun F5 H5 v5 s5 b5 => ?_
          have f5 : F5 D = none := s5.fr D f3 (notF_l h3)
          have h5 : H5 D = some (.lst acc) := s5.hh.l h3
          have sf : Same F' F5 := s2.ff.trans (s3.ff.trans s5.ff)
          have hlen : dn.length < sizeLine := by
            have := congrArg List.length eo
            simp only [List.length_append, List.length_cons, List.length_nil] at this
            omega
          refine ⟨acc, h5, by rw [DpAll.len a']; exact hlen, F5, acc ++ [v5], dn ++ [d], (s12.trans (s3.trans s5)).mut (freeT_n nD) f5 (by rw [h5]; exact noT_l), sm.trans sf, (((R'.step s2).step s3).step s5).other kD f5 (by rw [h5]; exact noT_l), f5, upd_same, DpAll.app (dpAll_same sf a') (DpAll.one b5), ?_⟩
          rw [← eo]; simp only [List.append_assoc]
      · have e0 : ys.drop j = [] := List.drop_eq_nil_of_le (by omega)
        rw [e0] at e'
        cases e'
        rw [List.append_nil] at eo
        obtain ⟨w1, w2⟩ := wk1 j F' H' sm s'.sub
        exact .inl ⟨w2 (by omega), F', acc, dn, s', f', hD, a', eo⟩
  · have e0 : xs.drop i = [] := List.drop_eq_nil_of_le (by omega)
    rw [e0] at e'
    cases e'
    rw [List.append_nil] at eo
    subst eo
    obtain ⟨w1, w2⟩ := wk i F' H' s'.ff s'.sub
    exact .inl ⟨w2 (by omega), q F' H' D acc (s1.trans s') (s1.hh.free nD) f' hD a'⟩
/-- xs.extend(new list), xs an own list in slot i -/
def sExt (i : Nat) (n : En → Option (List Dt)) : En → Option Out := fun A => match A[i]? with | some (.ol xs) => (n A).bind fun ds => if xs.length + ds.length ≤ sizeLine then some (.nx (A.set i (.ol (xs ++ ds)))) else none | _ => none
theorem ss_ext {i : Nat} {n : En → Option (List Dt)} (h : SN K te n) : SS K (tDrop (tBM K "list" rExtend (tVar i) (tCons te tNil))) (sExt i n) := fun F0 H0 F H σ A o D E R e G => by
  unfold sExt at e
  split at e
  · rename_i xs hi
    obtain ⟨d, e1, e⟩ := bind_eq_some e
    obtain ⟨hz, rfl⟩ := ite_some e
    obtain ⟨p, vs, h1, h2, h3, h4, h5⟩ := (R.sl i _ hi).ol xs rfl
    refine ⟨_, h1, .inl ⟨rfl, vs, SqL.of h4⟩, ?_⟩
    refine h H0 F H σ A d R e1 _ fun F' H' b ws s b1 b2 b3 b4 => ?_
    have hp : H' p = some (.lst vs) := s.hh.l h4
    have hf : F' p = none := s.fr p h2 (notF_l h4)
    refine ⟨p, b, vs, ws, rfl, rfl, hp, b3, by rw [DpAll.len h5, DpAll.len b4]; exact hz, ?_⟩
    have R' := R.step s
    refine G F' _ σ ((E.step s).mut h3 (by rw [hp]; exact noT_l)) (R'.chg ⟨.inl ⟨xs, hi⟩, h1⟩ ⟨fun _ e => (by cases e), fun ys e => ?_, fun _ e => (by cases e)⟩ fun _ => Sl.noConfusion)
    cases e
    exact ⟨p, _, h1, hf, h3, upd_same, DpAll.app (dpAll_same s.ff h5) b4⟩
  · cases e
/-- a, b = e1, e2 -/
def sPar (i j : Nat) (f : En → Option (List Dt)) : En → Option Out := fun A => match f A with | some [a, b] => some (.nx ((A.set i (.d a)).set j (.d b))) | _ => none
theorem ss_par {i j : Nat} {ta : TA} {f : En → Option (List Dt)} (h : SF K ta f) : SS K (tPar i j ta) (sPar i j f) := fun F0 H0 F H σ A o D E R e G => by
  unfold sPar at e
  split at e
  · rename_i a b hf
    cases e
    refine h H0 F H σ A _ R hf _ fun F' H' vs s q => ?_
    cases q with
    | cons ha q =>
      cases q with
      | cons hb q =>
        cases q with
        | nil => exact ⟨_, _, rfl, G F' H' _ (E.step s) (((R.step s).setD ha).setD hb)⟩
  · cases e
def gcdD : List Dt → Option Dt
  | [.int a, .int b] => some (.int ((Nat.gcd a.natAbs b.natAbs : Nat) : Int))
  | _ => none
theorem cs_gcd : CS K rGcd gcdD := fun F H xs ds d sub h e Q q => by
  unfold gcdD at e
  split at e
  · cases e
    obtain ⟨v, w, rfl, b, c⟩ := prd2 h
    exact ⟨_, _, by rw [b.int, c.int], q F H _ (stp0 sub) (.int _)⟩
  · cases e
end
section
variable {K : PySem.W.Frag} {X : Cx} {tg it tg1 it1 elt e : Expr} {es : List Expr} {wi wi1 : TI} {xs ys : En → Option (List Dt)} {is is1 : List Nat} {gg gg1 : TG} {h h1 : Dt → En → Option En} {ifs ifs1 : List Expr} {tt tt1 : TT} {b1 b2 : En → Option Bool} {te : TE} {f : En → Option Dt} {n : En → Option (List Dt)} {scope : Scope} {own : List (Str × Nat)} {vs1 : List Nat} {p pos : Pos} {t : TA} {r : En → Option (List Dt)}
theorem dn_lc2 (hN : X.N.Nodup) (hi : DI K X tg it wi xs) (ok : BlkOk X.N X.env.scope scope own)
    (hg : ∀ s H C cl fp, DG K (blkOf X scope s H C cl fp) is tg gg h) (hiv : ∀ i ∈ is, i ∈ own.map (·.2)) (ht : ∀ s H C cl fp, DTs K (blkOf X scope s H C cl fp) ifs tt b1)
    (hi1 : ∀ s H C cl fp, DI K (blkOf X scope s H C cl fp) tg1 it1 wi1 ys) (hg1 : ∀ s H C cl fp, DG K (blkOf X scope s H C cl fp) is1 tg1 gg1 h1) (hiv1 : ∀ i ∈ is1, i ∈ vs1) (hv : ∀ i ∈ vs1, i ∈ own.map (·.2)) (ht1 : ∀ s H C cl fp, DTs K (blkOf X scope s H C cl fp) ifs1 tt1 b2)
    (he : ∀ s H C cl fp, DE K (blkOf X scope s H C cl fp) elt te f) (hk : X.K = K := by rfl) (hc : X.calm = true := by rfl) (hs : ∀ x, foldedSetIterable it X.env x = pure x := by intro _; rfl) (hs1 : ∀ env x, foldedSetIterable it1 env x = pure x := by intro _ _; rfl) :
    DN K X (.ListComp elt [⟨tg, it, ifs, 0⟩, ⟨tg1, it1, ifs1, 0⟩] scope pos) (tLc2 wi gg tt wi1 gg1 tt1 te (own.map (·.2)) vs1) (nLc2 (own.map (·.2)) vs1 xs h b1 ys h1 b2 f) :=
  ⟨hk, pe_lc2 hc hN hi.pe ok hv (fun s H C cl fp => (hg s H C cl fp).pe) (fun s H C cl fp => (ht s H C cl fp).pe) (fun s H C cl fp => (hi1 s H C cl fp).pe) (fun s H C cl fp => (hg1 s H C cl fp).pe) (fun s H C cl fp => (ht1 s H C cl fp).pe) (fun s H C cl fp => (he s H C cl fp).pe) hs hs1,
   sn_lc2 hi.so (hg X.s_0 X.H_0 0 [] []).so hiv (ht X.s_0 X.H_0 0 [] []).so (hi1 X.s_0 X.H_0 0 [] []).so (hg1 X.s_0 X.H_0 0 [] []).so hiv1 (ht1 X.s_0 X.H_0 0 [] []).so (he X.s_0 X.H_0 0 [] []).so⟩
theorem ds_lc2O {y : Str} {i : Nat} {py spos : Pos} (hN : X.N.Nodup) (hi : DI K X tg it wi xs) (ok : BlkOk X.N X.env.scope scope own)
    (hg : ∀ s H C cl fp, DG K (blkOf X scope s H C cl fp) is tg gg h) (hiv : ∀ i ∈ is, i ∈ own.map (·.2)) (ht : ∀ s H C cl fp, DTs K (blkOf X scope s H C cl fp) ifs tt b1)
    (hi1 : ∀ s H C cl fp, DI K (blkOf X scope s H C cl fp) tg1 it1 wi1 ys) (hg1 : ∀ s H C cl fp, DG K (blkOf X scope s H C cl fp) is1 tg1 gg1 h1) (hiv1 : ∀ i ∈ is1, i ∈ vs1) (hv : ∀ i ∈ vs1, i ∈ own.map (·.2)) (ht1 : ∀ s H C cl fp, DTs K (blkOf X scope s H C cl fp) ifs1 tt1 b2)
    (he : ∀ s H C cl fp, DE K (blkOf X scope s H C cl fp) elt te f) (hsw : swapsWith (.ListComp elt [⟨tg, it, ifs, 0⟩, ⟨tg1, it1, ifs1, 0⟩] scope pos) (some (.Name y py)) spos.line X.env = pure true) (hy : X.N[i]? = some y := by rfl) (hyl : X.env.scope.names.lookup y = some .local := by rfl) (hc : X.calm = true := by rfl) (hs : ∀ x, foldedSetIterable it X.env x = pure x := by intro _; rfl) (hs1 : ∀ env x, foldedSetIterable it1 env x = pure x := by intro _ _; rfl) :
    DS K X (.Assign [.Name y py] (.ListComp elt [⟨tg, it, ifs, 0⟩, ⟨tg1, it1, ifs1, 0⟩] scope pos) spos) (tAsg (tLc2 wi gg tt wi1 gg1 tt1 te (own.map (·.2)) vs1) (gName i)) (sSetO i (nLc2 (own.map (·.2)) vs1 xs h b1 ys h1 b2 f)) :=
  ⟨ps_setLc2 hc hN hy hyl hsw hi.pe ok hv (fun s H C cl fp => (hg s H C cl fp).pe) (fun s H C cl fp => (ht s H C cl fp).pe) (fun s H C cl fp => (hi1 s H C cl fp).pe) (fun s H C cl fp => (hg1 s H C cl fp).pe) (fun s H C cl fp => (ht1 s H C cl fp).pe) (fun s H C cl fp => (he s H C cl fp).pe) hs hs1,
   ss_setO (sn_lc2 hi.so (hg X.s_0 X.H_0 0 [] []).so hiv (ht X.s_0 X.H_0 0 [] []).so (hi1 X.s_0 X.H_0 0 [] []).so (hg1 X.s_0 X.H_0 0 [] []).so hiv1 (ht1 X.s_0 X.H_0 0 [] []).so (he X.s_0 X.H_0 0 [] []).so)⟩
theorem ds_ext {i : Nat} {x : Str} {apos cpos : Pos} (hv : PE X (.Name x p) (tVar i)) (h : DN K X e te n)
    (hbase : attributeBase (.Name x p) "extend" X.env (eval (.Name x p) X.env) = eval (.Name x p) X.env := by rfl)
    (hfew : ((backTo cpos (starEach [e] X.env)).all (fun x => !x.1) && (backToKw cpos (keywordEach [] X.env)).all (fun x => x.1.isSome) && decide (([e] : List Expr).length + ([] : List Keyword).length + (if ([] : List Keyword).isEmpty then 0 else 1) < 30)) = true := by rfl)
    (hline : (apos.endLine == cpos.line) = true := by rfl) (hs : starEach [e] X.env = (false, eval e X.env) :: starEach [] X.env := by rfl) (hplain : (backTo cpos (starEach [] X.env)).any (·.1) = false := by rfl) (hx : swapsWith (.Call (.Attribute (.Name x p) "extend" apos) [e] [] cpos) none pos.line X.env = pure false := by rfl) :
    DS K X (.Expr (.Call (.Attribute (.Name x p) "extend" apos) [e] [] cpos) pos) (tDrop (tBM K "list" rExtend (tVar i) (tCons te tNil))) (sExt i n) := by
  have hk := h.hk
  subst hk
  exact ⟨ps_expr (pe_bm PySem.F.plainAttrs_list PySem.F.slot_list_extend PySem.F.type_list_extend mt_extend hv (pa_cons h.pe pa_nil hs) hbase hfew hline hs hplain) hx, ss_ext h.so⟩
theorem ds_par {i j : Nat} {x y : Str} {a b : Expr} {px py pt : Pos} {kt k2 pt2} (hN : X.N.Nodup) (ha : DF K X [a, b] t r) (hi : X.N[i]? = some x := by rfl) (hj : X.N[j]? = some y := by rfl) (hij : i ≠ j := by decide)
    (hx : X.env.scope.names.lookup x = some .local := by rfl) (hy : X.env.scope.names.lookup y = some .local := by rfl) (hc : X.calm = true := by rfl)
    (hw : swappedStores [.Tuple [.Name x px, .Name y py] kt pt] (.Tuple [a, b] k2 pt2) X.env = pure (some [x, y]) := by rfl)
    (hs : swapsWithSole [.Tuple [.Name x px, .Name y py] kt pt] (.Tuple [a, b] k2 pt2) pos.line X.env = pure false := by rfl) :
    DS K X (.Assign [.Tuple [.Name x px, .Name y py] kt pt] (.Tuple [a, b] k2 pt2) pos) (tPar i j t) (sPar i j r) := ⟨ps_par hc hN hi hj hij hx hy ha.pe hw hs, ss_par ha.so⟩
theorem de_Bf {x : Str} {id : String} {rr : List V → Hp → VK → Prop} {g : List Dt → Option Dt} (hc : CallR X (.builtin id) rr) (hs : CS K rr g) (hm : X.mg x = some (.builtin id)) (ha : DA K X (e :: es) t r) (hg : Gl X x := by rfl) (hk : X.K = K := by rfl) (hdb : (x == ("__debug__" : Str)) = false := by decide)
    (he : starEach (e :: es) X.env = (false, eval e X.env) :: starEach es X.env := by rfl) (hpl : (backTo pos (starEach es X.env)).any (·.1) = false := by rfl) : DE K X (.Call (.Name x p) (e :: es) [] pos) (tCB rr t) (eCB g r) := ⟨hk, pe_callBfun hc hg hm ha.pe hdb he hpl, se_cb ha.so hs⟩
end
end Dv

namespace K07
open PySem PySem.Spec PyProof.Rows Dv
open L2 hiding Dp DpAll
variable [Tb]
/-! ### the text -/
def topS (i : Nat) : Stmt := PySem.Challenge.pw_eventsteps_k07_common_units.main.body.getD i (.Pass ⟨0, 0, 0, 0⟩)
abbrev st__law_cell : Stmt := topS 7
abbrev N__law_cell : List Str := ["script", "k"]
theorem sc__law_cell : FnScope N__law_cell ["script", "k"] (defScope st__law_cell) := ⟨rfl, rfl, rfl, by decide +kernel, rfl, by decide +kernel, by decide +kernel⟩
abbrev st__law_draw : Stmt := topS 8
abbrev N__law_draw : List Str := ["script", "k", "sizes", "cell", "drawn", "size", "stirred", "j"]
theorem sc__law_draw : FnScope N__law_draw ["script", "k", "sizes"] (defScope st__law_draw) := ⟨rfl, rfl, rfl, by decide +kernel, rfl, by decide +kernel, by decide +kernel⟩
abbrev st__law_lists : Stmt := topS 9
abbrev N__law_lists : List Str := ["script", "k", "most", "head", "names", "one", "stations", "j", "servers", "room", "kinds", "two", "route", "i", "length", "pauses", "three", "ends", "name", "begin", "jobs", "time", "four"]
theorem sc__law_lists : FnScope N__law_lists ["script", "k", "most"] (defScope st__law_lists) := ⟨rfl, rfl, rfl, by decide +kernel, rfl, by decide +kernel, by decide +kernel⟩
abbrev st__law_model : Stmt := topS 10
abbrev N__law_model : List Str := ["script", "k", "most", "stations", "kinds", "pauses", "jobs"]
theorem sc__law_model : FnScope N__law_model ["script", "k", "most"] (defScope st__law_model) := ⟨rfl, rfl, rfl, by decide +kernel, rfl, by decide +kernel, by decide +kernel⟩
abbrev st_common_unit : Stmt := topS 2
abbrev N_common_unit : List Str := ["some_model", "_", "kinds", "pauses", "jobs", "numbers", "unit", "number", "route", "duration", "begin", "end", "time"]
theorem sc_common_unit : FnScope N_common_unit ["some_model"] (defScope st_common_unit) := ⟨rfl, rfl, rfl, by decide +kernel, rfl, by decide +kernel, by decide +kernel⟩
abbrev st_shifted : Stmt := topS 3
abbrev N_shifted : List Str := ["some_model", "many", "stations", "kinds", "pauses", "jobs", "name", "begin", "end", "time", "kind"]
theorem sc_shifted : FnScope N_shifted ["some_model", "many"] (defScope st_shifted) := ⟨rfl, rfl, rfl, by decide +kernel, rfl, by decide +kernel, by decide +kernel⟩
abbrev st__stretched_route : Stmt := topS 5
abbrev N__stretched_route : List Str := ["route", "many", "station", "duration"]
theorem sc__stretched_route : FnScope N__stretched_route ["route", "many"] (defScope st__stretched_route) := ⟨rfl, rfl, rfl, by decide +kernel, rfl, by decide +kernel, by decide +kernel⟩
abbrev st_stretched : Stmt := topS 4
abbrev N_stretched : List Str := ["some_model", "many", "stations", "kinds", "pauses", "jobs", "name", "priority", "route", "begin", "end", "time", "kind"]
theorem sc_stretched : FnScope N_stretched ["some_model", "many"] (defScope st_stretched) := ⟨rfl, rfl, rfl, by decide +kernel, rfl, by decide +kernel, by decide +kernel⟩
abbrev st_law : Stmt := topS 11
abbrev N_law : List Str := ["script", "k", "digits", "some", "other", "parts", "name", "begin", "end", "priority", "route", "unit", "part", "first", "second", "time", "kind", "at", "length"]
theorem sc_law : FnScope N_law ["script"] (defScope st_law) := ⟨rfl, rfl, rfl, by decide +kernel, rfl, by decide +kernel, by decide +kernel⟩
/-! ### what each def comes to -/
noncomputable def run__law_cell : En → Option Out :=
  (sSeq (sIf (tOf (eOp ltD (bVar 1) (eCB lenD (aCons (bVar 0) aNil)))) (sRet (eOp ixD (bVar 0) (bVar 1))) sNext)
  (sRet (eC (.int 0))))
noncomputable def sem__law_cell : List Dt → Option Dt := semF 2 2 run__law_cell
noncomputable def bd__law_draw_1 : En → Option Out :=
  (sSeq (sApp 4 (eOp modD (bVar 3) (bVar 5)))
  (sSet 3 (eOp fdivD (bVar 3) (bVar 5))))
noncomputable def bd__law_draw_2 : En → Option Out :=
  (sSeq (sSet 6 (eOp modD (eOp addD (eOp addD (eOp mulD (bVar 6) (eC (.int 48271))) (eC (.int 11))) (bVar 7)) (eC (.int 2147483647))))
  (sSeq (sSet 6 (eOp modD (eOp addD (eOp mulD (bVar 6) (eC (.int 69621))) (eC (.int 3))) (eC (.int 2147483647))))
  (sApp 4 (eOp modD (eOp fdivD (bVar 6) (eC (.int 7))) (eOp ixD (bVar 2) (bVar 7))))))
noncomputable def run__law_draw : En → Option Out :=
  (sSeq (sSet 3 (eCB sem__law_cell (aCons (eVar 0) (aCons (eVar 1) aNil))))
  (sSeq (sIf (tOf (eOp ltD (bVar 3) (eC (.int 0)))) (sSet 3 (eUn negD (bVar 3))) sNext)
  (sSeq (sSetO 4 (nLst aNil))
  (sSeq (sIf (tOf (eOp geD (bVar 3) (eOp powD (eC (.int 10)) (eC (.int 18))))) (sSeq (sSet 3 (eOp subD (bVar 3) (eOp powD (eC (.int 10)) (eC (.int 18)))))
  (sSeq (sFor (eIt (eVar 2)) (hName 5) bd__law_draw_1)
  (sFrz [4] (sRet (eVar 4))))) sNext)
  (sSeq (sSet 6 (eOp modD (eOp addD (eOp addD (bVar 3) (eC (.int 1))) (eOp mulD (eC (.int 31)) (bVar 1))) (eC (.int 2147483647))))
  (sSeq (sFor (rng1 (aCons (eCB lenD (aCons (bVar 2) aNil)) aNil)) (hName 7) bd__law_draw_2)
  (sFrz [4] (sRet (eVar 4)))))))))
noncomputable def sem__law_draw : List Dt → Option Dt := semF 8 3 run__law_draw
noncomputable def bd__law_lists_1 : En → Option Out :=
  (sSeq (sSet 8 (eOp addD (eC (.int 1)) (eOp ixD (bVar 5) (eOp mulD (eC (.int 3)) (bVar 7)))))
  (sSeq (sSet 9 (eOp ixD (nE (nLst (aCons (eVar 8) (aCons (eOp addD (bVar 8) (eC (.int 1))) (aCons (eVar 8) (aCons (eOp addD (bVar 8) (eC (.int 2))) (aCons (eC .none) (aCons (eC .none) aNil)))))))) (eOp ixD (bVar 5) (eOp addD (eOp mulD (eC (.int 3)) (bVar 7)) (eC (.int 1))))))
  (sApp 6 (eTup (aCons (eOp ixD (bVar 4) (bVar 7)) (aCons (eVar 8) (aCons (eVar 9) (aCons (eOp ixD (nE (nLst (aCons (eC (.str "first")) (aCons (eC (.str "last")) (aCons (eC (.str "priority")) aNil))))) (eOp ixD (bVar 5) (eOp addD (eOp mulD (eC (.int 3)) (bVar 7)) (eC (.int 2))))) aNil))))))))
noncomputable def bd__law_lists_2 : En → Option Out :=
  (sSeq (sSet 14 (eOp addD (eC (.int 1)) (eOp ixD (bVar 11) (eOp addD (eC (.int 3)) (eOp mulD (eC (.int 3)) (bVar 13))))))
  (sSeq (sIf (tOf (eOp eqD (eOp ixD (bVar 3) (eC (.int 4))) (eC (.int 0)))) (sSet 14 (eOp addD (eC (.int 1)) (eOp ixD (bVar 11) (eOp addD (eC (.int 4)) (eOp mulD (eC (.int 3)) (bVar 13)))))) sNext)
  (sApp 12 (eTup (aCons (eOp ixD (bVar 4) (eOp modD (eOp ixD (bVar 11) (eOp addD (eC (.int 2)) (eOp mulD (eC (.int 3)) (bVar 13)))) (eCB lenD (aCons (bVar 4) aNil)))) (aCons (eVar 14) aNil))))))
noncomputable def bd__law_lists_3 : En → Option Out :=
  (sSeq (sSet 11 (eCB sem__law_draw (aCons (eVar 0) (aCons (eOp addD (eOp addD (bVar 1) (eC (.int 2))) (bVar 7)) (aCons (eOp addD (nE (nLst (aCons (eC (.int 10)) (aCons (eC (.int 4)) aNil)))) (eOp mulD (nE (nLst (aCons (eC (.int 4)) (aCons (eC (.int 7)) (aCons (eC (.int 100)) aNil))))) (eC (.int 4)))) aNil)))))
  (sSeq (sSetO 12 (nLst aNil))
  (sSeq (sFor (rng1 (aCons (eOp addD (eC (.int 1)) (eOp ixD (bVar 11) (eC (.int 1)))) aNil)) (hName 13) bd__law_lists_2)
  (sApp 10 (eTup (aCons (eOp ixD (nE (nLst (aCons (eC (.str "x")) (aCons (eC (.str "y7")) (aCons (eC (.str "k")) aNil))))) (bVar 7)) (aCons (eOp ixD (bVar 11) (eC (.int 0))) (aCons (eCB tupD (aCons (bVar 12) aNil)) aNil))))))))
noncomputable def bd__law_lists_4 : En → Option Out :=
  (sSeq (sSet 18 (eOp ixD (bVar 4) (eOp modD (eOp ixD (bVar 16) (eOp mulD (eC (.int 5)) (eOp modD (bVar 7) (eC (.int 3))))) (eCB lenD (aCons (bVar 4) aNil)))))
  (sSeq (sSet 19 (eOp addD (eOp addD (eGet2 17 (eVar 18) (eUn negD (eC (.int 1)))) (eC (.int 1))) (eOp ixD (bVar 16) (eOp addD (eOp mulD (eC (.int 5)) (eOp modD (bVar 7) (eC (.int 3)))) (eC (.int 1))))))
  (sSeq (sPut 17 (eVar 18) (eOp addD (eOp addD (bVar 19) (eC (.int 1))) (eOp ixD (bVar 16) (eOp addD (eOp mulD (eC (.int 5)) (eOp modD (bVar 7) (eC (.int 3)))) (eC (.int 2))))))
  (sApp 15 (eTup (aCons (eVar 18) (aCons (eVar 19) (aCons (eDIx 17 (eVar 18)) aNil))))))))
noncomputable def bd__law_lists_5 : En → Option Out :=
  (sSeq (sSet 21 (eOp addD (bVar 21) (eOp mulD (eOp ixD (nE (nLst (aCons (eC (.int 0)) (aCons (eC (.int 1)) (aCons (eC (.int 0)) (aCons (eC (.int 3)) aNil)))))) (eOp ixD (bVar 22) (eOp mulD (eC (.int 2)) (bVar 7)))) (eOp addD (eC (.int 1)) (eOp mulD (eC (.int 6)) (eCB intD (aCons (eOp eqD (eOp ixD (bVar 3) (eC (.int 5))) (eC (.int 0))) aNil)))))))
  (sApp 20 (eTup (aCons (eVar 21) (aCons (eOp ixD (eOp ixD (bVar 10) (eOp modD (eOp ixD (bVar 22) (eOp addD (eOp mulD (eC (.int 2)) (bVar 7)) (eC (.int 1)))) (eCB lenD (aCons (bVar 10) aNil)))) (eC (.int 0))) aNil)))))
noncomputable def run__law_lists : En → Option Out :=
  (sSeq (sSet 3 (eCB sem__law_draw (aCons (eVar 0) (aCons (eVar 1) (aCons (nE (nLst (aCons (eC (.int 4)) (aCons (eC (.int 3)) (aCons (eC (.int 4)) (aCons (eVar 2) (aCons (eC (.int 4)) (aCons (eC (.int 3)) aNil)))))))) aNil)))))
  (sSeq (sSet 4 (eSl (nE (nLst (aCons (eC (.str "q")) (aCons (eC (.str "a")) (aCons (eC (.str "m2")) (aCons (eC (.str "dd")) aNil)))))) oNone (oSome (eOp addD (eC (.int 1)) (eOp ixD (bVar 3) (eC (.int 0)))))))
  (sSeq (sSet 5 (eCB sem__law_draw (aCons (eVar 0) (aCons (eOp addD (bVar 1) (eC (.int 1))) (aCons (eOp mulD (nE (nLst (aCons (eC (.int 3)) (aCons (eC (.int 6)) (aCons (eC (.int 3)) aNil))))) (eC (.int 4))) aNil)))))
  (sSeq (sSetO 6 (nLst aNil))
  (sSeq (sFor (rng1 (aCons (eCB lenD (aCons (bVar 4) aNil)) aNil)) (hName 7) bd__law_lists_1)
  (sSeq (sSetO 10 (nLst aNil))
  (sSeq (sFor (rng1 (aCons (eOp addD (eC (.int 1)) (eOp ixD (bVar 3) (eC (.int 1)))) aNil)) (hName 7) bd__law_lists_3)
  (sSeq (sSetO 15 (nLst aNil))
  (sSeq (sSet 16 (eCB sem__law_draw (aCons (eVar 0) (aCons (eOp addD (bVar 1) (eC (.int 5))) (aCons (eOp mulD (nE (nLst (aCons (eC (.int 4)) (aCons (eC (.int 9)) (aCons (eC (.int 6)) (aCons (eC (.int 4)) (aCons (eC (.int 6)) aNil))))))) (eC (.int 3))) aNil)))))
  (sSeq (sSetK0 17)
  (sSeq (sFor (rng1 (aCons (eOp ixD (bVar 3) (eC (.int 2))) aNil)) (hName 7) bd__law_lists_4)
  (sSeq (sSetO 20 (nLst aNil))
  (sSeq (sSet 21 (eC (.int 0)))
  (sSeq (sSet 22 (eCB sem__law_draw (aCons (eVar 0) (aCons (eOp addD (bVar 1) (eC (.int 6))) (aCons (eOp mulD (nE (nLst (aCons (eC (.int 4)) (aCons (eC (.int 3)) aNil)))) (eC (.int 16))) aNil)))))
  (sSeq (sFor (rng1 (aCons (eOp ixD (bVar 3) (eC (.int 3))) aNil)) (hName 7) bd__law_lists_5)
  (sFrz [20, 15, 10, 6] (sRet (eTup (aCons (eVar 6) (aCons (eVar 10) (aCons (eVar 15) (aCons (eVar 20) aNil))))))))))))))))))))))
noncomputable def sem__law_lists : List Dt → Option Dt := semF 23 3 run__law_lists
noncomputable def run__law_model : En → Option Out :=
  (sSeq (sAsg (eCB sem__law_lists (aCons (eVar 0) (aCons (eVar 1) (aCons (eVar 2) aNil)))) (hTup 4 (hCons (hName 3) (hCons (hName 4) (hCons (hName 5) (hCons (hName 6) hNil))))))
  (sRet (eTup (aCons (eCB tupD (aCons (nE (nCB srtN (aCons (bVar 3) aNil))) aNil)) (aCons (eCB tupD (aCons (nE (nCB srtN (aCons (bVar 4) aNil))) aNil)) (aCons (eCB tupD (aCons (nE (nCB srtN (aCons (bVar 5) aNil))) aNil)) (aCons (eCB tupD (aCons (bVar 6) aNil)) aNil)))))))
noncomputable def sem__law_model : List Dt → Option Dt := semF 7 3 run__law_model
noncomputable def bd_common_unit_1 : En → Option Out :=
  (sSet 6 (eCB gcdD (aCons (bVar 6) (aCons (bVar 7) aNil))))
noncomputable def run_common_unit : En → Option Out :=
  (sSeq (sAsg (eVar 0) (hTup 4 (hCons (hName 1) (hCons (hName 2) (hCons (hName 3) (hCons (hName 4) hNil))))))
  (sSeq (sSetO 5 (nLc2 [1, 8, 9] [1, 9] (eIt (eVar 2)) (hTup 3 (hCons (hName 1) (hCons (hName 1) (hCons (hName 8) hNil)))) (fun _ => some true) (eIt (eVar 8)) (hTup 2 (hCons (hName 1) (hCons (hName 9) hNil))) (fun _ => some true) (eVar 9)))
  (sSeq (sExt 5 (nLc2 [1, 10, 11, 12] [12] (eIt (eVar 3)) (hTup 3 (hCons (hName 1) (hCons (hName 10) (hCons (hName 11) hNil)))) (fun _ => some true) (eIt (eTup (aCons (eVar 10) (aCons (eVar 11) aNil)))) (hName 12) (fun _ => some true) (eVar 12)))
  (sSeq (sExt 5 (nLc [12, 1] (eIt (eVar 4)) (hTup 2 (hCons (hName 12) (hCons (hName 1) hNil))) (fun _ => some true) (eVar 12)))
  (sSeq (sSet 6 (eC (.int 0)))
  (sSeq (sFrz [5] (sFor (eIt (eVar 5)) (hName 7) bd_common_unit_1))
  (sRet (eCB max2D (aCons (bVar 6) (aCons (eC (.int 1)) aNil))))))))))
noncomputable def sem_common_unit : List Dt → Option Dt := semF 13 1 run_common_unit
noncomputable def run_shifted : En → Option Out :=
  (sSeq (sAsg (eVar 0) (hTup 4 (hCons (hName 2) (hCons (hName 3) (hCons (hName 4) (hCons (hName 5) hNil))))))
  (sRet (eTup (aCons (eVar 2) (aCons (eVar 3) (aCons (eCB tupD (aCons (nE (nLc [6, 7, 8] (eIt (eVar 4)) (hTup 3 (hCons (hName 6) (hCons (hName 7) (hCons (hName 8) hNil)))) (fun _ => some true) (eTup (aCons (eVar 6) (aCons (eOp addD (bVar 7) (bVar 1)) (aCons (eOp addD (bVar 8) (bVar 1)) aNil)))))) aNil)) (aCons (eCB tupD (aCons (nE (nLc [9, 10] (eIt (eVar 5)) (hTup 2 (hCons (hName 9) (hCons (hName 10) hNil))) (fun _ => some true) (eTup (aCons (eOp addD (bVar 9) (bVar 1)) (aCons (eVar 10) aNil))))) aNil)) aNil)))))))
noncomputable def sem_shifted : List Dt → Option Dt := semF 11 2 run_shifted
noncomputable def run__stretched_route : En → Option Out :=
  (sRet (eCB tupD (aCons (nE (nLc [2, 3] (eIt (eVar 0)) (hTup 2 (hCons (hName 2) (hCons (hName 3) hNil))) (fun _ => some true) (eTup (aCons (eVar 2) (aCons (eOp mulD (bVar 3) (bVar 1)) aNil))))) aNil)))
noncomputable def sem__stretched_route : List Dt → Option Dt := semF 4 2 run__stretched_route
noncomputable def run_stretched : En → Option Out :=
  (sSeq (sAsg (eVar 0) (hTup 4 (hCons (hName 2) (hCons (hName 3) (hCons (hName 4) (hCons (hName 5) hNil))))))
  (sRet (eTup (aCons (eVar 2) (aCons (eCB tupD (aCons (nE (nLc [6, 7, 8] (eIt (eVar 3)) (hTup 3 (hCons (hName 6) (hCons (hName 7) (hCons (hName 8) hNil)))) (fun _ => some true) (eTup (aCons (eVar 6) (aCons (eVar 7) (aCons (eCB sem__stretched_route (aCons (eVar 8) (aCons (eVar 1) aNil))) aNil)))))) aNil)) (aCons (eCB tupD (aCons (nE (nLc [6, 9, 10] (eIt (eVar 4)) (hTup 3 (hCons (hName 6) (hCons (hName 9) (hCons (hName 10) hNil)))) (fun _ => some true) (eTup (aCons (eVar 6) (aCons (eOp mulD (bVar 9) (bVar 1)) (aCons (eOp mulD (bVar 10) (bVar 1)) aNil)))))) aNil)) (aCons (eCB tupD (aCons (nE (nLc [11, 12] (eIt (eVar 5)) (hTup 2 (hCons (hName 11) (hCons (hName 12) hNil))) (fun _ => some true) (eTup (aCons (eOp mulD (bVar 11) (bVar 1)) (aCons (eVar 12) aNil))))) aNil)) aNil)))))))
noncomputable def sem_stretched : List Dt → Option Dt := semF 13 2 run_stretched
noncomputable def bd_law_1 : En → Option Out :=
  (sSet 5 (eOp addD (bVar 5) (nE (nLst (aCons (eVar 7) (aCons (eVar 8) aNil))))))
noncomputable def bd_law_2 : En → Option Out :=
  (sSet 5 (eOp addD (bVar 5) (nE (nLc [17, 18] (eIt (eVar 10)) (hTup 2 (hCons (hName 17) (hCons (hName 18) hNil))) (fun _ => some true) (eVar 18)))))
noncomputable def bd_law_3 : En → Option Out :=
  (sPar 13 14 (aCons (eVar 14) (aCons (eOp modD (bVar 13) (bVar 14)) aNil)))
noncomputable def bd_law_4 : En → Option Out :=
  (sSeq (sSet 13 (eVar 12))
  (sSeq (sSet 14 (eVar 11))
  (sSeq (sWhile 100000 (tOf (eOp neD (bVar 14) (eC (.int 0)))) bd_law_3)
  (sSet 11 (eVar 13)))))
noncomputable def bd_law_5 : En → Option Out :=
  (sSeq (sSet 5 (nE (nLc [15, 16] (eIt (eOp ixD (bVar 4) (eC (.int 3)))) (hTup 2 (hCons (hName 15) (hCons (hName 16) hNil))) (fun _ => some true) (eVar 15))))
  (sSeq (sFor (eIt (eOp ixD (bVar 4) (eC (.int 2)))) (hTup 3 (hCons (hName 6) (hCons (hName 7) (hCons (hName 8) hNil)))) bd_law_1)
  (sSeq (sFor (eIt (eOp ixD (bVar 4) (eC (.int 1)))) (hTup 3 (hCons (hName 6) (hCons (hName 9) (hCons (hName 10) hNil)))) bd_law_2)
  (sSeq (sSet 11 (eC (.int 0)))
  (sSeq (sFor (eIt (eVar 5)) (hName 12) bd_law_4)
  (sIf (tOf (eOp neD (eCB sem_common_unit (aCons (eVar 4) aNil)) (eCB max2D (aCons (eC (.int 1)) (aCons (bVar 11) aNil))))) (sRet (eC (.bool false))) sNext))))))
noncomputable def bd_law_6 : En → Option Out :=
  (sSeq (sSet 2 (eCB sem__law_draw (aCons (eVar 0) (aCons (eOp addD (eOp mulD (eC (.int 8)) (bVar 1)) (eC (.int 7))) (aCons (nE (nLst (aCons (eC (.int 7)) (aCons (eC (.int 30)) aNil)))) aNil)))))
  (sSeq (sSet 3 (eCB sem__law_model (aCons (eVar 0) (aCons (eOp mulD (eC (.int 8)) (bVar 1)) (aCons (eC (.int 12)) aNil)))))
  (sFor (eIt (nE (nLst (aCons (eVar 3) (aCons (eCB sem_stretched (aCons (eVar 3) (aCons (eOp addD (eC (.int 1)) (eOp ixD (bVar 2) (eC (.int 0)))) aNil))) (aCons (eCB sem_shifted (aCons (eVar 3) (aCons (eOp ixD (bVar 2) (eC (.int 1))) aNil))) (aCons (eCB sem_shifted (aCons (eCB sem_stretched (aCons (eVar 3) (aCons (eC (.int 6)) aNil))) (aCons (eOp mulD (eC (.int 3)) (eOp ixD (bVar 2) (eC (.int 0)))) aNil))) aNil))))))) (hName 4) bd_law_5)))
noncomputable def run_law : En → Option Out :=
  (sSeq (sFor (rng1 (aCons (eCB min2D (aCons (eC (.int 10)) (aCons (eCB max2D (aCons (eC (.int 1)) (aCons (eOp fdivD (eCB lenD (aCons (bVar 0) aNil)) (eC (.int 8))) aNil))) aNil))) aNil)) (hName 1) bd_law_6)
  (sRet (eC (.bool true))))
noncomputable def sem_law : List Dt → Option Dt := semF 19 1 run_law
/-! ### what stands behind the top -/
structure Txt [Tb] (K : PySem.W.Frag) (mg : Str → Option Value) (cv : Str → Value) where
  a__law_cell : Addr
  d__law_cell : FuncData
  F__law_cell : Fun K "_law_cell" "_law_cell" st__law_cell a__law_cell d__law_cell
  b__law_cell : Binds K d__law_cell ["script", "k"] []
  g__law_cell : mg "_law_cell" = some (.ref a__law_cell)
  a__law_draw : Addr
  d__law_draw : FuncData
  F__law_draw : Fun K "_law_draw" "_law_draw" st__law_draw a__law_draw d__law_draw
  b__law_draw : Binds K d__law_draw ["script", "k", "sizes"] []
  g__law_draw : mg "_law_draw" = some (.ref a__law_draw)
  a__law_lists : Addr
  d__law_lists : FuncData
  F__law_lists : Fun K "_law_lists" "_law_lists" st__law_lists a__law_lists d__law_lists
  b__law_lists : Binds K d__law_lists ["script", "k", "most"] []
  g__law_lists : mg "_law_lists" = some (.ref a__law_lists)
  a__law_model : Addr
  d__law_model : FuncData
  F__law_model : Fun K "_law_model" "_law_model" st__law_model a__law_model d__law_model
  b__law_model : Binds K d__law_model ["script", "k", "most"] []
  g__law_model : mg "_law_model" = some (.ref a__law_model)
  a_common_unit : Addr
  d_common_unit : FuncData
  F_common_unit : Fun K "common_unit" "common_unit" st_common_unit a_common_unit d_common_unit
  b_common_unit : Binds K d_common_unit ["some_model"] []
  g_common_unit : mg "common_unit" = some (.ref a_common_unit)
  a_shifted : Addr
  d_shifted : FuncData
  F_shifted : Fun K "shifted" "shifted" st_shifted a_shifted d_shifted
  b_shifted : Binds K d_shifted ["some_model", "many"] []
  g_shifted : mg "shifted" = some (.ref a_shifted)
  a__stretched_route : Addr
  d__stretched_route : FuncData
  F__stretched_route : Fun K "_stretched_route" "_stretched_route" st__stretched_route a__stretched_route d__stretched_route
  b__stretched_route : Binds K d__stretched_route ["route", "many"] []
  g__stretched_route : mg "_stretched_route" = some (.ref a__stretched_route)
  a_stretched : Addr
  d_stretched : FuncData
  F_stretched : Fun K "stretched" "stretched" st_stretched a_stretched d_stretched
  b_stretched : Binds K d_stretched ["some_model", "many"] []
  g_stretched : mg "stretched" = some (.ref a_stretched)
  a_law : Addr
  d_law : FuncData
  F_law : Fun K "law" "law" st_law a_law d_law
  b_law : Binds K d_law ["script"] []
  g_law : mg "law" = some (.ref a_law)
  z_int : mg "int" = none
  z_len : mg "len" = none
  z_max : mg "max" = none
  z_min : mg "min" = none
  z_range : mg "range" = none
  z_sorted : mg "sorted" = none
  z_tuple : mg "tuple" = none
  zm_gcd : mg "gcd" = some (.builtin "math.gcd")
def Tbs [Tb] {K : PySem.W.Frag} {mg : Str → Option Value} {cv : Str → Value} (T : Txt K mg cv) (base : Heap) : Prop := True
section
variable {cv : Str → Value}  {P : Program} {w : World} {K : PySem.W.Frag} {mg : Str → Option Value} {base : Heap}
theorem ok__law_cell (T : Txt K mg cv) (B : Tbs T base) : FnOk P w K mg base CX0 1 T.a__law_cell T.d__law_cell ["script", "k"] (spD K sem__law_cell) :=
  ok_def (N := N__law_cell) (run := run__law_cell) T.F__law_cell sc__law_cell fun cdv A outer s H E hr =>
    (dss_cons (ds_if (dt_cmp c_lt (db_v (pv 1)) (DE.b (de_B k_len cs_len T.z_len (da_cons (db_v (pv 0)) da_nil) v_len))) (dss_one (ds_ret (de_ix (db_v (pv 0)) (db_v (pv 1))))) dss_nil)
      (dss_one (ds_ret de_int)))
theorem ok__law_draw (T : Txt K mg cv) (B : Tbs T base) : FnOk P w K mg base CX0 2 T.a__law_draw T.d__law_draw ["script", "k", "sizes"] (spD K sem__law_draw) :=
  ok_def (N := N__law_draw) (run := run__law_draw) T.F__law_draw sc__law_draw fun cdv A outer s H E hr =>
    (dss_cons (ds_set (i := 3) sc__law_draw.nd (de_call (ok__law_cell T B) (hr.mono (by decide)) T.g__law_cell T.F__law_cell.kp T.b__law_cell pass0 (df_cons (de_v (pv 0)) (df_cons (de_v (pv 1)) df_nil))))
      (dss_cons (ds_if (dt_cmp c_lt (db_v (pv 3)) (DE.b de_int)) (dss_one (ds_set (i := 3) sc__law_draw.nd (de_neg (db_v (pv 3))))) dss_nil)
      (dss_cons (ds_setO (i := 4) sc__law_draw.nd (dn_lst df_nil))
      (dss_cons (ds_if (dt_cmp c_ge (db_v (pv 3)) (DE.b (de_pow (DE.b de_int) (DE.b de_int)))) (dss_cons (ds_set (i := 3) sc__law_draw.nd (de_sub (db_v (pv 3)) (DE.b (de_pow (DE.b de_int) (DE.b de_int)))))
      (dss_cons (ds_for (di_any (de_v (pv 2))) (dg_n (pg_name (i := 5) sc__law_draw.nd rfl (by first | exact .inl rfl | exact .inr rfl))) (dss_cons (ds_app (pv 4) (de_mod (db_v (pv 3)) (db_v (pv 5))))
      (dss_one (ds_set (i := 3) sc__law_draw.nd (de_fdiv (db_v (pv 3)) (db_v (pv 5)))))))
      (dss_one (ds_frz [4] (ds_ret (de_v (pv 4))))))) dss_nil)
      (dss_cons (ds_set (i := 6) sc__law_draw.nd (de_mod (DE.b (de_add (DE.b (de_add (db_v (pv 3)) (DE.b de_int))) (DE.b (de_mul (DE.b de_int) (db_v (pv 1)))))) (DE.b de_int)))
      (dss_cons (ds_for (di_rng1 T.z_range (da_cons (DE.b (de_B k_len cs_len T.z_len (da_cons (db_v (pv 2)) da_nil) v_len)) da_nil)) (dg_n (pg_name (i := 7) sc__law_draw.nd rfl (by first | exact .inl rfl | exact .inr rfl))) (dss_cons (ds_set (i := 6) sc__law_draw.nd (de_mod (DE.b (de_add (DE.b (de_add (DE.b (de_mul (db_v (pv 6)) (DE.b de_int))) (DE.b de_int))) (db_v (pv 7)))) (DE.b de_int)))
      (dss_cons (ds_set (i := 6) sc__law_draw.nd (de_mod (DE.b (de_add (DE.b (de_mul (db_v (pv 6)) (DE.b de_int))) (DE.b de_int))) (DE.b de_int)))
      (dss_one (ds_app (pv 4) (de_mod (DE.b (de_fdiv (db_v (pv 6)) (DE.b de_int))) (DE.b (de_ix (db_v (pv 2)) (db_v (pv 7))))))))))
      (dss_one (ds_frz [4] (ds_ret (de_v (pv 4)))))))))))
theorem ok__law_lists (T : Txt K mg cv) (B : Tbs T base) : FnOk P w K mg base CX0 3 T.a__law_lists T.d__law_lists ["script", "k", "most"] (spD K sem__law_lists) :=
  ok_def (N := N__law_lists) (run := run__law_lists) T.F__law_lists sc__law_lists fun cdv A outer s H E hr =>
    (dss_cons (ds_set (i := 3) sc__law_lists.nd (de_call (ok__law_draw T B) (hr.mono (by decide)) T.g__law_draw T.F__law_draw.kp T.b__law_draw pass0 (df_cons (de_v (pv 0)) (df_cons (de_v (pv 1)) (df_cons (DN.e (dn_lst (df_cons de_int (df_cons de_int (df_cons de_int (df_cons (de_v (pv 2)) (df_cons de_int (df_cons de_int df_nil)))))))) df_nil)))))
      (dss_cons (ds_set (i := 4) sc__law_lists.nd (de_sl (DE.b (DN.e (dn_lst (df_cons de_str (df_cons de_str (df_cons de_str (df_cons de_str df_nil))))))) do_none (do_some (de_add (DE.b de_int) (DE.b (de_ix (db_v (pv 3)) (DE.b de_int)))))))
      (dss_cons (ds_set (i := 5) sc__law_lists.nd (de_call (ok__law_draw T B) (hr.mono (by decide)) T.g__law_draw T.F__law_draw.kp T.b__law_draw pass0 (df_cons (de_v (pv 0)) (df_cons (de_add (db_v (pv 1)) (DE.b de_int)) (df_cons (de_mul (DE.b (DN.e (dn_lst (df_cons de_int (df_cons de_int (df_cons de_int df_nil)))))) (DE.b de_int)) df_nil)))))
      (dss_cons (ds_setO (i := 6) sc__law_lists.nd (dn_lst df_nil))
      (dss_cons (ds_for (di_rng1 T.z_range (da_cons (DE.b (de_B k_len cs_len T.z_len (da_cons (db_v (pv 4)) da_nil) v_len)) da_nil)) (dg_n (pg_name (i := 7) sc__law_lists.nd rfl (by first | exact .inl rfl | exact .inr rfl))) (dss_cons (ds_set (i := 8) sc__law_lists.nd (de_add (DE.b de_int) (DE.b (de_ix (db_v (pv 5)) (DE.b (de_mul (DE.b de_int) (db_v (pv 7))))))))
      (dss_cons (ds_set (i := 9) sc__law_lists.nd (de_ix (DE.b (DN.e (dn_lst (df_cons (de_v (pv 8)) (df_cons (de_add (db_v (pv 8)) (DE.b de_int)) (df_cons (de_v (pv 8)) (df_cons (de_add (db_v (pv 8)) (DE.b de_int)) (df_cons de_non (df_cons de_non df_nil))))))))) (DE.b (de_ix (db_v (pv 5)) (DE.b (de_add (DE.b (de_mul (DE.b de_int) (db_v (pv 7)))) (DE.b de_int)))))))
      (dss_one (ds_app (pv 6) (de_tup (df_cons (de_ix (db_v (pv 4)) (db_v (pv 7))) (df_cons (de_v (pv 8)) (df_cons (de_v (pv 9)) (df_cons (de_ix (DE.b (DN.e (dn_lst (df_cons de_str (df_cons de_str (df_cons de_str df_nil)))))) (DE.b (de_ix (db_v (pv 5)) (DE.b (de_add (DE.b (de_mul (DE.b de_int) (db_v (pv 7)))) (DE.b de_int)))))) df_nil))))))))))
      (dss_cons (ds_setO (i := 10) sc__law_lists.nd (dn_lst df_nil))
      (dss_cons (ds_for (di_rng1 T.z_range (da_cons (DE.b (de_add (DE.b de_int) (DE.b (de_ix (db_v (pv 3)) (DE.b de_int))))) da_nil)) (dg_n (pg_name (i := 7) sc__law_lists.nd rfl (by first | exact .inl rfl | exact .inr rfl))) (dss_cons (ds_set (i := 11) sc__law_lists.nd (de_call (ok__law_draw T B) (hr.mono (by decide)) T.g__law_draw T.F__law_draw.kp T.b__law_draw pass0 (df_cons (de_v (pv 0)) (df_cons (de_add (DE.b (de_add (db_v (pv 1)) (DE.b de_int))) (db_v (pv 7))) (df_cons (de_add (DE.b (DN.e (dn_lst (df_cons de_int (df_cons de_int df_nil))))) (DE.b (de_mul (DE.b (DN.e (dn_lst (df_cons de_int (df_cons de_int (df_cons de_int df_nil)))))) (DE.b de_int)))) df_nil)))))
      (dss_cons (ds_setO (i := 12) sc__law_lists.nd (dn_lst df_nil))
      (dss_cons (ds_for (di_rng1 T.z_range (da_cons (DE.b (de_add (DE.b de_int) (DE.b (de_ix (db_v (pv 11)) (DE.b de_int))))) da_nil)) (dg_n (pg_name (i := 13) sc__law_lists.nd rfl (by first | exact .inl rfl | exact .inr rfl))) (dss_cons (ds_set (i := 14) sc__law_lists.nd (de_add (DE.b de_int) (DE.b (de_ix (db_v (pv 11)) (DE.b (de_add (DE.b de_int) (DE.b (de_mul (DE.b de_int) (db_v (pv 13))))))))))
      (dss_cons (ds_if (dt_cmp (c_eq hr.units) (DE.b (de_ix (db_v (pv 3)) (DE.b de_int))) (DE.b de_int)) (dss_one (ds_set (i := 14) sc__law_lists.nd (de_add (DE.b de_int) (DE.b (de_ix (db_v (pv 11)) (DE.b (de_add (DE.b de_int) (DE.b (de_mul (DE.b de_int) (db_v (pv 13))))))))))) dss_nil)
      (dss_one (ds_app (pv 12) (de_tup (df_cons (de_ix (db_v (pv 4)) (DE.b (de_mod (DE.b (de_ix (db_v (pv 11)) (DE.b (de_add (DE.b de_int) (DE.b (de_mul (DE.b de_int) (db_v (pv 13)))))))) (DE.b (de_B k_len cs_len T.z_len (da_cons (db_v (pv 4)) da_nil) v_len))))) (df_cons (de_v (pv 14)) df_nil))))))))
      (dss_one (ds_app (pv 10) (de_tup (df_cons (de_ix (DE.b (DN.e (dn_lst (df_cons de_str (df_cons de_str (df_cons de_str df_nil)))))) (db_v (pv 7))) (df_cons (de_ix (db_v (pv 11)) (DE.b de_int)) (df_cons (de_T k_tup cs_tup T.z_tuple (da_cons (db_v (pv 12)) da_nil) v_tuple) df_nil))))))))))
      (dss_cons (ds_setO (i := 15) sc__law_lists.nd (dn_lst df_nil))
      (dss_cons (ds_set (i := 16) sc__law_lists.nd (de_call (ok__law_draw T B) (hr.mono (by decide)) T.g__law_draw T.F__law_draw.kp T.b__law_draw pass0 (df_cons (de_v (pv 0)) (df_cons (de_add (db_v (pv 1)) (DE.b de_int)) (df_cons (de_mul (DE.b (DN.e (dn_lst (df_cons de_int (df_cons de_int (df_cons de_int (df_cons de_int (df_cons de_int df_nil)))))))) (DE.b de_int)) df_nil)))))
      (dss_cons (ds_setK (i := 17) sc__law_lists.nd)
      (dss_cons (ds_for (di_rng1 T.z_range (da_cons (DE.b (de_ix (db_v (pv 3)) (DE.b de_int))) da_nil)) (dg_n (pg_name (i := 7) sc__law_lists.nd rfl (by first | exact .inl rfl | exact .inr rfl))) (dss_cons (ds_set (i := 18) sc__law_lists.nd (de_ix (db_v (pv 4)) (DE.b (de_mod (DE.b (de_ix (db_v (pv 16)) (DE.b (de_mul (DE.b de_int) (DE.b (de_mod (db_v (pv 7)) (DE.b de_int))))))) (DE.b (de_B k_len cs_len T.z_len (da_cons (db_v (pv 4)) da_nil) v_len))))))
      (dss_cons (ds_set (i := 19) sc__law_lists.nd (de_add (DE.b (de_add (DE.b (de_get2 (hu_of hr) (pv 17) (de_v (pv 18)) (de_neg (DE.b de_int)))) (DE.b de_int))) (DE.b (de_ix (db_v (pv 16)) (DE.b (de_add (DE.b (de_mul (DE.b de_int) (DE.b (de_mod (db_v (pv 7)) (DE.b de_int))))) (DE.b de_int)))))))
      (dss_cons (ds_put (hu_of hr) (pv 17) (de_v (pv 18)) (de_add (DE.b (de_add (db_v (pv 19)) (DE.b de_int))) (DE.b (de_ix (db_v (pv 16)) (DE.b (de_add (DE.b (de_mul (DE.b de_int) (DE.b (de_mod (db_v (pv 7)) (DE.b de_int))))) (DE.b de_int)))))))
      (dss_one (ds_app (pv 15) (de_tup (df_cons (de_v (pv 18)) (df_cons (de_v (pv 19)) (df_cons (de_dix (hu_of hr) (pv 17) (de_v (pv 18))) df_nil))))))))))
      (dss_cons (ds_setO (i := 20) sc__law_lists.nd (dn_lst df_nil))
      (dss_cons (ds_set (i := 21) sc__law_lists.nd de_int)
      (dss_cons (ds_set (i := 22) sc__law_lists.nd (de_call (ok__law_draw T B) (hr.mono (by decide)) T.g__law_draw T.F__law_draw.kp T.b__law_draw pass0 (df_cons (de_v (pv 0)) (df_cons (de_add (db_v (pv 1)) (DE.b de_int)) (df_cons (de_mul (DE.b (DN.e (dn_lst (df_cons de_int (df_cons de_int df_nil))))) (DE.b de_int)) df_nil)))))
      (dss_cons (ds_for (di_rng1 T.z_range (da_cons (DE.b (de_ix (db_v (pv 3)) (DE.b de_int))) da_nil)) (dg_n (pg_name (i := 7) sc__law_lists.nd rfl (by first | exact .inl rfl | exact .inr rfl))) (dss_cons (ds_set (i := 21) sc__law_lists.nd (de_add (db_v (pv 21)) (DE.b (de_mul (DE.b (de_ix (DE.b (DN.e (dn_lst (df_cons de_int (df_cons de_int (df_cons de_int (df_cons de_int df_nil))))))) (DE.b (de_ix (db_v (pv 22)) (DE.b (de_mul (DE.b de_int) (db_v (pv 7)))))))) (DE.b (de_add (DE.b de_int) (DE.b (de_mul (DE.b de_int) (DE.b (de_T call_int1' cs_int T.z_int (da_cons (DE.b (de_cmp (c_eq hr.units) (DE.b (de_ix (db_v (pv 3)) (DE.b de_int))) (DE.b de_int))) da_nil) v_int))))))))))
      (dss_one (ds_app (pv 20) (de_tup (df_cons (de_v (pv 21)) (df_cons (de_ix (DE.b (de_ix (db_v (pv 10)) (DE.b (de_mod (DE.b (de_ix (db_v (pv 22)) (DE.b (de_add (DE.b (de_mul (DE.b de_int) (db_v (pv 7)))) (DE.b de_int))))) (DE.b (de_B k_len cs_len T.z_len (da_cons (db_v (pv 10)) da_nil) v_len)))))) (DE.b de_int)) df_nil)))))))
      (dss_one (ds_frz [20, 15, 10, 6] (ds_ret (de_tup (df_cons (de_v (pv 6)) (df_cons (de_v (pv 10)) (df_cons (de_v (pv 15)) (df_cons (de_v (pv 20)) df_nil)))))))))))))))))))))))
theorem ok__law_model (T : Txt K mg cv) (B : Tbs T base) : FnOk P w K mg base CX0 4 T.a__law_model T.d__law_model ["script", "k", "most"] (spD K sem__law_model) :=
  ok_def (N := N__law_model) (run := run__law_model) T.F__law_model sc__law_model fun cdv A outer s H E hr =>
    (dss_cons (ds_asg (de_call (ok__law_lists T B) (hr.mono (by decide)) T.g__law_lists T.F__law_lists.kp T.b__law_lists pass0 (df_cons (de_v (pv 0)) (df_cons (de_v (pv 1)) (df_cons (de_v (pv 2)) df_nil)))) (dg_tup (dgs_cons (dg_n (pg_name (i := 3) sc__law_model.nd rfl (by first | exact .inl rfl | exact .inr rfl))) (dgs_cons (dg_n (pg_name (i := 4) sc__law_model.nd rfl (by first | exact .inl rfl | exact .inr rfl))) (dgs_cons (dg_n (pg_name (i := 5) sc__law_model.nd rfl (by first | exact .inl rfl | exact .inr rfl))) (dgs_cons (dg_n (pg_name (i := 6) sc__law_model.nd rfl (by first | exact .inl rfl | exact .inr rfl))) dgs_nil))))))
      (dss_one (ds_ret (de_tup (df_cons (de_T k_tup cs_tup T.z_tuple (da_cons (DE.b (DN.e (dn_B (k_sorted hr.units) cn_sorted T.z_sorted (da_cons (db_v (pv 3)) da_nil) v_sorted))) da_nil) v_tuple) (df_cons (de_T k_tup cs_tup T.z_tuple (da_cons (DE.b (DN.e (dn_B (k_sorted hr.units) cn_sorted T.z_sorted (da_cons (db_v (pv 4)) da_nil) v_sorted))) da_nil) v_tuple) (df_cons (de_T k_tup cs_tup T.z_tuple (da_cons (DE.b (DN.e (dn_B (k_sorted hr.units) cn_sorted T.z_sorted (da_cons (db_v (pv 5)) da_nil) v_sorted))) da_nil) v_tuple) (df_cons (de_T k_tup cs_tup T.z_tuple (da_cons (db_v (pv 6)) da_nil) v_tuple) df_nil))))))))
theorem ok_common_unit (T : Txt K mg cv) (B : Tbs T base) : FnOk P w K mg base CX0 1 T.a_common_unit T.d_common_unit ["some_model"] (spD K sem_common_unit) :=
  ok_def (N := N_common_unit) (run := run_common_unit) T.F_common_unit sc_common_unit fun cdv A outer s H E hr =>
    (dss_cons (ds_asg (de_v (pv 0)) (dg_tup (dgs_cons (dg_n (pg_name (i := 1) sc_common_unit.nd rfl (by first | exact .inl rfl | exact .inr rfl))) (dgs_cons (dg_n (pg_name (i := 2) sc_common_unit.nd rfl (by first | exact .inl rfl | exact .inr rfl))) (dgs_cons (dg_n (pg_name (i := 3) sc_common_unit.nd rfl (by first | exact .inl rfl | exact .inr rfl))) (dgs_cons (dg_n (pg_name (i := 4) sc_common_unit.nd rfl (by first | exact .inl rfl | exact .inr rfl))) dgs_nil))))))
      (dss_cons (ds_lc2O (i := 5) (own := [("_", 1), ("route", 8), ("duration", 9)]) (vs1 := [1, 9]) sc_common_unit.nd (di_any (de_v (pv 2))) (blkOk_by (own := [("_", 1), ("route", 8), ("duration", 9)]) (N := N_common_unit) (sc := defScope st_common_unit) (by decide +kernel)) (fun s H C cl fp => (dg_tup (dgs_cons (dg_n (pg_name (i := 1) sc_common_unit.nd rfl (by first | exact .inl rfl | exact .inr rfl))) (dgs_cons (dg_n (pg_name (i := 1) sc_common_unit.nd rfl (by first | exact .inl rfl | exact .inr rfl))) (dgs_cons (dg_n (pg_name (i := 8) sc_common_unit.nd rfl (by first | exact .inl rfl | exact .inr rfl))) dgs_nil))))) (by decide) (fun s H C cl fp => dts_nil) (fun s H C cl fp => (di_any (de_v (pv 8)))) (fun s H C cl fp => (dg_tup (dgs_cons (dg_n (pg_name (i := 1) sc_common_unit.nd rfl (by first | exact .inl rfl | exact .inr rfl))) (dgs_cons (dg_n (pg_name (i := 9) sc_common_unit.nd rfl (by first | exact .inl rfl | exact .inr rfl))) dgs_nil)))) (by decide) (by decide) (fun s H C cl fp => dts_nil) (fun s H C cl fp => (de_v (pv 9))) (sw_true rfl rfl rfl (by decide +kernel)))
      (dss_cons (ds_ext (pv 5) (dn_lc2 (own := [("_", 1), ("begin", 10), ("end", 11), ("time", 12)]) (vs1 := [12]) sc_common_unit.nd (di_any (de_v (pv 3))) (blkOk_by (own := [("_", 1), ("begin", 10), ("end", 11), ("time", 12)]) (N := N_common_unit) (sc := defScope st_common_unit) (by decide +kernel)) (fun s H C cl fp => (dg_tup (dgs_cons (dg_n (pg_name (i := 1) sc_common_unit.nd rfl (by first | exact .inl rfl | exact .inr rfl))) (dgs_cons (dg_n (pg_name (i := 10) sc_common_unit.nd rfl (by first | exact .inl rfl | exact .inr rfl))) (dgs_cons (dg_n (pg_name (i := 11) sc_common_unit.nd rfl (by first | exact .inl rfl | exact .inr rfl))) dgs_nil))))) (by decide) (fun s H C cl fp => dts_nil) (fun s H C cl fp => (di_any (de_tup (df_cons (de_v (pv 10)) (df_cons (de_v (pv 11)) df_nil))))) (fun s H C cl fp => (dg_n (pg_name (i := 12) sc_common_unit.nd rfl (by first | exact .inl rfl | exact .inr rfl)))) (by decide) (by decide) (fun s H C cl fp => dts_nil) (fun s H C cl fp => (de_v (pv 12)))))
      (dss_cons (ds_ext (pv 5) (dn_lc (own := [("time", 12), ("_", 1)]) sc_common_unit.nd (di_any (de_v (pv 4))) (blkOk_by (own := [("time", 12), ("_", 1)]) (N := N_common_unit) (sc := defScope st_common_unit) (by decide +kernel)) (fun s H C cl fp => (dg_tup (dgs_cons (dg_n (pg_name (i := 12) sc_common_unit.nd rfl (by first | exact .inl rfl | exact .inr rfl))) (dgs_cons (dg_n (pg_name (i := 1) sc_common_unit.nd rfl (by first | exact .inl rfl | exact .inr rfl))) dgs_nil)))) (by decide) (fun s H C cl fp => dts_nil) (fun s H C cl fp => (de_v (pv 12)))))
      (dss_cons (ds_set (i := 6) sc_common_unit.nd de_int)
      (dss_cons (ds_frz [5] (ds_for (di_any (de_v (pv 5))) (dg_n (pg_name (i := 7) sc_common_unit.nd rfl (by first | exact .inl rfl | exact .inr rfl))) (dss_one (ds_set (i := 6) sc_common_unit.nd (de_Bf cr_gcd cs_gcd T.zm_gcd (da_cons (db_v (pv 6)) (da_cons (db_v (pv 7)) da_nil)))))))
      (dss_one (ds_ret (de_B k_max2 cs_max2 T.z_max (da_cons (db_v (pv 6)) (da_cons (DE.b de_int) da_nil)) v_max)))))))))
theorem ok_shifted (T : Txt K mg cv) (B : Tbs T base) : FnOk P w K mg base CX0 1 T.a_shifted T.d_shifted ["some_model", "many"] (spD K sem_shifted) :=
  ok_def (N := N_shifted) (run := run_shifted) T.F_shifted sc_shifted fun cdv A outer s H E hr =>
    (dss_cons (ds_asg (de_v (pv 0)) (dg_tup (dgs_cons (dg_n (pg_name (i := 2) sc_shifted.nd rfl (by first | exact .inl rfl | exact .inr rfl))) (dgs_cons (dg_n (pg_name (i := 3) sc_shifted.nd rfl (by first | exact .inl rfl | exact .inr rfl))) (dgs_cons (dg_n (pg_name (i := 4) sc_shifted.nd rfl (by first | exact .inl rfl | exact .inr rfl))) (dgs_cons (dg_n (pg_name (i := 5) sc_shifted.nd rfl (by first | exact .inl rfl | exact .inr rfl))) dgs_nil))))))
      (dss_one (ds_ret (de_tup (df_cons (de_v (pv 2)) (df_cons (de_v (pv 3)) (df_cons (de_T k_tup cs_tup T.z_tuple (da_cons (DE.b (DN.e (dn_lc (own := [("name", 6), ("begin", 7), ("end", 8)]) sc_shifted.nd (di_any (de_v (pv 4))) (blkOk_by (own := [("name", 6), ("begin", 7), ("end", 8)]) (N := N_shifted) (sc := defScope st_shifted) (by decide +kernel)) (fun s H C cl fp => (dg_tup (dgs_cons (dg_n (pg_name (i := 6) sc_shifted.nd rfl (by first | exact .inl rfl | exact .inr rfl))) (dgs_cons (dg_n (pg_name (i := 7) sc_shifted.nd rfl (by first | exact .inl rfl | exact .inr rfl))) (dgs_cons (dg_n (pg_name (i := 8) sc_shifted.nd rfl (by first | exact .inl rfl | exact .inr rfl))) dgs_nil))))) (by decide) (fun s H C cl fp => dts_nil) (fun s H C cl fp => (de_tup (df_cons (de_v (pv 6)) (df_cons (de_add (db_v (pv 7)) (db_v (pv 1))) (df_cons (de_add (db_v (pv 8)) (db_v (pv 1))) df_nil)))))))) da_nil) v_tuple) (df_cons (de_T k_tup cs_tup T.z_tuple (da_cons (DE.b (DN.e (dn_lc (own := [("time", 9), ("kind", 10)]) sc_shifted.nd (di_any (de_v (pv 5))) (blkOk_by (own := [("time", 9), ("kind", 10)]) (N := N_shifted) (sc := defScope st_shifted) (by decide +kernel)) (fun s H C cl fp => (dg_tup (dgs_cons (dg_n (pg_name (i := 9) sc_shifted.nd rfl (by first | exact .inl rfl | exact .inr rfl))) (dgs_cons (dg_n (pg_name (i := 10) sc_shifted.nd rfl (by first | exact .inl rfl | exact .inr rfl))) dgs_nil)))) (by decide) (fun s H C cl fp => dts_nil) (fun s H C cl fp => (de_tup (df_cons (de_add (db_v (pv 9)) (db_v (pv 1))) (df_cons (de_v (pv 10)) df_nil))))))) da_nil) v_tuple) df_nil))))))))
theorem ok__stretched_route (T : Txt K mg cv) (B : Tbs T base) : FnOk P w K mg base CX0 1 T.a__stretched_route T.d__stretched_route ["route", "many"] (spD K sem__stretched_route) :=
  ok_def (N := N__stretched_route) (run := run__stretched_route) T.F__stretched_route sc__stretched_route fun cdv A outer s H E hr =>
    (dss_one (ds_ret (de_T k_tup cs_tup T.z_tuple (da_cons (DE.b (DN.e (dn_lc (own := [("station", 2), ("duration", 3)]) sc__stretched_route.nd (di_any (de_v (pv 0))) (blkOk_by (own := [("station", 2), ("duration", 3)]) (N := N__stretched_route) (sc := defScope st__stretched_route) (by decide +kernel)) (fun s H C cl fp => (dg_tup (dgs_cons (dg_n (pg_name (i := 2) sc__stretched_route.nd rfl (by first | exact .inl rfl | exact .inr rfl))) (dgs_cons (dg_n (pg_name (i := 3) sc__stretched_route.nd rfl (by first | exact .inl rfl | exact .inr rfl))) dgs_nil)))) (by decide) (fun s H C cl fp => dts_nil) (fun s H C cl fp => (de_tup (df_cons (de_v (pv 2)) (df_cons (de_mul (db_v (pv 3)) (db_v (pv 1))) df_nil))))))) da_nil) v_tuple)))
theorem ok_stretched (T : Txt K mg cv) (B : Tbs T base) : FnOk P w K mg base CX0 2 T.a_stretched T.d_stretched ["some_model", "many"] (spD K sem_stretched) :=
  ok_def (N := N_stretched) (run := run_stretched) T.F_stretched sc_stretched fun cdv A outer s H E hr =>
    (dss_cons (ds_asg (de_v (pv 0)) (dg_tup (dgs_cons (dg_n (pg_name (i := 2) sc_stretched.nd rfl (by first | exact .inl rfl | exact .inr rfl))) (dgs_cons (dg_n (pg_name (i := 3) sc_stretched.nd rfl (by first | exact .inl rfl | exact .inr rfl))) (dgs_cons (dg_n (pg_name (i := 4) sc_stretched.nd rfl (by first | exact .inl rfl | exact .inr rfl))) (dgs_cons (dg_n (pg_name (i := 5) sc_stretched.nd rfl (by first | exact .inl rfl | exact .inr rfl))) dgs_nil))))))
      (dss_one (ds_ret (de_tup (df_cons (de_v (pv 2)) (df_cons (de_T k_tup cs_tup T.z_tuple (da_cons (DE.b (DN.e (dn_lc (own := [("name", 6), ("priority", 7), ("route", 8)]) sc_stretched.nd (di_any (de_v (pv 3))) (blkOk_by (own := [("name", 6), ("priority", 7), ("route", 8)]) (N := N_stretched) (sc := defScope st_stretched) (by decide +kernel)) (fun s H C cl fp => (dg_tup (dgs_cons (dg_n (pg_name (i := 6) sc_stretched.nd rfl (by first | exact .inl rfl | exact .inr rfl))) (dgs_cons (dg_n (pg_name (i := 7) sc_stretched.nd rfl (by first | exact .inl rfl | exact .inr rfl))) (dgs_cons (dg_n (pg_name (i := 8) sc_stretched.nd rfl (by first | exact .inl rfl | exact .inr rfl))) dgs_nil))))) (by decide) (fun s H C cl fp => dts_nil) (fun s H C cl fp => (de_tup (df_cons (de_v (pv 6)) (df_cons (de_v (pv 7)) (df_cons (de_call (ok__stretched_route T B) (hr.mono (by decide)) T.g__stretched_route T.F__stretched_route.kp T.b__stretched_route pass0 (df_cons (de_v (pv 8)) (df_cons (de_v (pv 1)) df_nil))) df_nil)))))))) da_nil) v_tuple) (df_cons (de_T k_tup cs_tup T.z_tuple (da_cons (DE.b (DN.e (dn_lc (own := [("name", 6), ("begin", 9), ("end", 10)]) sc_stretched.nd (di_any (de_v (pv 4))) (blkOk_by (own := [("name", 6), ("begin", 9), ("end", 10)]) (N := N_stretched) (sc := defScope st_stretched) (by decide +kernel)) (fun s H C cl fp => (dg_tup (dgs_cons (dg_n (pg_name (i := 6) sc_stretched.nd rfl (by first | exact .inl rfl | exact .inr rfl))) (dgs_cons (dg_n (pg_name (i := 9) sc_stretched.nd rfl (by first | exact .inl rfl | exact .inr rfl))) (dgs_cons (dg_n (pg_name (i := 10) sc_stretched.nd rfl (by first | exact .inl rfl | exact .inr rfl))) dgs_nil))))) (by decide) (fun s H C cl fp => dts_nil) (fun s H C cl fp => (de_tup (df_cons (de_v (pv 6)) (df_cons (de_mul (db_v (pv 9)) (db_v (pv 1))) (df_cons (de_mul (db_v (pv 10)) (db_v (pv 1))) df_nil)))))))) da_nil) v_tuple) (df_cons (de_T k_tup cs_tup T.z_tuple (da_cons (DE.b (DN.e (dn_lc (own := [("time", 11), ("kind", 12)]) sc_stretched.nd (di_any (de_v (pv 5))) (blkOk_by (own := [("time", 11), ("kind", 12)]) (N := N_stretched) (sc := defScope st_stretched) (by decide +kernel)) (fun s H C cl fp => (dg_tup (dgs_cons (dg_n (pg_name (i := 11) sc_stretched.nd rfl (by first | exact .inl rfl | exact .inr rfl))) (dgs_cons (dg_n (pg_name (i := 12) sc_stretched.nd rfl (by first | exact .inl rfl | exact .inr rfl))) dgs_nil)))) (by decide) (fun s H C cl fp => dts_nil) (fun s H C cl fp => (de_tup (df_cons (de_mul (db_v (pv 11)) (db_v (pv 1))) (df_cons (de_v (pv 12)) df_nil))))))) da_nil) v_tuple) df_nil))))))))
theorem ok_law (T : Txt K mg cv) (B : Tbs T base) : FnOk P w K mg base CX0 5 T.a_law T.d_law ["script"] (spD K sem_law) :=
  ok_def (N := N_law) (run := run_law) T.F_law sc_law fun cdv A outer s H E hr =>
    (dss_cons (ds_for (di_rng1 T.z_range (da_cons (DE.b (de_B k_min2 cs_min2 T.z_min (da_cons (DE.b de_int) (da_cons (DE.b (de_B k_max2 cs_max2 T.z_max (da_cons (DE.b de_int) (da_cons (DE.b (de_fdiv (DE.b (de_B k_len cs_len T.z_len (da_cons (db_v (pv 0)) da_nil) v_len)) (DE.b de_int))) da_nil)) v_max)) da_nil)) v_min)) da_nil)) (dg_n (pg_name (i := 1) sc_law.nd rfl (by first | exact .inl rfl | exact .inr rfl))) (dss_cons (ds_set (i := 2) sc_law.nd (de_call (ok__law_draw T B) (hr.mono (by decide)) T.g__law_draw T.F__law_draw.kp T.b__law_draw pass0 (df_cons (de_v (pv 0)) (df_cons (de_add (DE.b (de_mul (DE.b de_int) (db_v (pv 1)))) (DE.b de_int)) (df_cons (DN.e (dn_lst (df_cons de_int (df_cons de_int df_nil)))) df_nil)))))
      (dss_cons (ds_set (i := 3) sc_law.nd (de_call (ok__law_model T B) (hr.mono (by decide)) T.g__law_model T.F__law_model.kp T.b__law_model pass0 (df_cons (de_v (pv 0)) (df_cons (de_mul (DE.b de_int) (db_v (pv 1))) (df_cons de_int df_nil)))))
      (dss_one (ds_for (di_any (DN.e (dn_lst (df_cons (de_v (pv 3)) (df_cons (de_call (ok_stretched T B) (hr.mono (by decide)) T.g_stretched T.F_stretched.kp T.b_stretched pass0 (df_cons (de_v (pv 3)) (df_cons (de_add (DE.b de_int) (DE.b (de_ix (db_v (pv 2)) (DE.b de_int)))) df_nil))) (df_cons (de_call (ok_shifted T B) (hr.mono (by decide)) T.g_shifted T.F_shifted.kp T.b_shifted pass0 (df_cons (de_v (pv 3)) (df_cons (de_ix (db_v (pv 2)) (DE.b de_int)) df_nil))) (df_cons (de_call (ok_shifted T B) (hr.mono (by decide)) T.g_shifted T.F_shifted.kp T.b_shifted pass0 (df_cons (de_call (ok_stretched T B) (hr.mono (by decide)) T.g_stretched T.F_stretched.kp T.b_stretched pass0 (df_cons (de_v (pv 3)) (df_cons de_int df_nil))) (df_cons (de_mul (DE.b de_int) (DE.b (de_ix (db_v (pv 2)) (DE.b de_int)))) df_nil))) df_nil))))))) (dg_n (pg_name (i := 4) sc_law.nd rfl (by first | exact .inl rfl | exact .inr rfl))) (dss_cons (ds_lc (i := 5) (own := [("time", 15), ("kind", 16)]) sc_law.nd (di_any (de_ix (db_v (pv 4)) (DE.b de_int))) (blkOk_by (own := [("time", 15), ("kind", 16)]) (N := N_law) (sc := defScope st_law) (by decide +kernel)) (fun s H C cl fp => (dg_tup (dgs_cons (dg_n (pg_name (i := 15) sc_law.nd rfl (by first | exact .inl rfl | exact .inr rfl))) (dgs_cons (dg_n (pg_name (i := 16) sc_law.nd rfl (by first | exact .inl rfl | exact .inr rfl))) dgs_nil)))) (by decide) (fun s H C cl fp => dts_nil) (fun s H C cl fp => (de_v (pv 15))) (sw_true rfl rfl rfl (by decide +kernel)))
      (dss_cons (ds_for (di_any (de_ix (db_v (pv 4)) (DE.b de_int))) (dg_tup (dgs_cons (dg_n (pg_name (i := 6) sc_law.nd rfl (by first | exact .inl rfl | exact .inr rfl))) (dgs_cons (dg_n (pg_name (i := 7) sc_law.nd rfl (by first | exact .inl rfl | exact .inr rfl))) (dgs_cons (dg_n (pg_name (i := 8) sc_law.nd rfl (by first | exact .inl rfl | exact .inr rfl))) dgs_nil)))) (dss_one (ds_set (i := 5) sc_law.nd (de_add (db_v (pv 5)) (DE.b (DN.e (dn_lst (df_cons (de_v (pv 7)) (df_cons (de_v (pv 8)) df_nil)))))))))
      (dss_cons (ds_for (di_any (de_ix (db_v (pv 4)) (DE.b de_int))) (dg_tup (dgs_cons (dg_n (pg_name (i := 6) sc_law.nd rfl (by first | exact .inl rfl | exact .inr rfl))) (dgs_cons (dg_n (pg_name (i := 9) sc_law.nd rfl (by first | exact .inl rfl | exact .inr rfl))) (dgs_cons (dg_n (pg_name (i := 10) sc_law.nd rfl (by first | exact .inl rfl | exact .inr rfl))) dgs_nil)))) (dss_one (ds_set (i := 5) sc_law.nd (de_add (db_v (pv 5)) (DE.b (DN.e (dn_lc (own := [("at", 17), ("length", 18)]) sc_law.nd (di_any (de_v (pv 10))) (blkOk_by (own := [("at", 17), ("length", 18)]) (N := N_law) (sc := defScope st_law) (by decide +kernel)) (fun s H C cl fp => (dg_tup (dgs_cons (dg_n (pg_name (i := 17) sc_law.nd rfl (by first | exact .inl rfl | exact .inr rfl))) (dgs_cons (dg_n (pg_name (i := 18) sc_law.nd rfl (by first | exact .inl rfl | exact .inr rfl))) dgs_nil)))) (by decide) (fun s H C cl fp => dts_nil) (fun s H C cl fp => (de_v (pv 18))))))))))
      (dss_cons (ds_set (i := 11) sc_law.nd de_int)
      (dss_cons (ds_for (di_any (de_v (pv 5))) (dg_n (pg_name (i := 12) sc_law.nd rfl (by first | exact .inl rfl | exact .inr rfl))) (dss_cons (ds_set (i := 13) sc_law.nd (de_v (pv 12)))
      (dss_cons (ds_set (i := 14) sc_law.nd (de_v (pv 11)))
      (dss_cons (ds_while 100000 (dt_cmp (c_ne hr.units) (db_v (pv 14)) (DE.b de_int)) (dss_one (ds_par (i := 13) (j := 14) sc_law.nd (df_cons (de_v (pv 14)) (df_cons (de_mod (db_v (pv 13)) (db_v (pv 14))) df_nil)))))
      (dss_one (ds_set (i := 11) sc_law.nd (de_v (pv 13))))))))
      (dss_one (ds_if (dt_cmp (c_ne hr.units) (DE.b (de_call (ok_common_unit T B) (hr.mono (by decide)) T.g_common_unit T.F_common_unit.kp T.b_common_unit pass0 (df_cons (de_v (pv 4)) df_nil))) (DE.b (de_B k_max2 cs_max2 T.z_max (da_cons (DE.b de_int) (da_cons (db_v (pv 11)) da_nil)) v_max))) (dss_one (ds_ret de_bl)) dss_nil))))))))))))
      (dss_one (ds_ret de_bl)))
end
theorem szl' {n : Nat} (h : n ≤ 16777216) : n ≤ sizeLine := by rw [sizeLine_eq]; exact h
def mkTxt {K : PySem.W.Frag} {h : Heap} {mg : Str → Option Value} (X : K.In h) (G : h.Ns mainGlobals mg)
    {f0 f1 f2 f3 f4 f5 f6 f7 f8 : Addr} {od0 an0 od1 an1 od2 an2 od3 an3 od4 an4 od5 an5 od6 an6 od7 an7 od8 an8 : Option Addr} {sl0 sl1 sl2 sl3 sl4 sl5 sl6 sl7 sl8 : Array (Option Value)} {oc0 kV0 dc0 pm0 cd0 ct0 oc1 kV1 dc1 pm1 cd1 ct1 oc2 kV2 dc2 pm2 cd2 ct2 oc3 kV3 dc3 pm3 cd3 ct3 oc4 kV4 dc4 pm4 cd4 ct4 oc5 kV5 dc5 pm5 cd5 ct5 oc6 kV6 dc6 pm6 cd6 ct6 oc7 kV7 dc7 pm7 cd7 ct7 oc8 kV8 dc8 pm8 cd8 ct8 : Value} 
    (q0 : PySem.W.nsIn K mainGlobals "_law_cell" = some (some (.ref f0)))
    (l0 : K.lookup f0 = some ⟨oc0, od0, .func (PySem.W.fnOf "_law_cell" "_law_cell" (defArgs st__law_cell) (defBody st__law_cell) (defScope st__law_cell) .none kV0 dc0 pm0 an0 cd0 ct0), sl0⟩)
    (c0 : PySem.W.codeIn K cd0 "_law_cell" = true)
    (k0 : PySem.W.keepIn K (.ref f0) = true)
    (q1 : PySem.W.nsIn K mainGlobals "_law_draw" = some (some (.ref f1)))
    (l1 : K.lookup f1 = some ⟨oc1, od1, .func (PySem.W.fnOf "_law_draw" "_law_draw" (defArgs st__law_draw) (defBody st__law_draw) (defScope st__law_draw) .none kV1 dc1 pm1 an1 cd1 ct1), sl1⟩)
    (c1 : PySem.W.codeIn K cd1 "_law_draw" = true)
    (k1 : PySem.W.keepIn K (.ref f1) = true)
    (q2 : PySem.W.nsIn K mainGlobals "_law_lists" = some (some (.ref f2)))
    (l2 : K.lookup f2 = some ⟨oc2, od2, .func (PySem.W.fnOf "_law_lists" "_law_lists" (defArgs st__law_lists) (defBody st__law_lists) (defScope st__law_lists) .none kV2 dc2 pm2 an2 cd2 ct2), sl2⟩)
    (c2 : PySem.W.codeIn K cd2 "_law_lists" = true)
    (k2 : PySem.W.keepIn K (.ref f2) = true)
    (q3 : PySem.W.nsIn K mainGlobals "_law_model" = some (some (.ref f3)))
    (l3 : K.lookup f3 = some ⟨oc3, od3, .func (PySem.W.fnOf "_law_model" "_law_model" (defArgs st__law_model) (defBody st__law_model) (defScope st__law_model) .none kV3 dc3 pm3 an3 cd3 ct3), sl3⟩)
    (c3 : PySem.W.codeIn K cd3 "_law_model" = true)
    (k3 : PySem.W.keepIn K (.ref f3) = true)
    (q4 : PySem.W.nsIn K mainGlobals "common_unit" = some (some (.ref f4)))
    (l4 : K.lookup f4 = some ⟨oc4, od4, .func (PySem.W.fnOf "common_unit" "common_unit" (defArgs st_common_unit) (defBody st_common_unit) (defScope st_common_unit) .none kV4 dc4 pm4 an4 cd4 ct4), sl4⟩)
    (c4 : PySem.W.codeIn K cd4 "common_unit" = true)
    (k4 : PySem.W.keepIn K (.ref f4) = true)
    (q5 : PySem.W.nsIn K mainGlobals "shifted" = some (some (.ref f5)))
    (l5 : K.lookup f5 = some ⟨oc5, od5, .func (PySem.W.fnOf "shifted" "shifted" (defArgs st_shifted) (defBody st_shifted) (defScope st_shifted) .none kV5 dc5 pm5 an5 cd5 ct5), sl5⟩)
    (c5 : PySem.W.codeIn K cd5 "shifted" = true)
    (k5 : PySem.W.keepIn K (.ref f5) = true)
    (q6 : PySem.W.nsIn K mainGlobals "_stretched_route" = some (some (.ref f6)))
    (l6 : K.lookup f6 = some ⟨oc6, od6, .func (PySem.W.fnOf "_stretched_route" "_stretched_route" (defArgs st__stretched_route) (defBody st__stretched_route) (defScope st__stretched_route) .none kV6 dc6 pm6 an6 cd6 ct6), sl6⟩)
    (c6 : PySem.W.codeIn K cd6 "_stretched_route" = true)
    (k6 : PySem.W.keepIn K (.ref f6) = true)
    (q7 : PySem.W.nsIn K mainGlobals "stretched" = some (some (.ref f7)))
    (l7 : K.lookup f7 = some ⟨oc7, od7, .func (PySem.W.fnOf "stretched" "stretched" (defArgs st_stretched) (defBody st_stretched) (defScope st_stretched) .none kV7 dc7 pm7 an7 cd7 ct7), sl7⟩)
    (c7 : PySem.W.codeIn K cd7 "stretched" = true)
    (k7 : PySem.W.keepIn K (.ref f7) = true)
    (q8 : PySem.W.nsIn K mainGlobals "law" = some (some (.ref f8)))
    (l8 : K.lookup f8 = some ⟨oc8, od8, .func (PySem.W.fnOf "law" "law" (defArgs st_law) (defBody st_law) (defScope st_law) .none kV8 dc8 pm8 an8 cd8 ct8), sl8⟩)
    (c8 : PySem.W.codeIn K cd8 "law" = true)
    (k8 : PySem.W.keepIn K (.ref f8) = true)
    (zm_gcd : PySem.W.nsIn K mainGlobals "gcd" = some (some (.builtin "math.gcd")))
    (z_int : PySem.W.nsIn K mainGlobals "int" = some none)
    (z_len : PySem.W.nsIn K mainGlobals "len" = some none)
    (z_max : PySem.W.nsIn K mainGlobals "max" = some none)
    (z_min : PySem.W.nsIn K mainGlobals "min" = some none)
    (z_range : PySem.W.nsIn K mainGlobals "range" = some none)
    (z_sorted : PySem.W.nsIn K mainGlobals "sorted" = some none)
    (z_tuple : PySem.W.nsIn K mainGlobals "tuple" = some none) : @Txt ⟨[]⟩ K mg (fun s => Value.none) :=
  letI : Tb := ⟨[]⟩
  {
  a__law_cell := f0
  d__law_cell := _
  F__law_cell := fun_mk (st := st__law_cell) l0 c0 k0
  b__law_cell := (fun_mk (st := st__law_cell) l0 c0 k0).binds (ps := ["script", "k"]) fun _ _ _ _ _ _ us hl => match us, hl with | [_, _], _ => rfl
  g__law_cell := PySem.W.mg_of X G q0
  a__law_draw := f1
  d__law_draw := _
  F__law_draw := fun_mk (st := st__law_draw) l1 c1 k1
  b__law_draw := (fun_mk (st := st__law_draw) l1 c1 k1).binds (ps := ["script", "k", "sizes"]) fun _ _ _ _ _ _ us hl => match us, hl with | [_, _, _], _ => rfl
  g__law_draw := PySem.W.mg_of X G q1
  a__law_lists := f2
  d__law_lists := _
  F__law_lists := fun_mk (st := st__law_lists) l2 c2 k2
  b__law_lists := (fun_mk (st := st__law_lists) l2 c2 k2).binds (ps := ["script", "k", "most"]) fun _ _ _ _ _ _ us hl => match us, hl with | [_, _, _], _ => rfl
  g__law_lists := PySem.W.mg_of X G q2
  a__law_model := f3
  d__law_model := _
  F__law_model := fun_mk (st := st__law_model) l3 c3 k3
  b__law_model := (fun_mk (st := st__law_model) l3 c3 k3).binds (ps := ["script", "k", "most"]) fun _ _ _ _ _ _ us hl => match us, hl with | [_, _, _], _ => rfl
  g__law_model := PySem.W.mg_of X G q3
  a_common_unit := f4
  d_common_unit := _
  F_common_unit := fun_mk (st := st_common_unit) l4 c4 k4
  b_common_unit := (fun_mk (st := st_common_unit) l4 c4 k4).binds (ps := ["some_model"]) fun _ _ _ _ _ _ us hl => match us, hl with | [_], _ => rfl
  g_common_unit := PySem.W.mg_of X G q4
  a_shifted := f5
  d_shifted := _
  F_shifted := fun_mk (st := st_shifted) l5 c5 k5
  b_shifted := (fun_mk (st := st_shifted) l5 c5 k5).binds (ps := ["some_model", "many"]) fun _ _ _ _ _ _ us hl => match us, hl with | [_, _], _ => rfl
  g_shifted := PySem.W.mg_of X G q5
  a__stretched_route := f6
  d__stretched_route := _
  F__stretched_route := fun_mk (st := st__stretched_route) l6 c6 k6
  b__stretched_route := (fun_mk (st := st__stretched_route) l6 c6 k6).binds (ps := ["route", "many"]) fun _ _ _ _ _ _ us hl => match us, hl with | [_, _], _ => rfl
  g__stretched_route := PySem.W.mg_of X G q6
  a_stretched := f7
  d_stretched := _
  F_stretched := fun_mk (st := st_stretched) l7 c7 k7
  b_stretched := (fun_mk (st := st_stretched) l7 c7 k7).binds (ps := ["some_model", "many"]) fun _ _ _ _ _ _ us hl => match us, hl with | [_, _], _ => rfl
  g_stretched := PySem.W.mg_of X G q7
  a_law := f8
  d_law := _
  F_law := fun_mk (st := st_law) l8 c8 k8
  b_law := (fun_mk (st := st_law) l8 c8 k8).binds (ps := ["script"]) fun _ _ _ _ _ _ us hl => match us, hl with | [_], _ => rfl
  g_law := PySem.W.mg_of X G q8
  zm_gcd := PySem.W.mg_of X G zm_gcd
  z_int := PySem.W.mg_none_of X G z_int
  z_len := PySem.W.mg_none_of X G z_len
  z_max := PySem.W.mg_none_of X G z_max
  z_min := PySem.W.mg_none_of X G z_min
  z_range := PySem.W.mg_none_of X G z_range
  z_sorted := PySem.W.mg_none_of X G z_sorted
  z_tuple := PySem.W.mg_none_of X G z_tuple }
theorem all_mk {l : PySem.W.OpenLaw} {w : World} {K : PySem.W.Frag} {h : Heap} {mg : Str → Option Value} {fa : Addr} (X : K.In h) (G : h.Ns mainGlobals mg) (hfa : mg "law" = some (.ref fa))
    {f0 f1 f2 f3 f4 f5 f6 f7 f8 : Addr} {od0 an0 od1 an1 od2 an2 od3 an3 od4 an4 od5 an5 od6 an6 od7 an7 od8 an8 : Option Addr} {sl0 sl1 sl2 sl3 sl4 sl5 sl6 sl7 sl8 : Array (Option Value)} {oc0 kV0 dc0 pm0 cd0 ct0 oc1 kV1 dc1 pm1 cd1 ct1 oc2 kV2 dc2 pm2 cd2 ct2 oc3 kV3 dc3 pm3 cd3 ct3 oc4 kV4 dc4 pm4 cd4 ct4 oc5 kV5 dc5 pm5 cd5 ct5 oc6 kV6 dc6 pm6 cd6 ct6 oc7 kV7 dc7 pm7 cd7 ct7 oc8 kV8 dc8 pm8 cd8 ct8 : Value} 
    (q0 : PySem.W.nsIn K mainGlobals "_law_cell" = some (some (.ref f0)))
    (l0 : K.lookup f0 = some ⟨oc0, od0, .func (PySem.W.fnOf "_law_cell" "_law_cell" (defArgs st__law_cell) (defBody st__law_cell) (defScope st__law_cell) .none kV0 dc0 pm0 an0 cd0 ct0), sl0⟩)
    (c0 : PySem.W.codeIn K cd0 "_law_cell" = true)
    (k0 : PySem.W.keepIn K (.ref f0) = true)
    (q1 : PySem.W.nsIn K mainGlobals "_law_draw" = some (some (.ref f1)))
    (l1 : K.lookup f1 = some ⟨oc1, od1, .func (PySem.W.fnOf "_law_draw" "_law_draw" (defArgs st__law_draw) (defBody st__law_draw) (defScope st__law_draw) .none kV1 dc1 pm1 an1 cd1 ct1), sl1⟩)
    (c1 : PySem.W.codeIn K cd1 "_law_draw" = true)
    (k1 : PySem.W.keepIn K (.ref f1) = true)
    (q2 : PySem.W.nsIn K mainGlobals "_law_lists" = some (some (.ref f2)))
    (l2 : K.lookup f2 = some ⟨oc2, od2, .func (PySem.W.fnOf "_law_lists" "_law_lists" (defArgs st__law_lists) (defBody st__law_lists) (defScope st__law_lists) .none kV2 dc2 pm2 an2 cd2 ct2), sl2⟩)
    (c2 : PySem.W.codeIn K cd2 "_law_lists" = true)
    (k2 : PySem.W.keepIn K (.ref f2) = true)
    (q3 : PySem.W.nsIn K mainGlobals "_law_model" = some (some (.ref f3)))
    (l3 : K.lookup f3 = some ⟨oc3, od3, .func (PySem.W.fnOf "_law_model" "_law_model" (defArgs st__law_model) (defBody st__law_model) (defScope st__law_model) .none kV3 dc3 pm3 an3 cd3 ct3), sl3⟩)
    (c3 : PySem.W.codeIn K cd3 "_law_model" = true)
    (k3 : PySem.W.keepIn K (.ref f3) = true)
    (q4 : PySem.W.nsIn K mainGlobals "common_unit" = some (some (.ref f4)))
    (l4 : K.lookup f4 = some ⟨oc4, od4, .func (PySem.W.fnOf "common_unit" "common_unit" (defArgs st_common_unit) (defBody st_common_unit) (defScope st_common_unit) .none kV4 dc4 pm4 an4 cd4 ct4), sl4⟩)
    (c4 : PySem.W.codeIn K cd4 "common_unit" = true)
    (k4 : PySem.W.keepIn K (.ref f4) = true)
    (q5 : PySem.W.nsIn K mainGlobals "shifted" = some (some (.ref f5)))
    (l5 : K.lookup f5 = some ⟨oc5, od5, .func (PySem.W.fnOf "shifted" "shifted" (defArgs st_shifted) (defBody st_shifted) (defScope st_shifted) .none kV5 dc5 pm5 an5 cd5 ct5), sl5⟩)
    (c5 : PySem.W.codeIn K cd5 "shifted" = true)
    (k5 : PySem.W.keepIn K (.ref f5) = true)
    (q6 : PySem.W.nsIn K mainGlobals "_stretched_route" = some (some (.ref f6)))
    (l6 : K.lookup f6 = some ⟨oc6, od6, .func (PySem.W.fnOf "_stretched_route" "_stretched_route" (defArgs st__stretched_route) (defBody st__stretched_route) (defScope st__stretched_route) .none kV6 dc6 pm6 an6 cd6 ct6), sl6⟩)
    (c6 : PySem.W.codeIn K cd6 "_stretched_route" = true)
    (k6 : PySem.W.keepIn K (.ref f6) = true)
    (q7 : PySem.W.nsIn K mainGlobals "stretched" = some (some (.ref f7)))
    (l7 : K.lookup f7 = some ⟨oc7, od7, .func (PySem.W.fnOf "stretched" "stretched" (defArgs st_stretched) (defBody st_stretched) (defScope st_stretched) .none kV7 dc7 pm7 an7 cd7 ct7), sl7⟩)
    (c7 : PySem.W.codeIn K cd7 "stretched" = true)
    (k7 : PySem.W.keepIn K (.ref f7) = true)
    (q8 : PySem.W.nsIn K mainGlobals "law" = some (some (.ref f8)))
    (l8 : K.lookup f8 = some ⟨oc8, od8, .func (PySem.W.fnOf "law" "law" (defArgs st_law) (defBody st_law) (defScope st_law) .none kV8 dc8 pm8 an8 cd8 ct8), sl8⟩)
    (c8 : PySem.W.codeIn K cd8 "law" = true)
    (k8 : PySem.W.keepIn K (.ref f8) = true)
    (zm_gcd : PySem.W.nsIn K mainGlobals "gcd" = some (some (.builtin "math.gcd")))
    (z_int : PySem.W.nsIn K mainGlobals "int" = some none)
    (z_len : PySem.W.nsIn K mainGlobals "len" = some none)
    (z_max : PySem.W.nsIn K mainGlobals "max" = some none)
    (z_min : PySem.W.nsIn K mainGlobals "min" = some none)
    (z_range : PySem.W.nsIn K mainGlobals "range" = some none)
    (z_sorted : PySem.W.nsIn K mainGlobals "sorted" = some none)
    (z_tuple : PySem.W.nsIn K mainGlobals "tuple" = some none) :
    ∃ fd : FuncData, (∀ (s : Shared) (v : Value), BindsTo s fd ⟨[v], []⟩ [("script", v)]) ∧ ∀ base : Heap, K.In base → base.Ns mainGlobals mg → FnOk l.prog w K mg base CX0 5 fa fd ["script"] (@spD noT K sem_law) := by
  have e := hfa.symm.trans (PySem.W.mg_of X G q8)
  cases e
  letI : Tb := noT
  exact ⟨PySem.W.fnOf "law" "law" (defArgs st_law) (defBody st_law) (defScope st_law) .none kV8 dc8 pm8 an8 cd8 ct8, fun s v => .of_eq rfl, fun base _ _ => ok_law (mkTxt X G q0 l0 c0 k0 q1 l1 c1 k1 q2 l2 c2 k2 q3 l3 c3 k3 q4 l4 c4 k4 q5 l5 c5 k5 q6 l6 c6 k6 q7 l7 c7 k7 q8 l8 c8 k8 zm_gcd z_int z_len z_max z_min z_range z_sorted z_tuple) trivial⟩
end K07

namespace K07
open PySem PySem.Spec PyProof.Rows Dv
open L2 hiding Dp DpAll
variable [Tb]
local macro_rules | `(tactic| walk_at "ev") => `(tactic| simp only [sSeq, sSet, sSetO, sSetK0, sIf, sRet, sNext, sApp, sFrz, sAsg, sPut, frzA, eOp, eUn, eC, eVar, bVar, eCB, nCB, nE, aNil, aCons, nLst, eTup, tOf, eChain, eAnd, eOr, eNot, eIf, tAnd', tOr', tNot', eSl, oNone, oSome, asI, asB, eIt, itD, rng1, hName, hTup, hCons, hNil, eGet2, eDIx,
  addD, subD, ltD, leD, gtD, geD, ixD, negD, lenD, min2D, max2D, Dv.intD, tupD, slD,
  Option.bind_some, Option.map_some, List.getElem?_cons_zero, List.getElem?_cons_succ, List.set_cons_zero, List.set_cons_succ, List.map_cons, List.map_nil, List.cons_append, List.nil_append, List.replicate_succ, List.replicate_zero, List.length_cons, List.length_nil, List.length_map, outD, Nat.reduceAdd, Nat.reduceSub, Nat.reduceSubDiff, Int.reduceAdd, Int.reduceMul, Int.reducePow, Int.reduceToNat, if_true, if_false, reduceIte, Bool.false_eq_true])
/-! ### small numbers -/
theorem mulD_small {i j : Int} (hi : i.natAbs < 2 ^ 64) (hj : j.natAbs < 2 ^ 64) : mulD (.int i) (.int j) = some (.int (i * j)) := if_pos (wide_mul hi hj (by decide) (by decide) (by decide))
theorem fdivD_small {i j : Int} (h : 0 < j) (hj : j.natAbs < 2 ^ 64) : fdivD (.int i) (.int j) = some (.int (i / j)) := if_pos (wide_div h hj (by decide) (by decide))
theorem modD_pos {i j : Int} (h : 0 < j) : modD (.int i) (.int j) = some (.int (i % j)) := if_pos h
theorem pow_18 : powD (.int 10) (.int 18) = some (.int 1000000000000000000) := by
  have h : CPow 10 18 := by
    unfold CPow
    exact ⟨by decide, by decide, by decide⟩
  have e : (10 : Int) ^ (18 : Int).toNat = 1000000000000000000 := by decide
  show (if CPow 10 18 then some (PyData.int (10 ^ (18 : Int).toNat)) else none) = _
  rw [if_pos h, e]
theorem szl {n : Nat} (h : n ≤ 16777216) : n ≤ sizeLine := by rw [sizeLine_eq]; exact h
theorem szt {n : Nat} (h : n < 16777216) : n < sizeLine := by rw [sizeLine_eq]; exact h
/-! ### a cell of the script, drawn numbers -/
def cell (ns : List Int) (k : Nat) : Int := ns.getD k 0
theorem cell_eq (ns : List Int) (k : Nat) : sem__law_cell [.list (ns.map .int), .int k] = some (.int (cell ns k)) := by
  unfold sem__law_cell
  refine (semF_eq rfl).trans ?_
  unfold run__law_cell
  walk_at "ev"
  by_cases h : k < ns.length
  · rw [if_pos (decide_eq_true (by omega)), atI_map (List.getElem?_eq_getElem h)]
    show some (PyData.int ns[k]) = _
    unfold cell
    rw [List.getD_eq_getElem?_getD, List.getElem?_eq_getElem h]; rfl
  · rw [if_neg (by simpa using h)]
    show some (PyData.int 0) = _
    unfold cell
    rw [List.getD_eq_getElem?_getD, List.getElem?_eq_none (by omega)]; rfl
/-- ds are drawn below sizes -/
def OkD (sizes ds : List Int) : Prop := ds.length = sizes.length ∧ ∀ (j : Nat) (s d : Int), sizes[j]? = some s → ds[j]? = some d → 0 ≤ d ∧ d < s
theorem OkD.snoc {sizes ds : List Int} {i : Nat} {s d : Int} (h : OkD (sizes.take i) ds) (hs : sizes[i]? = some s) (h0 : 0 ≤ d) (h1 : d < s) : OkD (sizes.take (i + 1)) (ds ++ [d]) := by
  obtain ⟨l, q⟩ := h
  have hi := (List.getElem?_eq_some_iff.mp hs).1
  rw [List.length_take] at l
  refine ⟨by rw [List.length_append, List.length_take, l]; simp only [List.length_cons, List.length_nil]; omega, fun j s' d' e1 e2 => ?_⟩
  rw [List.getElem?_take] at e1
  split at e1
  · rename_i hj
    by_cases hji : j < i
    · rw [List.getElem?_append_left (by omega)] at e2
      exact q j s' d' (by rw [List.getElem?_take, if_pos hji]; exact e1) e2
    · have : j = i := by omega
      subst this
      rw [List.getElem?_append_right (by omega)] at e2
      have hz : j - ds.length = 0 := by omega
      rw [hz] at e2
      have e3 : d = d' := Option.some.inj e2
      rw [hs] at e1; cases e1
      exact ⟨by omega, by omega⟩
  · cases e1
theorem OkD.get {sizes ds : List Int} (h : OkD sizes ds) {j : Nat} {s : Int} (hs : sizes[j]? = some s) : ∃ d, ds[j]? = some d ∧ 0 ≤ d ∧ d < s := by
  have hj := (List.getElem?_eq_some_iff.mp hs).1
  have hj2 : j < ds.length := by rw [h.1]; exact hj
  have hd : ds[j]? = some ds[j] := List.getElem?_eq_getElem hj2
  exact ⟨_, hd, h.2 j s _ hs hd⟩
theorem draw_eq (ns : List Int) (k : Nat) (sizes : List Int) (hk : k < 2 ^ 60) (hl : sizes.length ≤ 1000) (hs : ∀ s ∈ sizes, 0 < s ∧ s < 2 ^ 60) :
    ∃ ds, OkD sizes ds ∧ sem__law_draw [.list (ns.map .int), .int k, .list (sizes.map .int)] = some (.list (ds.map .int)) := by
  unfold sem__law_draw
  have hsz : sizeLine = 16777216 := sizeLine_eq
  rw [semF_eq (n := 8) (m := 3) (run := run__law_draw) (ds := [.list (ns.map .int), .int k, .list (sizes.map .int)]) rfl]
  unfold run__law_draw
  have hc := cell_eq ns k
  generalize ns.map PyData.int = N at hc ⊢
  -- the cell, without its sign
  obtain ⟨c, hcc⟩ : ∃ c : Int, c = if cell ns k < 0 then -cell ns k else cell ns k := ⟨_, rfl⟩
  have h1 : ∀ g : En → Option Out, sSeq (sSet 3 (eCB sem__law_cell (aCons (eVar 0) (aCons (eVar 1) aNil)))) (sSeq (sIf (tOf (eOp ltD (bVar 3) (eC (.int 0)))) (sSet 3 (eUn negD (bVar 3))) sNext) (sSeq (sSetO 4 (nLst aNil)) g)) ([.list N, .int k, .list (sizes.map .int)].map Sl.d ++ List.replicate (8 - 3) Sl.no) = g [.d (.list N), .d (.int k), .d (.list (sizes.map .int)), .d (.int c), .ol [], .no, .no, .no] := fun g => by
    walk_at "ev"
    rw [hc]
    walk_at "ev"
    by_cases h : cell ns k < 0
    · rw [if_pos h] at hcc
      simp only [h, decide_true, if_true, Option.bind_some, Option.map_some, hcc, if_pos (Nat.zero_le sizeLine), List.getElem?_cons_zero, List.getElem?_cons_succ, List.set_cons_zero, List.set_cons_succ]
    · rw [if_neg h] at hcc
      simp only [h, decide_false, Bool.false_eq_true, if_false, Option.bind_some, Option.map_some, hcc, if_pos (Nat.zero_le sizeLine), List.getElem?_cons_zero, List.getElem?_cons_succ, List.set_cons_zero, List.set_cons_succ]
  rw [h1]
  have fin : ∀ {A : En} {ds : List Int}, A[4]? = some (.ol (ds.map PyData.int)) → sFrz [4] (sRet (eVar 4)) A = some (.rt (.list (ds.map .int))) := fun {A ds} h => by
    have h4 : 4 < A.length := (List.getElem?_eq_some_iff.mp h).1
    simp only [sFrz, frzA, h, sRet, eVar, List.getElem?_set_self h4, Option.map_some]
  by_cases hbig : 1000000000000000000 ≤ c
  · -- the digits of a great cell
    have loop := forD_run (g := hName 5) (body := bd__law_draw_1) (fun i A => ∃ (c : Int) (ds : List Int) (x5 : Sl), A = [.d (.list N), .d (.int k), .d (.list (sizes.map .int)), .d (.int c), .ol (ds.map .int), x5, .no, .no] ∧ OkD (sizes.take i) ds)
      (sizes.map .int) [.d (.list N), .d (.int k), .d (.list (sizes.map .int)), .d (.int (c - 1000000000000000000)), .ol [], .no, .no, .no] ⟨_, [], _, rfl, rfl, fun j s d h => by rw [List.take_zero] at h; cases h⟩ (by
      rintro i x A hx ⟨c, ds, x5, rfl, ok⟩
      rw [List.getElem?_map] at hx
      obtain ⟨s, hs', rfl⟩ := map_eq_some hx
      obtain ⟨hs0, hs1⟩ := hs s (List.mem_of_getElem? hs')
      have hi := (List.getElem?_eq_some_iff.mp hs').1
      refine ⟨_, [.d (.list N), .d (.int k), .d (.list (sizes.map .int)), .d (.int (c / s)), .ol ((ds ++ [c % s]).map .int), .d (.int s), .no, .no], rfl, ?_, _, _, _, rfl, ok.snoc hs' (Int.emod_nonneg _ (by omega)) (Int.emod_lt_of_pos _ hs0)⟩
      unfold bd__law_draw_1
      walk_at "ev"
      have hlen : ds.length ≤ 1000 := by have := ok.1; rw [List.length_take] at this; omega
      simp only [modD_pos hs0, fdivD_small hs0 (show s.natAbs < 2 ^ 64 by omega), Option.bind_some, Option.map_some, if_pos (szt (show ds.length < 16777216 by omega)), List.set_cons_zero, List.set_cons_succ, List.getElem?_cons_zero, List.getElem?_cons_succ, List.map_append, List.map_cons, List.map_nil])
    obtain ⟨A', e, c', ds, x5, rfl, ok⟩ := loop
    rw [List.length_map, List.take_length] at ok
    refine ⟨ds, ok, ?_⟩
    have hs1 : tOf (eOp geD (bVar 3) (eOp powD (eC (.int 10)) (eC (.int 18)))) [.d (.list N), .d (.int k), .d (.list (sizes.map .int)), .d (.int c), .ol [], .no, .no, .no] = some true := by
      walk_at "ev"
      rw [pow_18]
      simp only [Option.bind_some, geD, hbig, decide_true]
    have hs2 : sSet 3 (eOp subD (bVar 3) (eOp powD (eC (.int 10)) (eC (.int 18)))) [.d (.list N), .d (.int k), .d (.list (sizes.map .int)), .d (.int c), .ol [], .no, .no, .no] = some (.nx [.d (.list N), .d (.int k), .d (.list (sizes.map .int)), .d (.int (c - 1000000000000000000)), .ol [], .no, .no, .no]) := by
      walk_at "ev"
      rw [pow_18]
      simp only [Option.bind_some, Option.map_some, subD, List.set_cons_zero, List.set_cons_succ]
    have hs3 : eIt (eVar 2) [.d (.list N), .d (.int k), .d (.list (sizes.map .int)), .d (.int (c - 1000000000000000000)), .ol [], .no, .no, .no] = some (sizes.map .int) := rfl
    rw [sSeq_rt (d := .list (ds.map .int))]
    · rfl
    · rw [sIf_t hs1, sSeq_nx hs2, sSeq_nx ((sFor_eq hs3).trans e)]
      exact fin rfl
  · -- a stirred cell
    have hs1 : sIf (tOf (eOp geD (bVar 3) (eOp powD (eC (.int 10)) (eC (.int 18))))) (sSeq (sSet 3 (eOp subD (bVar 3) (eOp powD (eC (.int 10)) (eC (.int 18))))) (sSeq (sFor (eIt (eVar 2)) (hName 5) bd__law_draw_1) (sFrz [4] (sRet (eVar 4))))) sNext [.d (.list N), .d (.int k), .d (.list (sizes.map .int)), .d (.int c), .ol [], .no, .no, .no] = some (.nx [.d (.list N), .d (.int k), .d (.list (sizes.map .int)), .d (.int c), .ol [], .no, .no, .no]) := by
      rw [sIf_f]
      · rfl
      · walk_at "ev"
        rw [pow_18]
        simp only [Option.bind_some, geD, hbig, decide_false]
    rw [sSeq_nx hs1]
    have hs2 : sSet 6 (eOp modD (eOp addD (eOp addD (bVar 3) (eC (.int 1))) (eOp mulD (eC (.int 31)) (bVar 1))) (eC (.int 2147483647))) [.d (.list N), .d (.int k), .d (.list (sizes.map .int)), .d (.int c), .ol [], .no, .no, .no] = some (.nx [.d (.list N), .d (.int k), .d (.list (sizes.map .int)), .d (.int c), .ol [], .no, .d (.int ((c + 1 + 31 * k) % 2147483647)), .no]) := by
      walk_at "ev"
      rw [mulD_small (by decide) (show ((k : Nat) : Int).natAbs < 2 ^ 64 by omega)]
      simp only [Option.bind_some, addD]
      rw [modD_pos (by decide)]
      simp only [Option.map_some, List.set_cons_zero, List.set_cons_succ]
    rw [sSeq_nx hs2]
    have hs3 : rng1 (aCons (eCB lenD (aCons (bVar 2) aNil)) aNil) [.d (.list N), .d (.int k), .d (.list (sizes.map .int)), .d (.int c), .ol [], .no, .d (.int ((c + 1 + 31 * k) % 2147483647)), .no] = some (rngD 0 sizes.length) := rng1_eq (by walk_at "ev") (by omega)
    have loop := forD_run (g := hName 7) (body := bd__law_draw_2) (fun i A => ∃ (t : Int) (ds : List Int) (x7 : Sl), A = [.d (.list N), .d (.int k), .d (.list (sizes.map .int)), .d (.int c), .ol (ds.map .int), .no, .d (.int t), x7] ∧ 0 ≤ t ∧ t < 2147483647 ∧ OkD (sizes.take i) ds)
      (rngD 0 sizes.length) [.d (.list N), .d (.int k), .d (.list (sizes.map .int)), .d (.int c), .ol [], .no, .d (.int ((c + 1 + 31 * k) % 2147483647)), .no] ⟨_, [], _, rfl, Int.emod_nonneg _ (by decide), Int.emod_lt_of_pos _ (by decide), rfl, fun j s d h => by rw [List.take_zero] at h; cases h⟩ (by
      rintro i x A hx ⟨t, ds, x7, rfl, t0, t1, ok⟩
      obtain ⟨hi, rfl⟩ := rngD_get hx
      have hs' : sizes[i]? = some sizes[i] := List.getElem?_eq_getElem hi
      obtain ⟨hs0, hs1⟩ := hs sizes[i] (List.getElem_mem hi)
      have hlen : ds.length ≤ 1000 := by have := ok.1; rw [List.length_take] at this; omega
      have e0 : (0 : Int) + (i : Nat) = (i : Nat) := Int.zero_add _
      rw [e0]
      obtain ⟨t2, ht2⟩ : ∃ t2 : Int, t2 = (t * 48271 + 11 + i) % 2147483647 := ⟨_, rfl⟩
      have b2 : 0 ≤ t2 ∧ t2 < 2147483647 := by rw [ht2]; exact ⟨Int.emod_nonneg _ (by decide), Int.emod_lt_of_pos _ (by decide)⟩
      obtain ⟨t3, ht3⟩ : ∃ t3 : Int, t3 = (t2 * 69621 + 3) % 2147483647 := ⟨_, rfl⟩
      have b3 : 0 ≤ t3 ∧ t3 < 2147483647 := by rw [ht3]; exact ⟨Int.emod_nonneg _ (by decide), Int.emod_lt_of_pos _ (by decide)⟩
      refine ⟨_, [.d (.list N), .d (.int k), .d (.list (sizes.map .int)), .d (.int c), .ol ((ds ++ [t3 / 7 % sizes[i]]).map .int), .no, .d (.int t3), .d (.int i)], rfl, ?_, _, _, _, rfl, b3.1, b3.2, ok.snoc hs' (Int.emod_nonneg _ (by omega)) (Int.emod_lt_of_pos _ hs0)⟩
      unfold bd__law_draw_2
      walk_at "ev"
      rw [mulD_small (show t.natAbs < 2 ^ 64 by omega) (by decide)]
      simp only [Option.bind_some, addD]
      rw [modD_pos (by decide), ← ht2]
      simp only [Option.bind_some, Option.map_some, List.set_cons_zero, List.set_cons_succ, List.getElem?_cons_zero, List.getElem?_cons_succ]
      rw [mulD_small (show t2.natAbs < 2 ^ 64 by omega) (by decide)]
      simp only [Option.bind_some, addD]
      rw [modD_pos (by decide), ← ht3]
      simp only [Option.bind_some, Option.map_some, List.set_cons_zero, List.set_cons_succ, List.getElem?_cons_zero, List.getElem?_cons_succ]
      rw [fdivD_small (by decide) (by decide), atI_map hs']
      simp only [Option.bind_some]
      rw [modD_pos hs0]
      simp only [Option.bind_some, List.length_map, if_pos (szt (show ds.length < 16777216 by omega)), List.map_append, List.map_cons, List.map_nil])
    obtain ⟨A', e, t', ds, x7, rfl, _, _, ok⟩ := loop
    rw [rngD_len, List.take_length] at ok
    refine ⟨ds, ok, ?_⟩
    rw [sSeq_nx ((sFor_eq hs3).trans e), fin (ds := ds) rfl]
    rfl
end K07

namespace K07
open PySem PySem.Spec PyProof.Rows Dv
open L2 hiding Dp DpAll
variable [Tb]
theorem sz0 : 0 ≤ sizeLine := szl (by decide)
theorem sz1 : 1 ≤ sizeLine := szl (by decide)
theorem sz2 : 2 ≤ sizeLine := szl (by decide)
theorem sz3 : 3 ≤ sizeLine := szl (by decide)
theorem sz4 : 4 ≤ sizeLine := szl (by decide)
theorem sz5 : 5 ≤ sizeLine := szl (by decide)
theorem sz6 : 6 ≤ sizeLine := szl (by decide)
theorem addI (i j : Int) : addD (.int i) (.int j) = some (.int (i + j)) := rfl
theorem subI (i j : Int) : subD (.int i) (.int j) = some (.int (i - j)) := rfl
theorem ltI (i j : Int) : ltD (.int i) (.int j) = some (.bool (decide (i < j))) := rfl
theorem leI (i j : Int) : leD (.int i) (.int j) = some (.bool (decide (i ≤ j))) := rfl
theorem gtI (i j : Int) : gtD (.int i) (.int j) = some (.bool (decide (j < i))) := rfl
theorem geI (i j : Int) : geD (.int i) (.int j) = some (.bool (decide (j ≤ i))) := rfl
theorem ixL (xs : List Dt) (j : Int) : ixD (.list xs) (.int j) = atI xs j := rfl
theorem ixT (xs : List Dt) (j : Int) : ixD (.tuple xs) (.int j) = atI xs j := rfl
theorem negI (i : Int) : negD (.int i) = some (.int (-i)) := rfl
theorem lenL (xs : List Dt) : lenD [.list xs] = some (.int xs.length) := rfl
theorem lenT (xs : List Dt) : lenD [.tuple xs] = some (.int xs.length) := rfl
theorem intB (b : Bool) : Dv.intD [.bool b] = some (.int (if b then 1 else 0)) := rfl
theorem intI (i : Int) : Dv.intD [.int i] = some (.int i) := rfl
theorem keyS (z : Str) : keyD (.str z) = some (.inr z) := rfl
theorem tupL (xs : List Dt) : tupD [.list xs] = some (.tuple xs) := rfl
local macro_rules | `(tactic| walk_at "ev") => `(tactic| simp only [sSeq, sSet, sSetO, sSetK0, sIf, sRet, sNext, sApp, sFrz, sAsg, sPut, frzA, eOp, eUn, eC, eVar, bVar, eCB, nCB, nE, aNil, aCons, nLst, eTup, tOf, eChain, eAnd, eOr, eNot, eIf, tAnd', tOr', tNot', eSl, oNone, oSome, asI, asB, eIt, itD, hName, hTup, hCons, hNil, eGet2, eDIx,
  addI, subI, ltI, leI, gtI, geI, ixL, ixT, negI, lenL, lenT, min2D, max2D, intB, intI, tupL, slD, keyS, sz0, sz1, sz2, sz3, sz4, sz5, sz6,
  Option.bind_some, Option.map_some, List.getElem?_cons_zero, List.getElem?_cons_succ, List.set_cons_zero, List.set_cons_succ, List.map_cons, List.map_nil, List.cons_append, List.nil_append, List.replicate_succ, List.replicate_zero, List.length_cons, List.length_nil, List.length_map, outD, Nat.reduceAdd, Nat.reduceSub, Nat.reduceSubDiff, Int.reduceAdd, Int.reduceMul, Int.reducePow, Int.reduceToNat, if_true, if_false, reduceIte, Bool.false_eq_true])
local macro_rules | `(tactic| walk_at "ev*") => `(tactic| simp only [*, sSeq, sSet, sSetO, sSetK0, sIf, sRet, sNext, sApp, sFrz, sAsg, sPut, frzA, eOp, eUn, eC, eVar, bVar, eCB, nCB, nE, aNil, aCons, nLst, eTup, tOf, eChain, eAnd, eOr, eNot, eIf, tAnd', tOr', tNot', eSl, oNone, oSome, asI, asB, eIt, itD, hName, hTup, hCons, hNil, eGet2, eDIx,
  addI, subI, ltI, leI, gtI, geI, ixL, ixT, negI, lenL, lenT, min2D, max2D, intB, intI, tupL, slD, keyS, sz0, sz1, sz2, sz3, sz4, sz5, sz6,
  Option.bind_some, Option.map_some, List.getElem?_cons_zero, List.getElem?_cons_succ, List.set_cons_zero, List.set_cons_succ, List.map_cons, List.map_nil, List.cons_append, List.nil_append, List.replicate_succ, List.replicate_zero, List.length_cons, List.length_nil, List.length_map, outD, Nat.reduceAdd, Nat.reduceSub, Nat.reduceSubDiff, Int.reduceAdd, Int.reduceMul, Int.reducePow, Int.reduceToNat, if_true, if_false, reduceIte, Bool.false_eq_true])
/-! ### the parts of a model -/
abbrev StT := Str × Int × Option Int × Str
abbrev KdT := Str × Int × List (Str × Int)
abbrev PsT := Str × Int × Int
abbrev JbT := Int × Str
def encO : Option Int → Dt
  | none => .none
  | some i => .int i
def encSt (s : StT) : Dt := .tuple [.str s.1, .int s.2.1, encO s.2.2.1, .str s.2.2.2]
def encStep (s : Str × Int) : Dt := .tuple [.str s.1, .int s.2]
def encKd (s : KdT) : Dt := .tuple [.str s.1, .int s.2.1, .tuple (s.2.2.map encStep)]
def encPs (s : PsT) : Dt := .tuple [.str s.1, .int s.2.1, .int s.2.2]
def encJb (s : JbT) : Dt := .tuple [.int s.1, .str s.2]
def nm4 : List Str := ["q", "a", "m2", "dd"]
def kn3 : List Str := ["x", "y7", "k"]
def zn3 : List Str := ["first", "last", "priority"]
theorem nm_ok : ∀ z ∈ nm4, PyData.strOk z = true := by decide +kernel
theorem kn_ok : ∀ z ∈ kn3, PyData.strOk z = true := by decide +kernel
theorem zn_ok : ∀ z ∈ zn3, PyData.strOk z = true := by decide +kernel
theorem all_snoc {α : Type} {p : α → Prop} {xs : List α} {y : α} (h : ∀ x ∈ xs, p x) (hy : p y) : ∀ x ∈ xs ++ [y], p x := fun x hx => by
  rcases List.mem_append.mp hx with hx | hx
  · exact h x hx
  · rw [List.mem_singleton.mp hx]; exact hy
theorem ix_draw {sizes ds : List Int} (h : OkD sizes ds) (i : Nat) {s : Int} (hs : sizes[i]? = some s) : ∃ d, atI (ds.map PyData.int) (i : Int) = some (.int d) ∧ 0 ≤ d ∧ d < s := by
  obtain ⟨d, e, q⟩ := h.get hs
  exact ⟨d, atI_map e, q⟩
theorem ix_drawI {sizes ds : List Int} (h : OkD sizes ds) (i : Nat) {s z : Int} (hs : sizes[i]? = some s) (hz : z = (i : Int)) : ∃ d, atI (ds.map PyData.int) z = some (.int d) ∧ 0 ≤ d ∧ d < s := by
  rw [hz]; exact ix_draw h i hs
theorem fit_63 {n k : Nat} (h : n * k ≤ 1000) (hk : k ≤ 1000) : -(2 ^ 63) ≤ (k : Int) ∧ (k : Int) < 2 ^ 63 ∧ n * (k : Int).toNat ≤ sizeLine := ⟨by omega, by omega, by rw [Int.toNat_natCast]; exact szl (by omega)⟩
theorem mulD_rep {xs : List Dt} {k : Nat} (h : xs.length * k ≤ 1000) (hk : k ≤ 1000) : mulD (.list xs) (.int (k : Int)) = some (.list (List.replicate k xs).flatten) := by
  have z := fit_63 h hk
  simp only [mulD]
  rw [if_pos z, Int.toNat_natCast]
theorem cut_take {xs : List Dt} {n : Nat} (h : n ≤ xs.length) : Dv.cutD xs none (some (n : Int)) = xs.take n := by
  unfold Dv.cutD
  rw [HT.sIx_none, HT.sIx_nat, Nat.min_eq_left h]
  simp

/-- a text of the menu at a small place -/
theorem at_menu {xs : List Str} {i : Int} (h0 : 0 ≤ i) (h1 : i < xs.length) : ∃ z, atI (xs.map PyData.str) i = some (.str z) ∧ z ∈ xs := by
  obtain ⟨n, rfl⟩ : ∃ n : Nat, i = (n : Int) := ⟨i.toNat, (Int.toNat_of_nonneg h0).symm⟩
  have hi : n < xs.length := by omega
  exact ⟨xs[n], atI_map (List.getElem?_eq_getElem hi), List.getElem_mem hi⟩
theorem at_room {s r : Int} (h0 : 0 ≤ r) (h1 : r < 6) : ∃ o, atI [PyData.int s, .int (s + 1), .int s, .int (s + 2), .none, .none] r = some (encO o) ∧ ∀ q, o = some q → s ≤ q ∧ q ≤ s + 2 := by
  have : r = 0 ∨ r = 1 ∨ r = 2 ∨ r = 3 ∨ r = 4 ∨ r = 5 := by omega
  rcases this with rfl | rfl | rfl | rfl | rfl | rfl
  · exact ⟨some s, rfl, fun q e => by cases e; omega⟩
  · exact ⟨some (s + 1), rfl, fun q e => by cases e; omega⟩
  · exact ⟨some s, rfl, fun q e => by cases e; omega⟩
  · exact ⟨some (s + 2), rfl, fun q e => by cases e; omega⟩
  · exact ⟨none, rfl, fun q e => nomatch e⟩
  · exact ⟨none, rfl, fun q e => nomatch e⟩
theorem sz_one : ∀ i : Nat, i < 4 → ((List.replicate 4 [3, 6, 3]).flatten : List Int)[3 * i]? = some 3 ∧ ((List.replicate 4 [3, 6, 3]).flatten : List Int)[3 * i + 1]? = some 6 ∧ ((List.replicate 4 [3, 6, 3]).flatten : List Int)[3 * i + 2]? = some 3 := by decide
theorem mul_sm (a : Nat) (b : Nat) (ha : a < 2 ^ 60) (hb : b < 2 ^ 60) : mulD (.int (a : Int)) (.int (b : Int)) = some (.int ((a : Int) * (b : Int))) := mulD_small (by omega) (by omega)
/-- the stations -/
def StG (x : StT) : Prop := x.2.2.2 ∈ zn3 ∧ 1 ≤ x.2.1 ∧ x.2.1 ≤ 3 ∧ ∀ q, x.2.2.1 = some q → x.2.1 ≤ q ∧ q ≤ 5
theorem loop_st {N : Dt} {k : Dt} {most head : Dt} {n : Nat} (hn : n ≤ 4) {one : List Int} (ok : OkD (List.replicate 4 [3, 6, 3]).flatten one) :
    ∃ (S : List StT) (x7 x8 x9 : Sl), S.map (·.1) = nm4.take n ∧ (∀ x ∈ S, StG x) ∧ forD (hName 7) bd__law_lists_1 (rngD 0 n) [.d N, .d k, .d most, .d head, .d (.list ((nm4.take n).map .str)), .d (.list (one.map .int)), .ol [], .no, .no, .no, .no, .no, .no, .no, .no, .no, .no, .no, .no, .no, .no, .no, .no] =
      some (.nx [.d N, .d k, .d most, .d head, .d (.list ((nm4.take n).map .str)), .d (.list (one.map .int)), .ol (S.map encSt), x7, x8, x9, .no, .no, .no, .no, .no, .no, .no, .no, .no, .no, .no, .no, .no]) := by
  have loop := forD_run (g := hName 7) (body := bd__law_lists_1) (fun i A => ∃ (S : List StT) (x7 x8 x9 : Sl), A = [.d N, .d k, .d most, .d head, .d (.list ((nm4.take n).map .str)), .d (.list (one.map .int)), .ol (S.map encSt), x7, x8, x9, .no, .no, .no, .no, .no, .no, .no, .no, .no, .no, .no, .no, .no] ∧ S.map (·.1) = (nm4.take n).take i ∧ ∀ x ∈ S, StG x)
    (rngD 0 n) [.d N, .d k, .d most, .d head, .d (.list ((nm4.take n).map .str)), .d (.list (one.map .int)), .ol [], .no, .no, .no, .no, .no, .no, .no, .no, .no, .no, .no, .no, .no, .no, .no, .no] ⟨[], .no, .no, .no, rfl, rfl, nofun⟩ (by
    rintro i x A hx ⟨S, x7, x8, x9, rfl, hS, hZ⟩
    obtain ⟨hi, rfl⟩ := rngD_get hx
    rw [Int.zero_add]
    have hl : (nm4.take n).length = n := by rw [List.length_take]; show min n 4 = n; omega
    obtain ⟨z0, z1, z2⟩ := sz_one i (by omega)
    obtain ⟨d0, e0, a0, b0⟩ := ix_drawI ok (3 * i) z0 (z := 3 * (i : Int)) (by omega)
    obtain ⟨d1, e1, a1, b1⟩ := ix_drawI ok (3 * i + 1) z1 (z := 3 * (i : Int) + 1) (by omega)
    obtain ⟨d2, e2, a2, b2⟩ := ix_drawI ok (3 * i + 2) z2 (z := 3 * (i : Int) + 2) (by omega)
    obtain ⟨ro, er, hro⟩ := at_room (s := 1 + d0) a1 b1
    obtain ⟨dz, ez, hdz⟩ := at_menu (xs := zn3) a2 b2
    have hin : i < (nm4.take n).length := by omega
    have en : atI ((nm4.take n).map PyData.str) (i : Int) = some (.str (nm4.take n)[i]) := atI_map (List.getElem?_eq_getElem hin)
    have hm : mulD (.int 3) (.int (i : Int)) = some (.int (3 * (i : Int))) := mul_sm 3 i (by omega) (by omega)
    have hS2 : S.length = i := by
      have := congrArg List.length hS
      rw [List.length_map, List.length_take, hl] at this
      omega
    refine ⟨_, _, rfl, ?_, S ++ [((nm4.take n)[i], 1 + d0, ro, dz)], .d (.int i), .d (.int (1 + d0)), .d (encO ro), rfl, ?_, all_snoc hZ ⟨hdz, by show 1 ≤ 1 + d0; omega, by show 1 + d0 ≤ 3; omega, fun q e => by have h := hro q e; show 1 + d0 ≤ q ∧ q ≤ 5; omega⟩⟩
    · unfold bd__law_lists_1
      have ez' : atI [PyData.str "first", PyData.str "last", PyData.str "priority"] d2 = some (.str dz) := ez
      have hz : i < sizeLine := szt (by omega)
      clear hS hx ez hl hi hZ hdz hro
      walk_at "ev*"
      simp only [List.map_append, List.map_cons, List.map_nil]
      rfl
    · rw [List.map_append, hS, List.take_add_one, List.getElem?_eq_getElem hin]
      rfl)
  obtain ⟨A', e, S, x7, x8, x9, rfl, hS, hZ⟩ := loop
  rw [rngD_len] at hS
  exact ⟨S, x7, x8, x9, by rw [hS, List.take_take, Nat.min_self], hZ, e⟩

/-! ### the kinds -/
theorem sz_two : ∀ i : Nat, i < 4 → ([10, 4] ++ (List.replicate 4 [4, 7, 100]).flatten : List Int)[3 * i + 2]? = some 4 ∧ ([10, 4] ++ (List.replicate 4 [4, 7, 100]).flatten : List Int)[3 * i + 3]? = some 7 ∧ ([10, 4] ++ (List.replicate 4 [4, 7, 100]).flatten : List Int)[3 * i + 4]? = some 100 := by decide
theorem modlen {d : Int} {n : Nat} (hn : 0 < n) : 0 ≤ d % (n : Int) ∧ d % (n : Int) < (n : Int) := ⟨Int.emod_nonneg _ (by omega), Int.emod_lt_of_pos _ (by omega)⟩
theorem eqD_int (i j : Int) : eqD (.int i) (.int j) = some (.bool (i == j)) := by
  unfold eqD
  have h : ∀ z : Int, SeqAt.shaped (.int z) = true := fun z => rfl
  rw [if_pos ⟨h i, h j⟩]
  rfl
def RtG (n : Nat) (y : Str × Int) : Prop := y.1 ∈ nm4.take n ∧ 0 < y.2 ∧ y.2 ≤ 100
def KdG (n : Nat) (x : KdT) : Prop := 0 < x.2.2.length ∧ x.2.2.length ≤ 4 ∧ 0 ≤ x.2.1 ∧ x.2.1 < 10 ∧ ∀ y ∈ x.2.2, RtG n y
theorem loop_rt {N k most : Dt} {head : List Int} {h4 : Int} (hh : atI (head.map PyData.int) 4 = some (.int h4)) {n m : Nat} (hn : n ≤ 4) (hn0 : 0 < n) (hm : m ≤ 4) {two : List Int} (ok : OkD ([10, 4] ++ (List.replicate 4 [4, 7, 100]).flatten) two) (one sts sv ro kds x7 : Sl) (x13 x14 : Sl) :
    ∃ (R : List (Str × Int)) (y13 y14 : Sl), R.length = m ∧ (∀ x ∈ R, RtG n x) ∧ forD (hName 13) bd__law_lists_2 (rngD 0 m) [.d N, .d k, .d most, .d (.list (head.map .int)), .d (.list ((nm4.take n).map .str)), one, sts, x7, sv, ro, kds, .d (.list (two.map .int)), .ol [], x13, x14, .no, .no, .no, .no, .no, .no, .no, .no] =
      some (.nx [.d N, .d k, .d most, .d (.list (head.map .int)), .d (.list ((nm4.take n).map .str)), one, sts, x7, sv, ro, kds, .d (.list (two.map .int)), .ol (R.map encStep), y13, y14, .no, .no, .no, .no, .no, .no, .no, .no]) := by
  have loop := forD_run (g := hName 13) (body := bd__law_lists_2) (fun i A => ∃ (R : List (Str × Int)) (y13 y14 : Sl), A = [.d N, .d k, .d most, .d (.list (head.map .int)), .d (.list ((nm4.take n).map .str)), one, sts, x7, sv, ro, kds, .d (.list (two.map .int)), .ol (R.map encStep), y13, y14, .no, .no, .no, .no, .no, .no, .no, .no] ∧ R.length = i ∧ ∀ x ∈ R, RtG n x)
    (rngD 0 m) [.d N, .d k, .d most, .d (.list (head.map .int)), .d (.list ((nm4.take n).map .str)), one, sts, x7, sv, ro, kds, .d (.list (two.map .int)), .ol [], x13, x14, .no, .no, .no, .no, .no, .no, .no, .no] ⟨[], x13, x14, rfl, rfl, nofun⟩ (by
    rintro i x A hx ⟨R, y13, y14, rfl, hR, hZ⟩
    obtain ⟨hi, rfl⟩ := rngD_get hx
    rw [Int.zero_add]
    have hl : (nm4.take n).length = n := by rw [List.length_take]; show min n 4 = n; omega
    obtain ⟨z0, z1, z2⟩ := sz_two i (by omega)
    obtain ⟨d0, e0, a0, b0⟩ := ix_drawI ok (3 * i + 2) z0 (z := 2 + 3 * (i : Int)) (by omega)
    obtain ⟨d1, e1, a1, b1⟩ := ix_drawI ok (3 * i + 3) z1 (z := 3 + 3 * (i : Int)) (by omega)
    obtain ⟨d2, e2, a2, b2⟩ := ix_drawI ok (3 * i + 4) z2 (z := 4 + 3 * (i : Int)) (by omega)
    obtain ⟨q0, q1⟩ := modlen (d := d0) hn0
    obtain ⟨nz, en, hnz⟩ := at_menu (xs := nm4.take n) q0 (by rw [hl]; exact q1)
    have hm : mulD (.int 3) (.int (i : Int)) = some (.int (3 * (i : Int))) := mul_sm 3 i (by omega) (by omega)
    have hd : modD (.int d0) (.int (n : Int)) = some (.int (d0 % (n : Int))) := modD_pos (by omega)
    have he : eqD (.int h4) (.int 0) = some (.bool (h4 == 0)) := eqD_int h4 0
    have hz : i < sizeLine := szt (by omega)
    have hlm : ((nm4.take n).length : Int) = (n : Int) := by rw [hl]
    have hR' : (R.map encStep).length = i := by rw [List.length_map]; exact hR
    cases hb : (h4 == 0) with
    | true =>
      rw [hb] at he
      refine ⟨_, _, rfl, ?_, R ++ [(nz, 1 + d2)], .d (.int i), .d (.int (1 + d2)), rfl, by rw [List.length_append, hR]; rfl, all_snoc hZ ⟨hnz, by show (0 : Int) < 1 + d2; omega, by show 1 + d2 ≤ 100; omega⟩⟩
      unfold bd__law_lists_2
      clear hx hi hl ok hZ hnz
      walk_at "ev*"
      simp only [List.map_append, List.map_cons, List.map_nil]
      rfl
    | false =>
      rw [hb] at he
      refine ⟨_, _, rfl, ?_, R ++ [(nz, 1 + d1)], .d (.int i), .d (.int (1 + d1)), rfl, by rw [List.length_append, hR]; rfl, all_snoc hZ ⟨hnz, by show (0 : Int) < 1 + d1; omega, by show 1 + d1 ≤ 100; omega⟩⟩
      unfold bd__law_lists_2
      clear hx hi hl ok hZ hnz
      walk_at "ev*"
      simp only [List.map_append, List.map_cons, List.map_nil]
      rfl)
  obtain ⟨A', e, R, y13, y14, rfl, hR, hZ⟩ := loop
  rw [rngD_len] at hR
  exact ⟨R, y13, y14, hR, hZ, e⟩

theorem addL_ok {xs ys : List Dt} (h : xs.length + ys.length ≤ 1000) : addD (.list xs) (.list ys) = some (.list (xs ++ ys)) := by
  simp only [addD]
  rw [if_pos (szl (by omega))]
def ksz : List Int := [10, 4] ++ (List.replicate 4 [4, 7, 100]).flatten
def krest : List Int := (List.replicate 4 [4, 7, 100]).flatten
theorem ksz_eq : (mulD (.list [.int 4, .int 7, .int 100]) (.int 4)) = some (.list (krest.map .int)) := mulD_rep (xs := [.int 4, .int 7, .int 100]) (k := 4) (by decide) (by decide)
theorem ksz_add : addD (.list [.int 10, .int 4]) (.list (krest.map .int)) = some (.list (ksz.map .int)) := addL_ok (by decide)
theorem ksz_pos : ∀ s ∈ ksz, 0 < s ∧ s < 2 ^ 60 := by decide
theorem loop_kd (ns : List Int) {k : Nat} (hk : k < 2 ^ 50) {most : Dt} {head : List Int} {h4 : Int} (hh : atI (head.map PyData.int) 4 = some (.int h4)) {n m : Nat} (hn : n ≤ 4) (hn0 : 0 < n) (hm : m ≤ 3) (one sts sv ro x7 : Sl) :
    ∃ (R : List KdT) (y7 y11 y12 y13 y14 : Sl), R.map (·.1) = kn3.take m ∧ (∀ x ∈ R, KdG n x) ∧ forD (hName 7) bd__law_lists_3 (rngD 0 m) [.d (.list (ns.map .int)), .d (.int k), .d most, .d (.list (head.map .int)), .d (.list ((nm4.take n).map .str)), one, sts, x7, sv, ro, .ol [], .no, .no, .no, .no, .no, .no, .no, .no, .no, .no, .no, .no] =
      some (.nx [.d (.list (ns.map .int)), .d (.int k), .d most, .d (.list (head.map .int)), .d (.list ((nm4.take n).map .str)), one, sts, y7, sv, ro, .ol (R.map encKd), y11, y12, y13, y14, .no, .no, .no, .no, .no, .no, .no, .no]) := by
  have loop := forD_run (g := hName 7) (body := bd__law_lists_3) (fun i A => ∃ (R : List KdT) (y7 y11 y12 y13 y14 : Sl), A = [.d (.list (ns.map .int)), .d (.int k), .d most, .d (.list (head.map .int)), .d (.list ((nm4.take n).map .str)), one, sts, y7, sv, ro, .ol (R.map encKd), y11, y12, y13, y14, .no, .no, .no, .no, .no, .no, .no, .no] ∧ R.map (·.1) = (kn3.take m).take i ∧ ∀ x ∈ R, KdG n x)
    (rngD 0 m) [.d (.list (ns.map .int)), .d (.int k), .d most, .d (.list (head.map .int)), .d (.list ((nm4.take n).map .str)), one, sts, x7, sv, ro, .ol [], .no, .no, .no, .no, .no, .no, .no, .no, .no, .no, .no, .no] ⟨[], x7, .no, .no, .no, .no, rfl, rfl, nofun⟩ (by
    rintro i x A hx ⟨R, y7, y11, y12, y13, y14, rfl, hR, hR4⟩
    obtain ⟨hi, rfl⟩ := rngD_get hx
    rw [Int.zero_add]
    have hl : (kn3.take m).length = m := by rw [List.length_take]; show min m 3 = m; omega
    obtain ⟨two, ok, hd⟩ := draw_eq ns (k + 2 + i) ksz (by omega) (by decide) ksz_pos
    have hki : ((k + 2 + i : Nat) : Int) = (k : Int) + 2 + (i : Int) := by omega
    rw [hki] at hd
    obtain ⟨d0, e0, a0, b0⟩ := ix_drawI ok 0 (s := 10) rfl (z := 0) rfl
    obtain ⟨d1, e1, a1, b1⟩ := ix_drawI ok 1 (s := 4) rfl (z := 1) rfl
    obtain ⟨mm, hmm⟩ : ∃ mm : Nat, 1 + d1 = (mm : Int) := ⟨(1 + d1).toNat, (Int.toNat_of_nonneg (by omega)).symm⟩
    obtain ⟨T, t13, t14, hT, hTz, ht⟩ := loop_rt (N := .list (ns.map .int)) (k := .int k) (most := most) hh hn hn0 (m := mm) (by omega) ok one sts sv ro (.ol (R.map encKd)) (.d (.int i)) y13 y14
    have hr : ∀ A : En, A[11]? = some (.d (.list (two.map .int))) → rng1 (aCons (eOp addD (eC (.int 1)) (eOp ixD (bVar 11) (eC (.int 1)))) aNil) A = some (rngD 0 mm) := fun A hA => rng1_eq (by
      simp only [aCons, aNil, eOp, eC, bVar, hA, Option.bind_some, ixL, e1, addI, hmm]) (by omega)
    have hin : i < (kn3.take m).length := by omega
    have en : atI [PyData.str "x", PyData.str "y7", PyData.str "k"] (i : Int) = some (.str (kn3.take m)[i]) := by
      have : kn3[i]? = some (kn3.take m)[i] := by
        rw [← List.getElem?_eq_getElem hin, List.getElem?_take, if_pos hi]
      exact atI_map (f := PyData.str) this
    have hz : i < sizeLine := szt (by omega)
    have hR' : (R.map encKd).length = i := by
      have := congrArg List.length hR
      rw [List.length_map, List.length_take, hl] at this
      rw [List.length_map]; omega
    refine ⟨_, _, rfl, ?_, R ++ [((kn3.take m)[i], d0, T)], .d (.int i), .d (.list (two.map .int)), .ol (T.map encStep), t13, t14, rfl, ?_, fun x hx => ?_⟩
    · unfold bd__law_lists_3
      have hs := fun A hA => sFor_eq (g := hName 13) (body := bd__law_lists_2) (hr A hA)
      have h2 := ksz_eq
      have h3 := ksz_add
      clear hx hl hR ok hki hn hn0 hm hTz hR4
      walk_at "ev*"
      simp only [List.map_append, List.map_cons, List.map_nil]
      rfl
    · rw [List.map_append, hR, List.take_add_one, List.getElem?_eq_getElem hin]
      rfl
    · exact all_snoc (p := KdG n) hR4 ⟨by show 0 < T.length; omega, by show T.length ≤ 4; omega, a0, b0, hTz⟩ x hx)
  obtain ⟨A', e, R, y7, y11, y12, y13, y14, rfl, hR, hR4⟩ := loop
  rw [rngD_len] at hR
  exact ⟨R, y7, y11, y12, y13, y14, by rw [hR, List.take_take, Nat.min_self], hR4, e⟩

/-! ### the pauses -/
theorem valD_put (kvs : List (Key × Dt)) (k : Key) (v : Dt) : valD (putD kvs k v) k = some v := by
  unfold putD
  by_cases h : (kvs.any fun kv => decide (kv.1 = k)) = true
  · rw [if_pos h]
    induction kvs with
    | nil => cases h
    | cons p r ih =>
      rw [List.map_cons]
      by_cases e : p.1 = k
      · rw [if_pos e]
        simp [valD, e]
      · rw [if_neg e]
        have : valD (p :: r.map fun kv => if kv.1 = k then (kv.1, v) else kv) k = valD (r.map fun kv => if kv.1 = k then (kv.1, v) else kv) k := by simp [valD, e]
        rw [this]
        exact ih (by simpa [e] using h)
  · rw [if_neg h]
    have h' : ∀ kv ∈ kvs, ¬ kv.1 = k := by
      intro kv hk e
      exact h (List.any_eq_true.mpr ⟨kv, hk, decide_eq_true e⟩)
    unfold valD
    rw [List.find?_append, List.find?_eq_none.mpr (fun kv hk => by simpa using h' kv hk)]
    simp
def IntV (B : Int) (kvs : List (Key × Dt)) : Prop := ∀ kv ∈ kvs, ∃ i : Int, kv.2 = .int i ∧ 0 ≤ i ∧ i ≤ B
theorem IntV.get {B : Int} {kvs : List (Key × Dt)} (h : IntV B kvs) (hB : 0 ≤ B) (k : Key) : ∃ i : Int, (valD kvs k).getD (.int (-1)) = .int i ∧ -1 ≤ i ∧ i ≤ B := by
  unfold valD
  cases e : kvs.find? fun kv => decide (kv.1 = k) with
  | none => exact ⟨-1, rfl, by omega, by omega⟩
  | some p =>
    obtain ⟨i, hi, h0, h1⟩ := h p (List.mem_of_find?_eq_some e)
    exact ⟨i, hi, by omega, h1⟩
theorem IntV.put {B C : Int} {kvs : List (Key × Dt)} (h : IntV B kvs) (k : Key) (i : Int) (hBC : B ≤ C) (h0 : 0 ≤ i) (h1 : i ≤ C) : IntV C (putD kvs k (.int i)) := by
  unfold putD
  split
  · intro kv hk
    obtain ⟨p, hp, e⟩ := List.mem_map.mp hk
    split at e
    · rw [← e]; exact ⟨i, rfl, h0, h1⟩
    · obtain ⟨x, e1, e2, e3⟩ := h p hp
      rw [← e]; exact ⟨x, e1, e2, by omega⟩
  · intro kv hk
    rcases List.mem_append.mp hk with hk | hk
    · obtain ⟨x, e1, e2, e3⟩ := h kv hk
      exact ⟨x, e1, e2, by omega⟩
    · rw [List.mem_singleton.mp hk]; exact ⟨i, rfl, h0, h1⟩
def PsG (n : Nat) (x : PsT) : Prop := x.1 ∈ nm4.take n ∧ 0 ≤ x.2.1 ∧ x.2.1 < x.2.2 ∧ x.2.2 ≤ 60
def psz : List Int := (List.replicate 3 [4, 9, 6, 4, 6]).flatten
theorem psz_eq : mulD (.list [.int 4, .int 9, .int 6, .int 4, .int 6]) (.int 3) = some (.list (psz.map .int)) := mulD_rep (xs := [.int 4, .int 9, .int 6, .int 4, .int 6]) (k := 3) (by decide) (by decide)
theorem psz_pos : ∀ s ∈ psz, 0 < s ∧ s < 2 ^ 60 := by decide
theorem psz_at : ∀ i : Nat, i < 3 → psz[5 * i]? = some 4 ∧ psz[5 * i + 1]? = some 9 ∧ psz[5 * i + 2]? = some 6 := by decide
theorem loop_ps {N k most head : Dt} {n m : Nat} (hn : n ≤ 4) (hn0 : 0 < n) (hm : m ≤ 3) {three : List Int} (ok : OkD psz three) (one sts x7 sv ro kds s11 s12 s13 s14 : Sl) :
    ∃ (R : List PsT) (kvs : List (Key × Dt)) (y7 y18 y19 : Sl), R.length = m ∧ (∀ x ∈ R, PsG n x) ∧ forD (hName 7) bd__law_lists_4 (rngD 0 m) [.d N, .d k, .d most, .d head, .d (.list ((nm4.take n).map .str)), one, sts, x7, sv, ro, kds, s11, s12, s13, s14, .ol [], .d (.list (three.map .int)), .od [], .no, .no, .no, .no, .no] =
      some (.nx [.d N, .d k, .d most, .d head, .d (.list ((nm4.take n).map .str)), one, sts, y7, sv, ro, kds, s11, s12, s13, s14, .ol (R.map encPs), .d (.list (three.map .int)), .od kvs, y18, y19, .no, .no, .no]) := by
  have loop := forD_run (g := hName 7) (body := bd__law_lists_4) (fun i A => ∃ (R : List PsT) (kvs : List (Key × Dt)) (y7 y18 y19 : Sl), A = [.d N, .d k, .d most, .d head, .d (.list ((nm4.take n).map .str)), one, sts, y7, sv, ro, kds, s11, s12, s13, s14, .ol (R.map encPs), .d (.list (three.map .int)), .od kvs, y18, y19, .no, .no, .no] ∧ R.length = i ∧ IntV (20 * (i : Int)) kvs ∧ kvs.length ≤ i ∧ ∀ x ∈ R, PsG n x)
    (rngD 0 m) [.d N, .d k, .d most, .d head, .d (.list ((nm4.take n).map .str)), one, sts, x7, sv, ro, kds, s11, s12, s13, s14, .ol [], .d (.list (three.map .int)), .od [], .no, .no, .no, .no, .no] ⟨[], [], x7, .no, .no, rfl, rfl, nofun, Nat.le_refl _, nofun⟩ (by
    rintro i x A hx ⟨R, kvs, y7, y18, y19, rfl, hR, hv, hvl, hZ⟩
    obtain ⟨hi, rfl⟩ := rngD_get hx
    rw [Int.zero_add]
    have hl : (nm4.take n).length = n := by rw [List.length_take]; show min n 4 = n; omega
    obtain ⟨z0, z1, z2⟩ := psz_at i (by omega)
    have im : modD (.int (i : Int)) (.int 3) = some (.int (i : Int)) := by
      have e : (i : Int) % 3 = (i : Int) := Int.emod_eq_of_lt (by omega) (by omega)
      exact (modD_pos (by decide)).trans (by rw [e])
    obtain ⟨d0, e0, a0, b0⟩ := ix_drawI ok (5 * i) z0 (z := 5 * (i : Int)) (by omega)
    obtain ⟨d1, e1, a1, b1⟩ := ix_drawI ok (5 * i + 1) z1 (z := 5 * (i : Int) + 1) (by omega)
    obtain ⟨d2, e2, a2, b2⟩ := ix_drawI ok (5 * i + 2) z2 (z := 5 * (i : Int) + 2) (by omega)
    obtain ⟨q0, q1⟩ := modlen (d := d0) hn0
    obtain ⟨nz, en, hnz⟩ := at_menu (xs := nm4.take n) q0 (by rw [hl]; exact q1)
    have hm5 : mulD (.int 5) (.int (i : Int)) = some (.int (5 * (i : Int))) := mul_sm 5 i (by omega) (by omega)
    have hd : modD (.int d0) (.int (n : Int)) = some (.int (d0 % (n : Int))) := modD_pos (by omega)
    have hlm : ((nm4.take n).length : Int) = (n : Int) := by rw [hl]
    obtain ⟨v, hg, hv0, hv1⟩ := hv.get (by omega) (.inr nz)
    have hz : i < sizeLine := szt (by omega)
    have hz2 : kvs.length < sizeLine := szt (by omega)
    have hp := valD_put kvs (.inr nz) (.int (v + 1 + d1 + 1 + d2))
    have hR' : (R.map encPs).length = i := by rw [List.length_map]; exact hR
    refine ⟨_, _, rfl, ?_, R ++ [(nz, v + 1 + d1, v + 1 + d1 + 1 + d2)], putD kvs (.inr nz) (.int (v + 1 + d1 + 1 + d2)), .d (.int i), .d (.str nz), .d (.int (v + 1 + d1)), rfl, by rw [List.length_append, hR]; rfl, hv.put _ _ (by omega) (by omega) (by omega), Nat.le_trans (putD_len _ _ _) (by omega), all_snoc hZ ⟨hnz, by show 0 ≤ v + 1 + d1; omega, by show v + 1 + d1 < v + 1 + d1 + 1 + d2; omega, by show v + 1 + d1 + 1 + d2 ≤ 60; omega⟩⟩
    unfold bd__law_lists_4
    clear hx hi hl ok hZ hnz
    walk_at "ev*"
    simp only [List.map_append, List.map_cons, List.map_nil]
    rfl)
  obtain ⟨A', e, R, kvs, y7, y18, y19, rfl, hR, _, _, hZ⟩ := loop
  rw [rngD_len] at hR
  exact ⟨R, kvs, y7, y18, y19, hR, hZ, e⟩
end K07

namespace K07
open PySem PySem.Spec PyProof.Rows Dv
open L2 hiding Dp DpAll
variable [Tb]
local macro_rules | `(tactic| walk_at "ev") => `(tactic| simp only [sSeq, sSet, sSetO, sSetK0, sIf, sRet, sNext, sApp, sFrz, sAsg, sPut, frzA, eOp, eUn, eC, eVar, bVar, eCB, nCB, nE, aNil, aCons, nLst, eTup, tOf, eChain, eAnd, eOr, eNot, eIf, tAnd', tOr', tNot', eSl, oNone, oSome, asI, asB, eIt, itD, hName, hTup, hCons, hNil, eGet2, eDIx,
  addI, subI, ltI, leI, gtI, geI, ixL, ixT, negI, lenL, lenT, min2D, max2D, intB, intI, tupL, slD, keyS, sz0, sz1, sz2, sz3, sz4, sz5, sz6,
  Option.bind_some, Option.map_some, List.getElem?_cons_zero, List.getElem?_cons_succ, List.set_cons_zero, List.set_cons_succ, List.map_cons, List.map_nil, List.cons_append, List.nil_append, List.replicate_succ, List.replicate_zero, List.length_cons, List.length_nil, List.length_map, outD, Nat.reduceAdd, Nat.reduceSub, Nat.reduceSubDiff, Int.reduceAdd, Int.reduceMul, Int.reducePow, Int.reduceToNat, if_true, if_false, reduceIte, Bool.false_eq_true])
local macro_rules | `(tactic| walk_at "ev*") => `(tactic| simp only [*, sSeq, sSet, sSetO, sSetK0, sIf, sRet, sNext, sApp, sFrz, sAsg, sPut, frzA, eOp, eUn, eC, eVar, bVar, eCB, nCB, nE, aNil, aCons, nLst, eTup, tOf, eChain, eAnd, eOr, eNot, eIf, tAnd', tOr', tNot', eSl, oNone, oSome, asI, asB, eIt, itD, hName, hTup, hCons, hNil, eGet2, eDIx,
  addI, subI, ltI, leI, gtI, geI, ixL, ixT, negI, lenL, lenT, min2D, max2D, intB, intI, tupL, slD, keyS, sz0, sz1, sz2, sz3, sz4, sz5, sz6,
  Option.bind_some, Option.map_some, List.getElem?_cons_zero, List.getElem?_cons_succ, List.set_cons_zero, List.set_cons_succ, List.map_cons, List.map_nil, List.cons_append, List.nil_append, List.replicate_succ, List.replicate_zero, List.length_cons, List.length_nil, List.length_map, outD, Nat.reduceAdd, Nat.reduceSub, Nat.reduceSubDiff, Int.reduceAdd, Int.reduceMul, Int.reducePow, Int.reduceToNat, if_true, if_false, reduceIte, Bool.false_eq_true])
/-! ### the jobs -/
theorem at_gap {r : Int} (h0 : 0 ≤ r) (h1 : r < 4) : ∃ g : Int, atI [PyData.int 0, .int 1, .int 0, .int 3] r = some (.int g) ∧ g.natAbs < 2 ^ 64 ∧ 0 ≤ g ∧ g ≤ 3 := by
  have : r = 0 ∨ r = 1 ∨ r = 2 ∨ r = 3 := by omega
  rcases this with rfl | rfl | rfl | rfl
  · exact ⟨0, rfl, by decide, by decide, by decide⟩
  · exact ⟨1, rfl, by decide, by decide, by decide⟩
  · exact ⟨0, rfl, by decide, by decide, by decide⟩
  · exact ⟨3, rfl, by decide, by decide, by decide⟩
def jsz : List Int := (List.replicate 16 [4, 3]).flatten
theorem jsz_eq : mulD (.list [.int 4, .int 3]) (.int 16) = some (.list (jsz.map .int)) := mulD_rep (xs := [.int 4, .int 3]) (k := 16) (by decide) (by decide)
theorem jsz_pos : ∀ s ∈ jsz, 0 < s ∧ s < 2 ^ 60 := by decide
theorem jsz_at : ∀ i : Nat, i < 16 → jsz[2 * i]? = some 4 ∧ jsz[2 * i + 1]? = some 3 := by decide
theorem six_b (b : Bool) : ∃ f : Int, mulD (.int 6) (.int (if b then 1 else 0)) = some (.int f) ∧ (f = 0 ∨ f = 6) := by
  cases b
  · exact ⟨0, mulD_small (by decide) (by decide), .inl rfl⟩
  · exact ⟨6, mulD_small (by decide) (by decide), .inr rfl⟩
def JbG (R : List KdT) (j : JbT) : Prop := j.2 ∈ R.map (·.1) ∧ 0 ≤ j.1 ∧ j.1 ≤ 252
theorem loop_jb {N k most nms : Dt} {head : List Int} {h5 : Int} (hh : atI (head.map PyData.int) 5 = some (.int h5)) {R : List KdT} (hk0 : 0 < R.length) {m : Nat} (hm : m ≤ 12) {four : List Int} (ok : OkD jsz four) (one sts x7 sv ro s11 s12 s13 s14 s15 s16 s17 s18 s19 : Sl) :
    ∃ (J : List JbT) (y7 y21 : Sl), J.length = m ∧ (∀ j ∈ J, JbG R j) ∧ J.Pairwise (fun a b => a.1 ≤ b.1) ∧ forD (hName 7) bd__law_lists_5 (rngD 0 m) [.d N, .d k, .d most, .d (.list (head.map .int)), .d nms, one, sts, x7, sv, ro, .ol (R.map encKd), s11, s12, s13, s14, s15, s16, s17, s18, s19, .ol [], .d (.int 0), .d (.list (four.map .int))] =
      some (.nx [.d N, .d k, .d most, .d (.list (head.map .int)), .d nms, one, sts, y7, sv, ro, .ol (R.map encKd), s11, s12, s13, s14, s15, s16, s17, s18, s19, .ol (J.map encJb), y21, .d (.list (four.map .int))]) := by
  have loop := forD_run (g := hName 7) (body := bd__law_lists_5) (fun i A => ∃ (J : List JbT) (y7 : Sl) (t : Int), A = [.d N, .d k, .d most, .d (.list (head.map .int)), .d nms, one, sts, y7, sv, ro, .ol (R.map encKd), s11, s12, s13, s14, s15, s16, s17, s18, s19, .ol (J.map encJb), .d (.int t), .d (.list (four.map .int))] ∧ J.length = i ∧ (∀ j ∈ J, j.2 ∈ R.map (·.1) ∧ 0 ≤ j.1 ∧ j.1 ≤ t) ∧ 0 ≤ t ∧ t ≤ 21 * (i : Int) ∧ J.Pairwise (fun a b => a.1 ≤ b.1))
    (rngD 0 m) [.d N, .d k, .d most, .d (.list (head.map .int)), .d nms, one, sts, x7, sv, ro, .ol (R.map encKd), s11, s12, s13, s14, s15, s16, s17, s18, s19, .ol [], .d (.int 0), .d (.list (four.map .int))] ⟨[], x7, 0, rfl, rfl, nofun, by omega, by omega, .nil⟩ (by
    rintro i x A hx ⟨J, y7, t, rfl, hJ, hJk, ht0, ht1, hJp⟩
    obtain ⟨hi, rfl⟩ := rngD_get hx
    rw [Int.zero_add]
    obtain ⟨z0, z1⟩ := jsz_at i (by omega)
    obtain ⟨d0, e0, a0, b0⟩ := ix_drawI ok (2 * i) z0 (z := 2 * (i : Int)) (by omega)
    obtain ⟨d1, e1, a1, b1⟩ := ix_drawI ok (2 * i + 1) z1 (z := 2 * (i : Int) + 1) (by omega)
    obtain ⟨g, eg, hg, hg0, hg3⟩ := at_gap a0 b0
    have he : eqD (.int h5) (.int 0) = some (.bool (h5 == 0)) := eqD_int h5 0
    generalize (h5 == 0) = b at he
    obtain ⟨f, ef, ff⟩ := six_b b
    have hgb : 0 ≤ g * (1 + f) ∧ g * (1 + f) ≤ 21 := by rcases ff with rfl | rfl <;> omega
    have hgf : mulD (.int g) (.int (1 + f)) = some (.int (g * (1 + f))) := mulD_small hg (by omega)
    have hd : modD (.int d1) (.int (R.length : Int)) = some (.int (d1 % (R.length : Int))) := modD_pos (by omega)
    obtain ⟨q0, q1⟩ := modlen (d := d1) hk0
    obtain ⟨r, hr⟩ : ∃ r : Nat, d1 % (R.length : Int) = (r : Int) := ⟨(d1 % (R.length : Int)).toNat, (Int.toNat_of_nonneg q0).symm⟩
    rw [hr] at hd
    have hrl : r < R.length := by omega
    obtain ⟨⟨k1, k2, k3⟩, hkd⟩ : ∃ kd, R[r]? = some kd := ⟨R[r], List.getElem?_eq_getElem hrl⟩
    have hkm := List.mem_of_getElem? hkd
    have en : atI (R.map encKd) (r : Int) = some (.tuple [.str k1, .int k2, .tuple (k3.map encStep)]) := atI_map hkd
    have e00 : atI [PyData.str k1, .int k2, .tuple (k3.map encStep)] 0 = some (.str k1) := rfl
    have hm2 : mulD (.int 2) (.int (i : Int)) = some (.int (2 * (i : Int))) := mul_sm 2 i (by omega) (by omega)
    have hz : i < sizeLine := szt (by omega)
    have hJ' : (J.map encJb).length = i := by rw [List.length_map]; exact hJ
    refine ⟨_, _, rfl, ?_, J ++ [(t + g * (1 + f), k1)], .d (.int i), t + g * (1 + f), rfl, by rw [List.length_append, hJ]; rfl, fun j hj => ?_, by omega, by omega, ?_⟩
    · unfold bd__law_lists_5
      clear hx hi ok hkd hr hkm hJk hJp hgb ff hg0 hg3 ht0 ht1
      walk_at "ev*"
      simp only [List.map_append, List.map_cons, List.map_nil]
      rfl
    · rcases List.mem_append.mp hj with hj | hj
      · obtain ⟨q1, q2, q3⟩ := hJk j hj
        exact ⟨q1, q2, by omega⟩
      · rw [List.mem_singleton.mp hj]
        exact ⟨List.mem_map.mpr ⟨_, hkm, rfl⟩, by show 0 ≤ t + g * (1 + f); omega, Int.le_refl _⟩
    · refine List.pairwise_append.mpr ⟨hJp, List.pairwise_singleton _ _, fun a ha c hc => ?_⟩
      rw [List.mem_singleton.mp hc]
      have := (hJk a ha).2.2
      show a.1 ≤ t + g * (1 + f)
      omega)
  obtain ⟨A', e, J, y7, t, rfl, hJ, hJk, ht0, ht1, hJp⟩ := loop
  rw [rngD_len] at hJ ht1
  exact ⟨J, y7, .d (.int t), hJ, fun j hj => ⟨(hJk j hj).1, (hJk j hj).2.1, by have := (hJk j hj).2.2; omega⟩, hJp, e⟩
/-! ### the four lists -/
def hsz (most : Nat) : List Int := [4, 3, 4, most, 4, 3]
def osz : List Int := (List.replicate 4 [3, 6, 3]).flatten
theorem osz_eq : mulD (.list [.int 3, .int 6, .int 3]) (.int 4) = some (.list (osz.map .int)) := mulD_rep (xs := [.int 3, .int 6, .int 3]) (k := 4) (by decide) (by decide)
theorem osz_pos : ∀ s ∈ osz, 0 < s ∧ s < 2 ^ 60 := by decide
theorem out_nx {f g : En → Option Out} {A A' : En} (h : f A = some (.nx A')) : outD (sSeq f g A) = outD (g A') := by rw [sSeq_nx h]
theorem lists_eq (ns : List Int) {k : Nat} (hk : k < 2 ^ 50) :
    ∃ (n m : Nat) (S : List StT) (R : List KdT) (P : List PsT) (J : List JbT), 0 < n ∧ n ≤ 4 ∧ m ≤ 3 ∧ S.map (·.1) = nm4.take n ∧ R.map (·.1) = kn3.take m ∧ (∀ x ∈ S, StG x) ∧ (∀ x ∈ R, KdG n x) ∧ (∀ x ∈ P, PsG n x) ∧ P.length ≤ 3 ∧ J.length ≤ 12 ∧ (∀ j ∈ J, JbG R j) ∧ J.Pairwise (fun a b => a.1 ≤ b.1) ∧ 0 < m ∧
      sem__law_lists [.list (ns.map .int), .int k, .int 12] = some (.tuple [.list (S.map encSt), .list (R.map encKd), .list (P.map encPs), .list (J.map encJb)]) := by
  obtain ⟨head, okh, hd⟩ := draw_eq ns k (hsz 12) (by omega) (by decide) (by decide)
  obtain ⟨h0, e0, a0, b0⟩ := ix_drawI okh 0 (s := 4) rfl (z := 0) rfl
  obtain ⟨h1, e1, a1, b1⟩ := ix_drawI okh 1 (s := 3) rfl (z := 1) rfl
  obtain ⟨h2, e2, a2, b2⟩ := ix_drawI okh 2 (s := 4) rfl (z := 2) rfl
  obtain ⟨h3, e3, a3, b3⟩ := ix_drawI okh 3 (s := 12) rfl (z := 3) rfl
  obtain ⟨h4, e4, a4, b4⟩ := ix_drawI okh 4 (s := 4) rfl (z := 4) rfl
  obtain ⟨h5, e5, a5, b5⟩ := ix_drawI okh 5 (s := 3) rfl (z := 5) rfl
  obtain ⟨n, hn⟩ : ∃ n : Nat, 1 + h0 = (n : Int) := ⟨(1 + h0).toNat, (Int.toNat_of_nonneg (by omega)).symm⟩
  obtain ⟨m, hm⟩ : ∃ m : Nat, 1 + h1 = (m : Int) := ⟨(1 + h1).toNat, (Int.toNat_of_nonneg (by omega)).symm⟩
  obtain ⟨p, rfl⟩ : ∃ p : Nat, h2 = (p : Int) := ⟨h2.toNat, (Int.toNat_of_nonneg (by omega)).symm⟩
  obtain ⟨j, rfl⟩ : ∃ j : Nat, h3 = (j : Int) := ⟨h3.toNat, (Int.toNat_of_nonneg (by omega)).symm⟩
  obtain ⟨one, oko, ho⟩ := draw_eq ns (k + 1) osz (by omega) (by decide) osz_pos
  obtain ⟨three, okt, ht⟩ := draw_eq ns (k + 5) psz (by omega) (by decide) psz_pos
  obtain ⟨four, okf, hf⟩ := draw_eq ns (k + 6) jsz (by omega) (by decide) jsz_pos
  have c1 : ((k + 1 : Nat) : Int) = (k : Int) + 1 := by omega
  have c5 : ((k + 5 : Nat) : Int) = (k : Int) + 5 := by omega
  have c6 : ((k + 6 : Nat) : Int) = (k : Int) + 6 := by omega
  rw [c1] at ho
  rw [c5] at ht
  rw [c6] at hf
  have hl : ((nm4.take n).map PyData.str).length = n := by rw [List.length_map, List.length_take]; show min n 4 = n; omega
  obtain ⟨S, y7, y8, y9, hS, hSz, l1⟩ := loop_st (N := .list (ns.map .int)) (k := .int k) (most := .int 12) (head := .list (head.map .int)) (n := n) (by omega) oko
  obtain ⟨R, z7, z11, z12, z13, z14, hR, hR4, l2⟩ := loop_kd ns hk (most := .int 12) e4 (n := n) (m := m) (by omega) (by omega) (by omega) (.d (.list (one.map .int))) (.ol (S.map encSt)) y8 y9 y7
  have hRl : R.length = m := by
    have := congrArg List.length hR
    rw [List.length_map, List.length_take] at this
    rw [this]; show min m 3 = m; omega
  obtain ⟨P, kvs, w7, w18, w19, hP, hPz, l3⟩ := loop_ps (N := .list (ns.map .int)) (k := .int k) (most := .int 12) (head := .list (head.map .int)) (n := n) (m := p) (by omega) (by omega) (by omega) okt (.d (.list (one.map .int))) (.ol (S.map encSt)) z7 y8 y9 (.ol (R.map encKd)) z11 z12 z13 z14
  obtain ⟨J, v7, v21, hJ, hJk, hJp, l4⟩ := loop_jb (N := .list (ns.map .int)) (k := .int k) (most := .int 12) (nms := .list ((nm4.take n).map .str)) e5 (R := R) (by omega) (m := j) (by omega) okf (.d (.list (one.map .int))) (.ol (S.map encSt)) w7 y8 y9 z11 z12 z13 z14 (.ol (P.map encPs)) (.d (.list (three.map .int))) (.od kvs) w18 w19
  refine ⟨n, m, S, R, P, J, by omega, by omega, by omega, hS, hR, hSz, hR4, hPz, by omega, by omega, hJk, hJp, by omega, ?_⟩
  unfold sem__law_lists
  refine (semF_eq rfl).trans ?_
  unfold run__law_lists
  have q1 := osz_eq
  have q2 := psz_eq
  have q3 := jsz_eq
  have hcut : Dv.cutD [PyData.str "q", .str "a", .str "m2", .str "dd"] none (some (n : Int)) = (nm4.take n).map PyData.str := by
    rw [cut_take (by simp only [List.length_cons, List.length_nil]; omega), List.map_take]; rfl
  have r1 : ∀ A : En, A[4]? = some (.d (.list ((nm4.take n).map .str))) → rng1 (aCons (eCB lenD (aCons (bVar 4) aNil)) aNil) A = some (rngD 0 n) := fun A hA => rng1_eq (by
    simp only [aCons, aNil, eCB, bVar, hA, Option.bind_some, lenL, hl]) (by omega)
  have r2 : ∀ A : En, A[3]? = some (.d (.list (head.map .int))) → rng1 (aCons (eOp addD (eC (.int 1)) (eOp ixD (bVar 3) (eC (.int 1)))) aNil) A = some (rngD 0 m) := fun A hA => rng1_eq (by
    simp only [aCons, aNil, eOp, eC, bVar, hA, Option.bind_some, ixL, e1, addI, hm]) (by omega)
  have r3 : ∀ A : En, A[3]? = some (.d (.list (head.map .int))) → rng1 (aCons (eOp ixD (bVar 3) (eC (.int 2))) aNil) A = some (rngD 0 p) := fun A hA => rng1_eq (by
    simp only [aCons, aNil, eOp, eC, bVar, hA, Option.bind_some, ixL, e2]) (by omega)
  have r4 : ∀ A : En, A[3]? = some (.d (.list (head.map .int))) → rng1 (aCons (eOp ixD (bVar 3) (eC (.int 3))) aNil) A = some (rngD 0 j) := fun A hA => rng1_eq (by
    simp only [aCons, aNil, eOp, eC, bVar, hA, Option.bind_some, ixL, e3]) (by omega)
  have s1 := fun A hA => sFor_eq (g := hName 7) (body := bd__law_lists_1) (r1 A hA)
  have s2 := fun A hA => sFor_eq (g := hName 7) (body := bd__law_lists_3) (r2 A hA)
  have s3 := fun A hA => sFor_eq (g := hName 7) (body := bd__law_lists_4) (r3 A hA)
  have s4 := fun A hA => sFor_eq (g := hName 7) (body := bd__law_lists_5) (r4 A hA)
  have hd' : sem__law_draw [.list (ns.map .int), .int k, .list [.int 4, .int 3, .int 4, .int 12, .int 4, .int 3]] = some (.list (head.map .int)) := hd
  have f1 : (S.map encSt).length ≤ sizeLine := szl (by rw [List.length_map]; have := congrArg List.length hS; rw [List.length_map, List.length_take] at this; omega)
  have f2 : (R.map encKd).length ≤ sizeLine := szl (by rw [List.length_map]; omega)
  have f3 : (P.map encPs).length ≤ sizeLine := szl (by rw [List.length_map]; omega)
  have f4 : (J.map encJb).length ≤ sizeLine := szl (by rw [List.length_map]; omega)
  clear hJp hSz hPz okh oko okt okf hS hR hR4 hJk hRl hP hJ hd r1 r2 r3 r4 a0 b0 a1 b1 a2 b2 a3 b3 a4 b4 a5 b5 c1 c5 c6 hk e4 e5 e2 e3
  iterate 15 refine (out_nx (by walk_at "ev*"; rfl)).trans ?_
  walk_at "ev*"
end K07

namespace K07
open PySem PySem.Spec PyProof.Rows Dv
open L2 hiding Dp DpAll
variable [Tb]
local macro_rules | `(tactic| walk_at "ev") => `(tactic| simp only [sSeq, sSet, sSetO, sSetK0, sIf, sRet, sNext, sApp, sFrz, sAsg, sPut, frzA, eOp, eUn, eC, eVar, bVar, eCB, nCB, nE, aNil, aCons, nLst, eTup, tOf, eChain, eAnd, eOr, eNot, eIf, tAnd', tOr', tNot', eSl, oNone, oSome, asI, asB, eIt, itD, hName, hTup, hCons, hNil, eGet2, eDIx,
  addI, subI, ltI, leI, gtI, geI, ixL, ixT, negI, lenL, lenT, min2D, max2D, intB, intI, tupL, slD, keyS, sz0, sz1, sz2, sz3, sz4, sz5, sz6,
  Option.bind_some, Option.map_some, List.getElem?_cons_zero, List.getElem?_cons_succ, List.set_cons_zero, List.set_cons_succ, List.map_cons, List.map_nil, List.cons_append, List.nil_append, List.replicate_succ, List.replicate_zero, List.length_cons, List.length_nil, List.length_map, outD, Nat.reduceAdd, Nat.reduceSub, Nat.reduceSubDiff, Int.reduceAdd, Int.reduceMul, Int.reducePow, Int.reduceToNat, if_true, if_false, reduceIte, Bool.false_eq_true])
local macro_rules | `(tactic| walk_at "ev*") => `(tactic| simp only [*, sSeq, sSet, sSetO, sSetK0, sIf, sRet, sNext, sApp, sFrz, sAsg, sPut, frzA, eOp, eUn, eC, eVar, bVar, eCB, nCB, nE, aNil, aCons, nLst, eTup, tOf, eChain, eAnd, eOr, eNot, eIf, tAnd', tOr', tNot', eSl, oNone, oSome, asI, asB, eIt, itD, hName, hTup, hCons, hNil, eGet2, eDIx,
  addI, subI, ltI, leI, gtI, geI, ixL, ixT, negI, lenL, lenT, min2D, max2D, intB, intI, tupL, slD, keyS, sz0, sz1, sz2, sz3, sz4, sz5, sz6,
  Option.bind_some, Option.map_some, List.getElem?_cons_zero, List.getElem?_cons_succ, List.set_cons_zero, List.set_cons_succ, List.map_cons, List.map_nil, List.cons_append, List.nil_append, List.replicate_succ, List.replicate_zero, List.length_cons, List.length_nil, List.length_map, outD, Nat.reduceAdd, Nat.reduceSub, Nat.reduceSubDiff, Int.reduceAdd, Int.reduceMul, Int.reducePow, Int.reduceToNat, if_true, if_false, reduceIte, Bool.false_eq_true])
/-! ### the model -/
theorem inj_nd {α β : Type} {f : α → β} : ∀ {l : List α}, (l.map f).Nodup → ∀ a ∈ l, ∀ b ∈ l, f a = f b → a = b
  | [], _, _, h, _, _, _ => nomatch h
  | x :: l, hn, a, ha, b, hb, e => by
    rw [List.map_cons, List.nodup_cons] at hn
    rcases List.mem_cons.mp ha with h1 | h1
    · rcases List.mem_cons.mp hb with h2 | h2
      · rw [h1, h2]
      · exact absurd (List.mem_map.mpr ⟨b, h2, by rw [← h1, e]⟩) hn.1
    · rcases List.mem_cons.mp hb with h2 | h2
      · exact absurd (List.mem_map.mpr ⟨a, h1, by rw [← h2, e]⟩) hn.1
      · exact inj_nd hn.2 a h1 b h2 e
theorem pref_refl : ∀ {xs : List Dt}, (∀ x ∈ xs, W.alike x x = true) → prefOk xs xs = true
  | [], _ => rfl
  | x :: xs, h => by
    have ih := pref_refl fun y hy => h y (List.mem_cons_of_mem _ hy)
    show (W.alike x x && (!PyData.eqv x x || prefOk xs xs)) = true
    rw [h x List.mem_cons_self, ih]
    simp
theorem eqv_str (a b : Str) : PyData.eqv (.str a) (.str b) = (a == b) := by simp [PyData.eqv]
theorem tup_ok {a b : Str} {xs ys : List Dt} (h : a = b → prefOk xs ys = true) : tupOk (.tuple (.str a :: xs)) (.tuple (.str b :: ys)) = true := by
  show (true && true && (true && (!PyData.eqv (.str a) (.str b) || prefOk xs ys))) = true
  rw [eqv_str]
  by_cases e : a = b
  · rw [h e]; simp
  · simp [e]
theorem alike_o (o : Option Int) : W.alike (encO o) (encO o) = true := by
  cases o <;> rfl
theorem alike_steps : ∀ T : List (Str × Int), W.alikeAll (T.map encStep) (T.map encStep) = true
  | [] => rfl
  | t :: T => by
    show (W.alike (encStep t) (encStep t) && W.alikeAll (T.map encStep) (T.map encStep)) = true
    rw [alike_steps T]; rfl
theorem lay_steps : ∀ T : List (Str × Int), (∀ y ∈ T, PyData.strOk y.1 = true) → PyData.canLayAll0 (T.map encStep) = true
  | [], _ => rfl
  | t :: T, h => by
    have e : PyData.canLay0 (encStep t) = true := by
      simp [encStep, PyData.canLay0, PyData.canLayAll0, h t List.mem_cons_self]
    rw [List.map_cons, PyData.canLayAll0, lay_steps T fun y hy => h y (List.mem_cons_of_mem _ hy), e]
    rfl
theorem dep_steps : ∀ T : List (Str × Int), PyData.depthAll (T.map encStep) ≤ 3
  | [] => by simp [PyData.depthAll]
  | t :: T => by
    have ih := dep_steps T
    have e : PyData.depth (encStep t) ≤ 2 := by
      simp [encStep, PyData.depth, PyData.depthAll]
    rw [List.map_cons, PyData.depthAll]
    omega

theorem sort_ok {ds : List Dt} (h1 : ∀ d ∈ ds, d.canLay0 = true ∧ d.depth ≤ 60) (h2 : ∀ d ∈ ds, ∀ e ∈ ds, tupOk d e = true) : srtN [.list ds] = some (sortD ds) := by
  have : sortOk ds = true := by
    unfold sortOk
    rw [Bool.and_eq_true]
    refine ⟨List.all_eq_true.mpr fun d hd => ?_, ?_⟩
    · rw [(h1 d hd).1, decide_eq_true (h1 d hd).2]; rfl
    · rw [Bool.or_eq_true]
      exact .inl (List.all_eq_true.mpr fun d hd => List.all_eq_true.mpr fun e he => h2 d hd e he)
  show (if sortOk ds = true then some (sortD ds) else none) = _
  rw [if_pos this]
theorem sort_map {α : Type} (f : α → Dt) (l : List α) : ∃ l' : List α, l'.Perm l ∧ sortD (l.map f) = l'.map f := by
  refine ⟨l.mergeSort fun a b => W.dataLe false id (f a) (f b), List.mergeSort_perm _ _, ?_⟩
  exact (W.sort_maps f fun a _ b _ => rfl).symm
theorem mem_enc {α : Type} {f : α → Dt} {l : List α} {d : Dt} (h : d ∈ l.map f) : ∃ a ∈ l, d = f a := by
  obtain ⟨a, ha, e⟩ := List.mem_map.mp h
  exact ⟨a, ha, e.symm⟩
theorem st_lay {s : StT} (h1 : PyData.strOk s.1 = true) (h2 : PyData.strOk s.2.2.2 = true) : (encSt s).canLay0 = true ∧ (encSt s).depth ≤ 3 := by
  obtain ⟨a, b, o, z⟩ := s
  cases o <;> exact ⟨by simp_all [encSt, encO, PyData.canLay0, PyData.canLayAll0], by simp [encSt, encO, PyData.depth, PyData.depthAll]⟩
theorem kd_lay {s : KdT} (h1 : PyData.strOk s.1 = true) (h2 : ∀ y ∈ s.2.2, PyData.strOk y.1 = true) : (encKd s).canLay0 = true ∧ (encKd s).depth ≤ 6 := by
  obtain ⟨a, b, T⟩ := s
  have := lay_steps T h2
  have := dep_steps T
  exact ⟨by simp_all [encKd, PyData.canLay0, PyData.canLayAll0], by simp [encKd, PyData.depth, PyData.depthAll]; omega⟩
theorem ps_lay {s : PsT} (h1 : PyData.strOk s.1 = true) : (encPs s).canLay0 = true ∧ (encPs s).depth ≤ 3 := by
  obtain ⟨a, b, c⟩ := s
  exact ⟨by simp_all [encPs, PyData.canLay0, PyData.canLayAll0], by simp [encPs, PyData.depth, PyData.depthAll]⟩
theorem sort_st {S : List StT} (hn : (S.map (·.1)).Nodup) (h1 : ∀ s ∈ S, PyData.strOk s.1 = true) (h2 : ∀ s ∈ S, PyData.strOk s.2.2.2 = true) : srtN [.list (S.map encSt)] = some (sortD (S.map encSt)) := by
  refine sort_ok (fun d hd => ?_) fun d hd e he => ?_
  · obtain ⟨s, hs, rfl⟩ := mem_enc hd
    have := st_lay (h1 s hs) (h2 s hs)
    exact ⟨this.1, by omega⟩
  · obtain ⟨s, hs, rfl⟩ := mem_enc hd
    obtain ⟨t, ht, rfl⟩ := mem_enc he
    refine tup_ok fun e => ?_
    rw [inj_nd hn s hs t ht e]
    refine pref_refl fun x hx => ?_
    simp only [List.mem_cons, List.not_mem_nil, or_false] at hx
    rcases hx with rfl | rfl | rfl
    · rfl
    · exact alike_o _
    · rfl
theorem sort_kd {S : List KdT} (hn : (S.map (·.1)).Nodup) (h1 : ∀ s ∈ S, PyData.strOk s.1 = true) (h2 : ∀ s ∈ S, ∀ y ∈ s.2.2, PyData.strOk y.1 = true) : srtN [.list (S.map encKd)] = some (sortD (S.map encKd)) := by
  refine sort_ok (fun d hd => ?_) fun d hd e he => ?_
  · obtain ⟨s, hs, rfl⟩ := mem_enc hd
    have := kd_lay (h1 s hs) (h2 s hs)
    exact ⟨this.1, by omega⟩
  · obtain ⟨s, hs, rfl⟩ := mem_enc hd
    obtain ⟨t, ht, rfl⟩ := mem_enc he
    refine tup_ok fun e => ?_
    rw [inj_nd hn s hs t ht e]
    refine pref_refl fun x hx => ?_
    simp only [List.mem_cons, List.not_mem_nil, or_false] at hx
    rcases hx with rfl | rfl
    · rfl
    · exact alike_steps _
theorem sort_ps {S : List PsT} (h1 : ∀ s ∈ S, PyData.strOk s.1 = true) : srtN [.list (S.map encPs)] = some (sortD (S.map encPs)) := by
  refine sort_ok (fun d hd => ?_) fun d hd e he => ?_
  · obtain ⟨s, hs, rfl⟩ := mem_enc hd
    have := ps_lay (h1 s hs)
    exact ⟨this.1, by omega⟩
  · obtain ⟨⟨a, b, c⟩, hs, rfl⟩ := mem_enc hd
    obtain ⟨⟨a', b', c'⟩, ht, rfl⟩ := mem_enc he
    refine tup_ok fun e => ?_
    show (true && (!PyData.eqv (.int b) (.int b') || (true && (!PyData.eqv (.int c) (.int c') || true)))) = true
    simp
/-- a model as the law holds it -/
def encM (S : List StT) (R : List KdT) (P : List PsT) (J : List JbT) : Dt := .tuple [.tuple (S.map encSt), .tuple (R.map encKd), .tuple (P.map encPs), .tuple (J.map encJb)]
structure GoodM (S : List StT) (R : List KdT) (P : List PsT) (J : List JbT) : Prop where
  sl : S.length ≤ 4
  s0 : 0 < S.length
  sd : (S.map (·.1)).Nodup
  sm : ∀ s ∈ S, s.1 ∈ nm4
  sg : ∀ s ∈ S, StG s
  rn : (R.map (·.1)).Nodup
  rl : R.length ≤ 3
  r0 : 0 < R.length
  rm : ∀ x ∈ R, x.1 ∈ kn3
  rg : ∀ x ∈ R, 0 < x.2.2.length ∧ x.2.2.length ≤ 4 ∧ 0 ≤ x.2.1 ∧ x.2.1 < 10 ∧ ∀ y ∈ x.2.2, y.1 ∈ S.map (·.1) ∧ 0 < y.2 ∧ y.2 ≤ 100
  pg : ∀ x ∈ P, x.1 ∈ S.map (·.1) ∧ 0 ≤ x.2.1 ∧ x.2.1 < x.2.2 ∧ x.2.2 ≤ 60
  pl : P.length ≤ 3
  jl : J.length ≤ 12
  jg : ∀ j ∈ J, j.2 ∈ R.map (·.1) ∧ 0 ≤ j.1 ∧ j.1 ≤ 252
  jp : J.Pairwise fun a b => a.1 ≤ b.1
section
variable {S : List StT} {R : List KdT} {P : List PsT} {J : List JbT}
theorem GoodM.sn (g : GoodM S R P J) : ∀ s ∈ S, PyData.strOk s.1 = true := fun s hs => nm_ok _ (g.sm s hs)
theorem GoodM.nm (g : GoodM S R P J) {z : Str} (h : z ∈ S.map (·.1)) : PyData.strOk z = true := by
  obtain ⟨s, hs, rfl⟩ := List.mem_map.mp h
  exact g.sn s hs
theorem GoodM.rk (g : GoodM S R P J) : ∀ x ∈ R, PyData.strOk x.1 = true := fun x hx => kn_ok _ (g.rm x hx)
theorem GoodM.pk (g : GoodM S R P J) : ∀ x ∈ P, PyData.strOk x.1 = true := fun x hx => g.nm (g.pg x hx).1
theorem GoodM.r4 (g : GoodM S R P J) : ∀ x ∈ R, x.2.2.length ≤ 4 ∧ ∀ y ∈ x.2.2, PyData.strOk y.1 = true := fun x hx => ⟨(g.rg x hx).2.1, fun y hy => g.nm ((g.rg x hx).2.2.2.2 y hy).1⟩
theorem GoodM.jk (g : GoodM S R P J) : ∀ j ∈ J, j.2 ∈ R.map (·.1) := fun j hj => (g.jg j hj).1
end
theorem nd_take {xs : List Str} (h : xs.Nodup) (n : Nat) : (xs.take n).Nodup := h.sublist (List.take_sublist n xs)
theorem model_eq (ns : List Int) {k : Nat} (hk : k < 2 ^ 50) : ∃ S R P J, GoodM S R P J ∧ sem__law_model [.list (ns.map .int), .int k, .int 12] = some (encM S R P J) := by
  obtain ⟨n, m, S, R, P, J, hn0, hn, hm, hS, hR, hSz, hR4, hPz, hP, hJ, hJk, hJp, hm0, hl⟩ := lists_eq ns hk
  have ndS : (S.map (·.1)).Nodup := by rw [hS]; exact nd_take (by decide) n
  have ndR : (R.map (·.1)).Nodup := by rw [hR]; exact nd_take (by decide) m
  have mS : ∀ s ∈ S, s.1 ∈ nm4 := fun s hs => by
    have : s.1 ∈ S.map (·.1) := List.mem_map.mpr ⟨s, hs, rfl⟩
    rw [hS] at this
    exact List.mem_of_mem_take this
  have mR : ∀ s ∈ R, s.1 ∈ kn3 := fun s hs => by
    have : s.1 ∈ R.map (·.1) := List.mem_map.mpr ⟨s, hs, rfl⟩
    rw [hR] at this
    exact List.mem_of_mem_take this
  have lS : S.length = min n 4 := by
    have := congrArg List.length hS
    rwa [List.length_map, List.length_take] at this
  have lR : R.length = min m 3 := by
    have := congrArg List.length hR
    rwa [List.length_map, List.length_take] at this
  obtain ⟨S', pS, eS⟩ := sort_map encSt S
  obtain ⟨R', pR, eR⟩ := sort_map encKd R
  obtain ⟨P', pP, eP⟩ := sort_map encPs P
  have s1 := sort_st ndS (fun s hs => nm_ok _ (mS s hs)) fun s hs => zn_ok _ (hSz s hs).1
  have s2 := sort_kd ndR (fun s hs => kn_ok _ (mR s hs)) fun s hs y hy => nm_ok _ (List.mem_of_mem_take ((hR4 s hs).2.2.2.2 y hy).1)
  have s3 := sort_ps fun s hs => nm_ok _ (List.mem_of_mem_take (hPz s hs).1)
  rw [eS] at s1
  rw [eR] at s2
  rw [eP] at s3
  have nS : ∀ z, z ∈ nm4.take n → z ∈ S'.map (·.1) := fun z hz => by
    rw [← hS] at hz
    exact ((pS.map (·.1)).mem_iff).mpr hz
  refine ⟨S', R', P', J, ⟨by rw [pS.length_eq]; omega, by rw [pS.length_eq]; omega, ((pS.map (·.1)).nodup_iff).mpr ndS, fun s hs => mS s (pS.mem_iff.mp hs), fun s hs => hSz s (pS.mem_iff.mp hs), ((pR.map (·.1)).nodup_iff).mpr ndR, by rw [pR.length_eq]; omega, by rw [pR.length_eq]; omega, fun x hx => mR x (pR.mem_iff.mp hx), fun x hx => ?_, fun x hx => ?_, by rw [pP.length_eq]; exact hP, hJ, fun j hj => ?_, hJp⟩, ?_⟩
  · obtain ⟨q1, q2, q3, q4, q5⟩ := hR4 x (pR.mem_iff.mp hx)
    exact ⟨q1, q2, q3, q4, fun y hy => ⟨nS _ (q5 y hy).1, (q5 y hy).2⟩⟩
  · obtain ⟨q1, q2⟩ := hPz x (pP.mem_iff.mp hx)
    exact ⟨nS _ q1, q2⟩
  · obtain ⟨q1, q2⟩ := hJk j hj
    exact ⟨((pR.map (·.1)).mem_iff).mpr q1, q2⟩
  · unfold sem__law_model
    refine (semF_eq rfl).trans ?_
    unfold run__law_model
    clear hS hR hSz hR4 hPz hP hJ hJk hJp ndS ndR mS mR lS lR pS pR pP eS eR eP nS hk hn0 hn hm hm0
    walk_at "ev*"
    rfl
end K07

namespace K07
open PySem PySem.Spec PyProof.Rows Dv
open L2 hiding Dp DpAll
variable [Tb]
/-! ### equal to itself -/
theorem neD_self {d : Dt} (h1 : d.canLay0 = true) (h2 : d.depth ≤ 64) (h3 : W.alike d d = true) : neD d d = some (.bool false) := by
  have h : SeqAt.shaped d = true := by
    show (PyData.canLay0 d && decide (PyData.depth d ≤ 64)) = true
    rw [h1, decide_eq_true h2]; rfl
  unfold neD
  rw [if_pos ⟨h, h⟩, W.eqv_refl_alike d h3]; rfl
/-- fit to be compared: laid out, flat, like itself -/
structure Cmp (n : Nat) (d : Dt) : Prop where
  a : d.canLay0 = true
  b : d.depth ≤ n
  c : W.alike d d = true
theorem Cmp.ne {n : Nat} {d : Dt} (h : Cmp n d) (hn : n ≤ 64) : neD d d = some (.bool false) := neD_self h.a (Nat.le_trans h.b hn) h.c
theorem Cmp.int (i : Int) : Cmp 1 (.int i) := ⟨by simp [PyData.canLay0], by simp [PyData.depth], rfl⟩
theorem Cmp.non : Cmp 1 .none := ⟨by simp [PyData.canLay0], by simp [PyData.depth], rfl⟩
theorem Cmp.str {z : Str} (h : PyData.strOk z = true) : Cmp 1 (.str z) := ⟨by simp [PyData.canLay0, h], by simp [PyData.depth], rfl⟩
structure CmpAll (n : Nat) (ds : List Dt) : Prop where
  a : PyData.canLayAll0 ds = true
  b : PyData.depthAll ds ≤ n
  c : W.alikeAll ds ds = true
theorem CmpAll.nil (n : Nat) : CmpAll n [] := ⟨by simp [PyData.canLayAll0], by simp [PyData.depthAll], rfl⟩
theorem CmpAll.cons {n : Nat} {d : Dt} {ds : List Dt} (h : Cmp n d) (t : CmpAll n ds) : CmpAll n (d :: ds) := ⟨by rw [PyData.canLayAll0, h.a, t.a]; rfl, by rw [PyData.depthAll]; have := h.b; have := t.b; omega, by
  show (W.alike d d && W.alikeAll ds ds) = true
  rw [h.c, t.c]; rfl⟩
theorem CmpAll.map {α : Type} {n : Nat} {f : α → Dt} : ∀ {xs : List α}, (∀ x ∈ xs, Cmp n (f x)) → CmpAll n (xs.map f)
  | [], _ => .nil n
  | x :: xs, h => .cons (h x List.mem_cons_self) (CmpAll.map fun y hy => h y (List.mem_cons_of_mem _ hy))
theorem Cmp.mono {n m : Nat} {d : Dt} (h : Cmp n d) (hn : n ≤ m) : Cmp m d := ⟨h.a, Nat.le_trans h.b hn, h.c⟩
theorem CmpAll.tup {n : Nat} {ds : List Dt} (h : CmpAll n ds) : Cmp (n + 1) (.tuple ds) := ⟨by rw [PyData.canLay0]; exact h.a, by rw [PyData.depth]; have := h.b; omega, h.c⟩
theorem CmpAll.lst {n : Nat} {ds : List Dt} (h : CmpAll n ds) : Cmp (n + 1) (.list ds) := ⟨by rw [PyData.canLay0]; exact h.a, by rw [PyData.depth]; have := h.b; omega, h.c⟩
/-- models whose texts are plain -/
structure StrM (S : List StT) (R : List KdT) (P : List PsT) (J : List JbT) : Prop where
  s : ∀ x ∈ S, PyData.strOk x.1 = true ∧ PyData.strOk x.2.2.2 = true
  r : ∀ x ∈ R, PyData.strOk x.1 = true ∧ ∀ y ∈ x.2.2, PyData.strOk y.1 = true
  p : ∀ x ∈ P, PyData.strOk x.1 = true
  j : ∀ x ∈ J, PyData.strOk x.2 = true
theorem GoodM.str {S : List StT} {R : List KdT} {P : List PsT} {J : List JbT} (g : GoodM S R P J) : StrM S R P J :=
  ⟨fun x hx => ⟨g.sn x hx, zn_ok _ (g.sg x hx).1⟩, fun x hx => ⟨g.rk x hx, (g.r4 x hx).2⟩, g.pk, fun x hx => by
    obtain ⟨r, hr, e⟩ := List.mem_map.mp (g.jk x hx)
    rw [← e]; exact g.rk r hr⟩
theorem cmp_m {S : List StT} {R : List KdT} {P : List PsT} {J : List JbT} (g : StrM S R P J) : Cmp 7 (encM S R P J) := by
  have c1 : Cmp 3 (.tuple (S.map encSt)) := (CmpAll.map (n := 2) fun x hx => by
    obtain ⟨a, b, o, z⟩ := x
    have q := g.s _ hx
    have c : Cmp 1 (encO o) := by
      cases o with
      | none => exact .non
      | some i => exact .int i
    exact CmpAll.tup (.cons (.str q.1) (.cons (.int b) (.cons c (.cons (.str q.2) (.nil 1)))))).tup
  have c2 : Cmp 5 (.tuple (R.map encKd)) := (CmpAll.map (n := 4) fun x hx => by
    obtain ⟨a, b, T⟩ := x
    have q := g.r _ hx
    have c : Cmp 3 (.tuple (T.map encStep)) := (CmpAll.map (n := 2) fun y hy => CmpAll.tup (.cons (.str (q.2 y hy)) (.cons (.int y.2) (.nil 1)))).tup
    exact CmpAll.tup (.cons ((Cmp.str q.1).mono (by omega)) (.cons ((Cmp.int b).mono (by omega)) (.cons c (.nil 3))))).tup
  have c3 : Cmp 3 (.tuple (P.map encPs)) := (CmpAll.map (n := 2) fun x hx => CmpAll.tup (.cons (.str (g.p x hx)) (.cons (.int _) (.cons (.int _) (.nil 1))))).tup
  have c4 : Cmp 3 (.tuple (J.map encJb)) := (CmpAll.map (n := 2) fun x hx => CmpAll.tup (.cons (.int _) (.cons (.str (g.j x hx)) (.nil 1)))).tup
  exact (CmpAll.tup (.cons (c1.mono (by omega)) (.cons c2 (.cons (c3.mono (by omega)) (.cons (c4.mono (by omega)) (.nil 5)))))).mono (by omega)
theorem lc_map {α : Type} {g : Dt → En → Option En} {tt : En → Option Bool} {te : En → Option Dt} {A : En} {f h : α → Dt} : ∀ (xs : List α), (∀ x ∈ xs, ∃ A1, g (f x) A = some A1 ∧ tt A1 = some true ∧ te A1 = some (h x)) → lcD g tt te A (xs.map f) = some (xs.map h)
  | [], _ => rfl
  | x :: xs, q => by
    obtain ⟨A1, e1, e2, e3⟩ := q x List.mem_cons_self
    have ih := lc_map xs fun y hy => q y (List.mem_cons_of_mem _ hy)
    simp only [List.map_cons, lcD, e1, e2, e3, ih, Option.bind_some, Option.map_some, if_true, List.cons_append, List.nil_append]
/-- a comprehension over a part of a model -/
theorem nlc_map {α : Type} {vs : List Nat} {it : En → Option (List Dt)} {g : Dt → En → Option En} {te : En → Option Dt} {A : En} {f h : α → Dt} {xs : List α} (hi : it A = some (xs.map f)) (hl : xs.length ≤ 1000)
    (q : ∀ x ∈ xs, ∃ A1, g (f x) (wipeA A vs) = some A1 ∧ te A1 = some (h x)) : nE (nLc vs it g (fun _ => some true) te) A = some (.list (xs.map h)) := by
  have hz : (xs.map f).length ≤ sizeLine := szl (by rw [List.length_map]; omega)
  have e : lcD g (fun _ => some true) te (wipeA A vs) (xs.map f) = some (xs.map h) := lc_map xs fun x hx => by
    obtain ⟨A1, e1, e2⟩ := q x hx
    exact ⟨A1, e1, rfl, e2⟩
  simp only [nE, nLc, hi, Option.bind_some, if_pos hz, e, Option.map_some]
theorem tup_map {α : Type} {vs : List Nat} {it : En → Option (List Dt)} {g : Dt → En → Option En} {te : En → Option Dt} {A : En} {f h : α → Dt} {xs : List α} (hi : it A = some (xs.map f)) (hl : xs.length ≤ 1000)
    (q : ∀ x ∈ xs, ∃ A1, g (f x) (wipeA A vs) = some A1 ∧ te A1 = some (h x)) : eCB tupD (aCons (nE (nLc vs it g (fun _ => some true) te)) aNil) A = some (.tuple (xs.map h)) := by
  have e := nlc_map hi hl q
  simp only [eCB, aCons, aNil, e, Option.bind_some, tupL]
/-! ### models moved and stretched -/
def shP (d : Int) (p : PsT) : PsT := (p.1, p.2.1 + d, p.2.2 + d)
def shJ (d : Int) (j : JbT) : JbT := (j.1 + d, j.2)
def stP (d : Int) (p : PsT) : PsT := (p.1, p.2.1 * d, p.2.2 * d)
def stJ (d : Int) (j : JbT) : JbT := (j.1 * d, j.2)
def stY (d : Int) (y : Str × Int) : Str × Int := (y.1, y.2 * d)
def stK (d : Int) (r : KdT) : KdT := (r.1, r.2.1, r.2.2.map (stY d))
structure LenM (R : List KdT) (P : List PsT) (J : List JbT) : Prop where
  r : R.length ≤ 1000
  p : P.length ≤ 1000
  j : J.length ≤ 1000
  y : ∀ x ∈ R, x.2.2.length ≤ 1000
structure SmM (R : List KdT) (P : List PsT) (J : List JbT) : Prop where
  y : ∀ x ∈ R, ∀ y ∈ x.2.2, y.2.natAbs < 2 ^ 64
  p : ∀ x ∈ P, x.2.1.natAbs < 2 ^ 64 ∧ x.2.2.natAbs < 2 ^ 64
  j : ∀ x ∈ J, x.1.natAbs < 2 ^ 64
theorem GoodM.len {S : List StT} {R : List KdT} {P : List PsT} {J : List JbT} (g : GoodM S R P J) : LenM R P J := ⟨by have := g.rl; omega, by have := g.pl; omega, by have := g.jl; omega, fun x hx => by have := (g.r4 x hx).1; omega⟩
theorem GoodM.sm' {S : List StT} {R : List KdT} {P : List PsT} {J : List JbT} (g : GoodM S R P J) : SmM R P J := ⟨fun x hx y hy => by have := ((g.rg x hx).2.2.2.2 y hy).2; omega, fun x hx => by have := (g.pg x hx).2; omega, fun x hx => by have := (g.jg x hx).2; omega⟩
theorem LenM.sh {R : List KdT} {P : List PsT} {J : List JbT} (l : LenM R P J) (d : Int) : LenM R (P.map (shP d)) (J.map (shJ d)) := ⟨l.r, by rw [List.length_map]; exact l.p, by rw [List.length_map]; exact l.j, l.y⟩
/-- four parts as a model -/
theorem tup4 (a b c d : Dt) (A : En) {ta tb tc td : En → Option Dt} (ha : ta A = some a) (hb : tb A = some b) (hc : tc A = some c) (hd : td A = some d) : eTup (aCons ta (aCons tb (aCons tc (aCons td aNil)))) A = some (.tuple [a, b, c, d]) := by
  simp only [eTup, aCons, aNil, ha, hb, hc, hd, Option.bind_some, Option.map_some, List.length_cons, List.length_nil, Nat.reduceAdd, Nat.zero_add, sz4, if_true]
theorem shifted_eq (S : List StT) (R : List KdT) (P : List PsT) (J : List JbT) (l : LenM R P J) (d : Int) : sem_shifted [encM S R P J, .int d] = some (encM S R (P.map (shP d)) (J.map (shJ d))) := by
  unfold sem_shifted
  refine (semF_eq (m := 2) rfl).trans ?_
  show outD (run_shifted [.d (encM S R P J), .d (.int d), .no, .no, .no, .no, .no, .no, .no, .no, .no]) = _
  unfold run_shifted
  have e1 : sAsg (eVar 0) (hTup 4 (hCons (hName 2) (hCons (hName 3) (hCons (hName 4) (hCons (hName 5) hNil))))) [.d (encM S R P J), .d (.int d), .no, .no, .no, .no, .no, .no, .no, .no, .no] = some (.nx [.d (encM S R P J), .d (.int d), .d (.tuple (S.map encSt)), .d (.tuple (R.map encKd)), .d (.tuple (P.map encPs)), .d (.tuple (J.map encJb)), .no, .no, .no, .no, .no]) := rfl
  have t1 : eCB tupD (aCons (nE (nLc [6, 7, 8] (eIt (eVar 4)) (hTup 3 (hCons (hName 6) (hCons (hName 7) (hCons (hName 8) hNil)))) (fun _ => some true) (eTup (aCons (eVar 6) (aCons (eOp addD (bVar 7) (bVar 1)) (aCons (eOp addD (bVar 8) (bVar 1)) aNil)))))) aNil) [.d (encM S R P J), .d (.int d), .d (.tuple (S.map encSt)), .d (.tuple (R.map encKd)), .d (.tuple (P.map encPs)), .d (.tuple (J.map encJb)), .no, .no, .no, .no, .no] = some (.tuple (P.map fun p => encPs (shP d p))) :=
    tup_map rfl l.p fun x hx => ⟨_, rfl, rfl⟩
  have t2 : eCB tupD (aCons (nE (nLc [9, 10] (eIt (eVar 5)) (hTup 2 (hCons (hName 9) (hCons (hName 10) hNil))) (fun _ => some true) (eTup (aCons (eOp addD (bVar 9) (bVar 1)) (aCons (eVar 10) aNil))))) aNil) [.d (encM S R P J), .d (.int d), .d (.tuple (S.map encSt)), .d (.tuple (R.map encKd)), .d (.tuple (P.map encPs)), .d (.tuple (J.map encJb)), .no, .no, .no, .no, .no] = some (.tuple (J.map fun p => encJb (shJ d p))) :=
    tup_map rfl l.j fun x hx => ⟨_, rfl, rfl⟩
  refine (out_nx e1).trans ?_
  show outD ((eTup _ _).map Out.rt) = _
  rw [tup4 _ _ _ _ _ rfl rfl t1 t2]
  simp only [encM, List.map_map, Function.comp_def]
  rfl
theorem stroute_eq (T : List (Str × Int)) (d : Int) (hl : T.length ≤ 1000) (hd : d.natAbs < 2 ^ 64) (ht : ∀ y ∈ T, y.2.natAbs < 2 ^ 64) : sem__stretched_route [.tuple (T.map encStep), .int d] = some (.tuple ((T.map (stY d)).map encStep)) := by
  unfold sem__stretched_route
  refine (semF_eq (m := 2) rfl).trans ?_
  show outD (run__stretched_route [.d (.tuple (T.map encStep)), .d (.int d), .no, .no]) = _
  unfold run__stretched_route
  have t1 : eCB tupD (aCons (nE (nLc [2, 3] (eIt (eVar 0)) (hTup 2 (hCons (hName 2) (hCons (hName 3) hNil))) (fun _ => some true) (eTup (aCons (eVar 2) (aCons (eOp mulD (bVar 3) (bVar 1)) aNil))))) aNil) [.d (.tuple (T.map encStep)), .d (.int d), .no, .no] = some (.tuple (T.map fun p => encStep (stY d p))) :=
    tup_map rfl hl fun x hx => ⟨[.d (.tuple (T.map encStep)), .d (.int d), .d (.str x.1), .d (.int x.2)], rfl, by
      have m := mulD_small (ht x hx) hd
      simp only [eTup, aCons, aNil, eVar, eOp, bVar, List.getElem?_cons_zero, List.getElem?_cons_succ, Option.bind_some, m, Option.map_some, List.length_cons, List.length_nil, Nat.reduceAdd, Nat.zero_add, sz2, if_true]
      rfl⟩
  simp only [sRet, t1, Option.map_some, outD, List.map_map, Function.comp_def]
theorem stretched_eq (S : List StT) (R : List KdT) (P : List PsT) (J : List JbT) (l : LenM R P J) (q : SmM R P J) (d : Int) (hd : d.natAbs < 2 ^ 64) : sem_stretched [encM S R P J, .int d] = some (encM S (R.map (stK d)) (P.map (stP d)) (J.map (stJ d))) := by
  unfold sem_stretched
  refine (semF_eq (m := 2) rfl).trans ?_
  show outD (run_stretched [.d (encM S R P J), .d (.int d), .no, .no, .no, .no, .no, .no, .no, .no, .no, .no, .no]) = _
  unfold run_stretched
  have e1 : sAsg (eVar 0) (hTup 4 (hCons (hName 2) (hCons (hName 3) (hCons (hName 4) (hCons (hName 5) hNil))))) [.d (encM S R P J), .d (.int d), .no, .no, .no, .no, .no, .no, .no, .no, .no, .no, .no] = some (.nx [.d (encM S R P J), .d (.int d), .d (.tuple (S.map encSt)), .d (.tuple (R.map encKd)), .d (.tuple (P.map encPs)), .d (.tuple (J.map encJb)), .no, .no, .no, .no, .no, .no, .no]) := rfl
  have t0 : eCB tupD (aCons (nE (nLc [6, 7, 8] (eIt (eVar 3)) (hTup 3 (hCons (hName 6) (hCons (hName 7) (hCons (hName 8) hNil)))) (fun _ => some true) (eTup (aCons (eVar 6) (aCons (eVar 7) (aCons (eCB sem__stretched_route (aCons (eVar 8) (aCons (eVar 1) aNil))) aNil)))))) aNil) [.d (encM S R P J), .d (.int d), .d (.tuple (S.map encSt)), .d (.tuple (R.map encKd)), .d (.tuple (P.map encPs)), .d (.tuple (J.map encJb)), .no, .no, .no, .no, .no, .no, .no] = some (.tuple (R.map fun p => encKd (stK d p))) :=
    tup_map rfl l.r fun x hx => ⟨[.d (encM S R P J), .d (.int d), .d (.tuple (S.map encSt)), .d (.tuple (R.map encKd)), .d (.tuple (P.map encPs)), .d (.tuple (J.map encJb)), .d (.str x.1), .d (.int x.2.1), .d (.tuple (x.2.2.map encStep)), .no, .no, .no, .no], rfl, by
      have m := stroute_eq x.2.2 d (l.y x hx) hd (q.y x hx)
      simp only [eTup, aCons, aNil, eVar, eCB, eOp, bVar, List.getElem?_cons_zero, List.getElem?_cons_succ, Option.bind_some, m, Option.map_some]
      rfl⟩
  have t1 : eCB tupD (aCons (nE (nLc [6, 9, 10] (eIt (eVar 4)) (hTup 3 (hCons (hName 6) (hCons (hName 9) (hCons (hName 10) hNil)))) (fun _ => some true) (eTup (aCons (eVar 6) (aCons (eOp mulD (bVar 9) (bVar 1)) (aCons (eOp mulD (bVar 10) (bVar 1)) aNil)))))) aNil) [.d (encM S R P J), .d (.int d), .d (.tuple (S.map encSt)), .d (.tuple (R.map encKd)), .d (.tuple (P.map encPs)), .d (.tuple (J.map encJb)), .no, .no, .no, .no, .no, .no, .no] = some (.tuple (P.map fun p => encPs (stP d p))) :=
    tup_map rfl l.p fun x hx => ⟨[.d (encM S R P J), .d (.int d), .d (.tuple (S.map encSt)), .d (.tuple (R.map encKd)), .d (.tuple (P.map encPs)), .d (.tuple (J.map encJb)), .d (.str x.1), .no, .no, .d (.int x.2.1), .d (.int x.2.2), .no, .no], rfl, by
      have m1 := mulD_small (q.p x hx).1 hd
      have m2 := mulD_small (q.p x hx).2 hd
      simp only [eTup, aCons, aNil, eVar, eCB, eOp, bVar, List.getElem?_cons_zero, List.getElem?_cons_succ, Option.bind_some, m1, m2, Option.map_some]
      rfl⟩
  have t2 : eCB tupD (aCons (nE (nLc [11, 12] (eIt (eVar 5)) (hTup 2 (hCons (hName 11) (hCons (hName 12) hNil))) (fun _ => some true) (eTup (aCons (eOp mulD (bVar 11) (bVar 1)) (aCons (eVar 12) aNil))))) aNil) [.d (encM S R P J), .d (.int d), .d (.tuple (S.map encSt)), .d (.tuple (R.map encKd)), .d (.tuple (P.map encPs)), .d (.tuple (J.map encJb)), .no, .no, .no, .no, .no, .no, .no] = some (.tuple (J.map fun p => encJb (stJ d p))) :=
    tup_map rfl l.j fun x hx => ⟨[.d (encM S R P J), .d (.int d), .d (.tuple (S.map encSt)), .d (.tuple (R.map encKd)), .d (.tuple (P.map encPs)), .d (.tuple (J.map encJb)), .no, .no, .no, .no, .no, .d (.int x.1), .d (.str x.2)], rfl, by
      have m1 := mulD_small (q.j x hx) hd
      simp only [eTup, aCons, aNil, eVar, eCB, eOp, bVar, List.getElem?_cons_zero, List.getElem?_cons_succ, Option.bind_some, m1, Option.map_some]
      rfl⟩
  refine (out_nx e1).trans ?_
  show outD ((eTup _ _).map Out.rt) = _
  rw [tup4 _ _ _ _ _ rfl t0 t1 t2]
  simp only [encM, List.map_map, Function.comp_def]
  rfl
end K07

namespace K07
open PySem PySem.Spec PyProof.Rows Dv
open L2 hiding Dp DpAll
variable [Tb]
/-! ### the common unit -/
theorem lc2_map {α : Type} {g : Dt → En → Option En} {it1 : En → Option (List Dt)} {vs1 : List Nat} {g1 : Dt → En → Option En} {te : En → Option Dt} {A : En} {f : α → Dt} {h : α → List Dt} : ∀ (xs : List α), (∀ x ∈ xs, ∃ A1 ys, g (f x) A = some A1 ∧ it1 A1 = some ys ∧ lcD g1 (fun _ => some true) te (wipeA A1 vs1) ys = some (h x)) → lc2D g (fun _ => some true) it1 vs1 g1 (fun _ => some true) te A (xs.map f) = some (xs.flatMap h)
  | [], _ => rfl
  | x :: xs, q => by
    obtain ⟨A1, ys, e1, e2, e3⟩ := q x List.mem_cons_self
    have ih := lc2_map xs fun y hy => q y (List.mem_cons_of_mem _ hy)
    simp only [List.map_cons, lc2D, e1, e2, e3, ih, Option.bind_some, if_true, List.flatMap_cons]
def nR (R : List KdT) : List Int := R.flatMap fun r => r.2.2.map (·.2)
def nP (P : List PsT) : List Int := P.flatMap fun p => [p.2.1, p.2.2]
def nJ (J : List JbT) : List Int := J.map (·.1)
theorem nR_len {R : List KdT} (h : ∀ x ∈ R, x.2.2.length ≤ 1000) : (nR R).length ≤ R.length * 1000 := by
  induction R with
  | nil => simp [nR]
  | cons r R ih =>
    have := ih fun x hx => h x (List.mem_cons_of_mem _ hx)
    have := h r List.mem_cons_self
    simp only [nR, List.flatMap_cons, List.length_append, List.length_map, List.length_cons] at *
    omega
theorem nP_len (P : List PsT) : (nP P).length = P.length * 2 := by
  induction P with
  | nil => rfl
  | cons r R ih =>
    simp only [nP, List.flatMap_cons, List.length_append, List.length_cons, List.length_nil] at *
    omega
def gc (a : Nat) (l : List Int) : Nat := l.foldl (fun u x => Nat.gcd u x.natAbs) a
theorem gc_gcd : ∀ (l : List Int) (a : Nat), gc a l = Nat.gcd a (gc 0 l)
  | [], a => (Nat.gcd_zero_right a).symm
  | x :: l, a => by
    show gc (Nat.gcd a x.natAbs) l = Nat.gcd a (gc (Nat.gcd 0 x.natAbs) l)
    rw [gc_gcd l (Nat.gcd a x.natAbs), gc_gcd l (Nat.gcd 0 x.natAbs), Nat.gcd_zero_left, Nat.gcd_assoc]
theorem gc_app (l m : List Int) (a : Nat) : gc a (l ++ m) = gc (gc a l) m := List.foldl_append
theorem gc_swap (a b c : List Int) : gc 0 (a ++ b ++ c) = gc 0 (c ++ b ++ a) := by
  rw [gc_app, gc_app, gc_app, gc_app, gc_gcd c, gc_gcd b, gc_gcd a (gc (gc 0 c) b), gc_gcd b (gc 0 c), Nat.gcd_comm, Nat.gcd_comm (gc 0 a), ← Nat.gcd_assoc]
theorem gc_le {B : Nat} : ∀ (l : List Int) (a : Nat), a ≤ B → (∀ x ∈ l, x.natAbs ≤ B) → gc a l ≤ B
  | [], a, h, _ => h
  | x :: l, a, h, q => by
    refine gc_le l _ ?_ fun y hy => q y (List.mem_cons_of_mem _ hy)
    show Nat.gcd a x.natAbs ≤ B
    by_cases hx : x.natAbs = 0
    · rw [hx, Nat.gcd_zero_right]; exact h
    · exact Nat.le_trans (Nat.gcd_le_right _ (by omega)) (q x List.mem_cons_self)
theorem max_gc (u : Nat) : max2D [.int (u : Int), .int 1] = max2D [.int 1, .int (u : Int)] := by
  have h1 : max2D [.int (u : Int), .int 1] = some (.int (if (1 : Int) > u then 1 else u)) := rfl
  have h2 : max2D [.int 1, .int (u : Int)] = some (.int (if (u : Int) > 1 then u else 1)) := rfl
  rw [h1, h2]
  by_cases a : (1 : Int) > u
  · rw [if_pos a, if_neg (by omega)]
  · rw [if_neg a]
    by_cases b : (u : Int) > 1
    · rw [if_pos b]
    · rw [if_neg b, show (u : Int) = 1 by omega]
theorem forD_cons {g : Dt → En → Option En} {body : En → Option Out} {x : Dt} {xs : List Dt} {A A1 A2 : En} (h1 : g x A = some A1) (h2 : body A1 = some (.nx A2)) : forD g body (x :: xs) A = forD g body xs A2 := by
  simp only [forD, h1, h2, Option.bind_some]
theorem gcd_loop (x0 x1 x2 x3 x4 x5 x8 x9 x10 x11 x12 : Sl) : ∀ (l : List Int) (u : Nat) (x7 : Sl), ∃ y7, forD (hName 7) bd_common_unit_1 (l.map .int) [x0, x1, x2, x3, x4, x5, .d (.int (u : Int)), x7, x8, x9, x10, x11, x12] = some (.nx [x0, x1, x2, x3, x4, x5, .d (.int (gc u l : Nat)), y7, x8, x9, x10, x11, x12])
  | [], u, x7 => ⟨x7, rfl⟩
  | x :: l, u, x7 => by
    obtain ⟨y7, e⟩ := gcd_loop x0 x1 x2 x3 x4 x5 x8 x9 x10 x11 x12 l (Nat.gcd u x.natAbs) (.d (.int x))
    refine ⟨y7, ?_⟩
    have b : bd_common_unit_1 [x0, x1, x2, x3, x4, x5, .d (.int (u : Int)), .d (.int x), x8, x9, x10, x11, x12] = some (.nx [x0, x1, x2, x3, x4, x5, .d (.int (Nat.gcd u x.natAbs : Nat)), .d (.int x), x8, x9, x10, x11, x12]) := by
      unfold bd_common_unit_1
      simp only [sSet, eCB, aCons, aNil, bVar, List.getElem?_cons_zero, List.getElem?_cons_succ, Option.bind_some, gcdD, Int.natAbs_natCast, Option.map_some, List.set_cons_zero, List.set_cons_succ]
    exact (forD_cons (by rfl) b).trans e
theorem ints_flat {α : Type} (f : α → List Int) (l : List α) : (l.flatMap f).map PyData.int = l.flatMap fun x => (f x).map PyData.int := by
  rw [List.map_flatMap]
theorem cu_eq (S : List StT) (R : List KdT) (P : List PsT) (J : List JbT) (l : LenM R P J) : sem_common_unit [encM S R P J] = max2D [.int (gc 0 (nR R ++ nP P ++ nJ J) : Nat), .int 1] := by
  unfold sem_common_unit
  refine (semF_eq (m := 1) rfl).trans ?_
  show outD (run_common_unit [.d (encM S R P J), .no, .no, .no, .no, .no, .no, .no, .no, .no, .no, .no, .no]) = _
  unfold run_common_unit
  have l1 : (nR R).length ≤ 1000000 := by have := nR_len l.y; have := l.r; omega
  have l2 : (nP P).length ≤ 2000 := by have := nP_len P; have := l.p; omega
  have l3 : (nJ J).length ≤ 1000 := by have := l.j; simpa [nJ] using this
  have e1 : sAsg (eVar 0) (hTup 4 (hCons (hName 1) (hCons (hName 2) (hCons (hName 3) (hCons (hName 4) hNil))))) [.d (encM S R P J), .no, .no, .no, .no, .no, .no, .no, .no, .no, .no, .no, .no] = some (.nx [.d (encM S R P J), .d (.tuple (S.map encSt)), .d (.tuple (R.map encKd)), .d (.tuple (P.map encPs)), .d (.tuple (J.map encJb)), .no, .no, .no, .no, .no, .no, .no, .no]) := rfl
  refine (out_nx e1).trans ?_
  have c1 : nLc2 [1, 8, 9] [1, 9] (eIt (eVar 2)) (hTup 3 (hCons (hName 1) (hCons (hName 1) (hCons (hName 8) hNil)))) (fun _ => some true) (eIt (eVar 8)) (hTup 2 (hCons (hName 1) (hCons (hName 9) hNil))) (fun _ => some true) (eVar 9) [.d (encM S R P J), .d (.tuple (S.map encSt)), .d (.tuple (R.map encKd)), .d (.tuple (P.map encPs)), .d (.tuple (J.map encJb)), .no, .no, .no, .no, .no, .no, .no, .no] = some ((nR R).map .int) := by
    have q := lc2_map (g := hTup 3 (hCons (hName 1) (hCons (hName 1) (hCons (hName 8) hNil)))) (it1 := eIt (eVar 8)) (vs1 := [1, 9]) (g1 := hTup 2 (hCons (hName 1) (hCons (hName 9) hNil))) (te := eVar 9) (A := [.d (encM S R P J), .no, .d (.tuple (R.map encKd)), .d (.tuple (P.map encPs)), .d (.tuple (J.map encJb)), .no, .no, .no, .no, .no, .no, .no, .no]) (f := encKd) (h := fun r => (r.2.2.map (·.2)).map PyData.int) R fun x hx => ⟨[.d (encM S R P J), .d (.int x.2.1), .d (.tuple (R.map encKd)), .d (.tuple (P.map encPs)), .d (.tuple (J.map encJb)), .no, .no, .no, .d (.tuple (x.2.2.map encStep)), .no, .no, .no, .no], x.2.2.map encStep, rfl, rfl, by
      rw [List.map_map]
      exact lc_map x.2.2 fun y hy => ⟨_, rfl, rfl, rfl⟩⟩
    have hi : eIt (eVar 2) [.d (encM S R P J), .d (.tuple (S.map encSt)), .d (.tuple (R.map encKd)), .d (.tuple (P.map encPs)), .d (.tuple (J.map encJb)), .no, .no, .no, .no, .no, .no, .no, .no] = some (R.map encKd) := rfl
    rw [← ints_flat] at q
    have hw : wipeA [.d (encM S R P J), .d (.tuple (S.map encSt)), .d (.tuple (R.map encKd)), .d (.tuple (P.map encPs)), .d (.tuple (J.map encJb)), .no, .no, .no, .no, .no, .no, .no, .no] [1, 8, 9] = [.d (encM S R P J), .no, .d (.tuple (R.map encKd)), .d (.tuple (P.map encPs)), .d (.tuple (J.map encJb)), .no, .no, .no, .no, .no, .no, .no, .no] := rfl
    simp only [nLc2, hi, Option.bind_some, hw, q]
    rw [if_pos (szl (by rw [List.length_map]; show (nR R).length ≤ _; omega))]
    rfl
  have e2 : sSetO 5 (nLc2 [1, 8, 9] [1, 9] (eIt (eVar 2)) (hTup 3 (hCons (hName 1) (hCons (hName 1) (hCons (hName 8) hNil)))) (fun _ => some true) (eIt (eVar 8)) (hTup 2 (hCons (hName 1) (hCons (hName 9) hNil))) (fun _ => some true) (eVar 9)) [.d (encM S R P J), .d (.tuple (S.map encSt)), .d (.tuple (R.map encKd)), .d (.tuple (P.map encPs)), .d (.tuple (J.map encJb)), .no, .no, .no, .no, .no, .no, .no, .no] = some (.nx [.d (encM S R P J), .d (.tuple (S.map encSt)), .d (.tuple (R.map encKd)), .d (.tuple (P.map encPs)), .d (.tuple (J.map encJb)), .ol ((nR R).map .int), .no, .no, .no, .no, .no, .no, .no]) := by
    simp only [sSetO, c1, Option.map_some, List.set_cons_zero, List.set_cons_succ]
  refine (out_nx e2).trans ?_
  clear e1 e2 c1
  have c2 : nLc2 [1, 10, 11, 12] [12] (eIt (eVar 3)) (hTup 3 (hCons (hName 1) (hCons (hName 10) (hCons (hName 11) hNil)))) (fun _ => some true) (eIt (eTup (aCons (eVar 10) (aCons (eVar 11) aNil)))) (hName 12) (fun _ => some true) (eVar 12) [.d (encM S R P J), .d (.tuple (S.map encSt)), .d (.tuple (R.map encKd)), .d (.tuple (P.map encPs)), .d (.tuple (J.map encJb)), .ol ((nR R).map .int), .no, .no, .no, .no, .no, .no, .no] = some ((nP P).map .int) := by
    have q := lc2_map (g := hTup 3 (hCons (hName 1) (hCons (hName 10) (hCons (hName 11) hNil)))) (it1 := eIt (eTup (aCons (eVar 10) (aCons (eVar 11) aNil)))) (vs1 := [12]) (g1 := hName 12) (te := eVar 12) (A := [.d (encM S R P J), .no, .d (.tuple (R.map encKd)), .d (.tuple (P.map encPs)), .d (.tuple (J.map encJb)), .ol ((nR R).map .int), .no, .no, .no, .no, .no, .no, .no]) (f := encPs) (h := fun p => [p.2.1, p.2.2].map PyData.int) P fun x hx => ⟨[.d (encM S R P J), .d (.str x.1), .d (.tuple (R.map encKd)), .d (.tuple (P.map encPs)), .d (.tuple (J.map encJb)), .ol ((nR R).map .int), .no, .no, .no, .no, .d (.int x.2.1), .d (.int x.2.2), .no], [.int x.2.1, .int x.2.2], rfl, by
      simp only [eIt, eTup, aCons, aNil, eVar, List.getElem?_cons_zero, List.getElem?_cons_succ, Option.bind_some, Option.map_some, List.length_cons, List.length_nil, Nat.reduceAdd, Nat.zero_add, sz2, if_true, itD], rfl⟩
    have hi : eIt (eVar 3) [.d (encM S R P J), .d (.tuple (S.map encSt)), .d (.tuple (R.map encKd)), .d (.tuple (P.map encPs)), .d (.tuple (J.map encJb)), .ol ((nR R).map .int), .no, .no, .no, .no, .no, .no, .no] = some (P.map encPs) := rfl
    rw [← ints_flat] at q
    have hw : wipeA [.d (encM S R P J), .d (.tuple (S.map encSt)), .d (.tuple (R.map encKd)), .d (.tuple (P.map encPs)), .d (.tuple (J.map encJb)), .ol ((nR R).map .int), .no, .no, .no, .no, .no, .no, .no] [1, 10, 11, 12] = [.d (encM S R P J), .no, .d (.tuple (R.map encKd)), .d (.tuple (P.map encPs)), .d (.tuple (J.map encJb)), .ol ((nR R).map .int), .no, .no, .no, .no, .no, .no, .no] := rfl
    simp only [nLc2, hi, Option.bind_some, hw, q]
    rw [if_pos (szl (by rw [List.length_map]; show (nP P).length ≤ _; omega))]
    rfl
  refine (out_nx (f := sExt 5 _) (A' := [.d (encM S R P J), .d (.tuple (S.map encSt)), .d (.tuple (R.map encKd)), .d (.tuple (P.map encPs)), .d (.tuple (J.map encJb)), .ol ((nR R ++ nP P).map .int), .no, .no, .no, .no, .no, .no, .no]) (by
    simp only [sExt, List.getElem?_cons_zero, List.getElem?_cons_succ, c2, Option.bind_some]
    rw [if_pos (szl (by rw [List.length_map, List.length_map]; omega)), List.map_append]
    rfl)).trans ?_
  clear c2
  have c3 : nLc [12, 1] (eIt (eVar 4)) (hTup 2 (hCons (hName 12) (hCons (hName 1) hNil))) (fun _ => some true) (eVar 12) [.d (encM S R P J), .d (.tuple (S.map encSt)), .d (.tuple (R.map encKd)), .d (.tuple (P.map encPs)), .d (.tuple (J.map encJb)), .ol ((nR R ++ nP P).map .int), .no, .no, .no, .no, .no, .no, .no] = some ((nJ J).map .int) := by
    have hi : eIt (eVar 4) [.d (encM S R P J), .d (.tuple (S.map encSt)), .d (.tuple (R.map encKd)), .d (.tuple (P.map encPs)), .d (.tuple (J.map encJb)), .ol ((nR R ++ nP P).map .int), .no, .no, .no, .no, .no, .no, .no] = some (J.map encJb) := rfl
    simp only [nLc, hi, Option.bind_some]
    rw [if_pos (szl (by rw [List.length_map]; have := l.j; omega))]
    rw [show (nJ J).map PyData.int = J.map fun j => PyData.int j.1 by simp [nJ, Function.comp_def]]
    exact lc_map J fun y hy => ⟨_, rfl, rfl, rfl⟩
  refine (out_nx (f := sExt 5 _) (A' := [.d (encM S R P J), .d (.tuple (S.map encSt)), .d (.tuple (R.map encKd)), .d (.tuple (P.map encPs)), .d (.tuple (J.map encJb)), .ol ((nR R ++ nP P ++ nJ J).map .int), .no, .no, .no, .no, .no, .no, .no]) (by
    simp only [sExt, List.getElem?_cons_zero, List.getElem?_cons_succ, c3, Option.bind_some]
    rw [if_pos (szl (by rw [List.length_map, List.length_map, List.length_append]; omega)), List.map_append (l₁ := nR R ++ nP P)]
    rfl)).trans ?_
  clear c3
  refine (out_nx (f := sSet 6 _) (A' := [.d (encM S R P J), .d (.tuple (S.map encSt)), .d (.tuple (R.map encKd)), .d (.tuple (P.map encPs)), .d (.tuple (J.map encJb)), .ol ((nR R ++ nP P ++ nJ J).map .int), .d (.int ((0 : Nat) : Int)), .no, .no, .no, .no, .no, .no]) rfl).trans ?_
  obtain ⟨y7, e⟩ := gcd_loop (.d (encM S R P J)) (.d (.tuple (S.map encSt))) (.d (.tuple (R.map encKd))) (.d (.tuple (P.map encPs))) (.d (.tuple (J.map encJb))) (.d (.list ((nR R ++ nP P ++ nJ J).map .int))) .no .no .no .no .no (nR R ++ nP P ++ nJ J) 0 .no
  have e5 : sFrz [5] (sFor (eIt (eVar 5)) (hName 7) bd_common_unit_1) [.d (encM S R P J), .d (.tuple (S.map encSt)), .d (.tuple (R.map encKd)), .d (.tuple (P.map encPs)), .d (.tuple (J.map encJb)), .ol ((nR R ++ nP P ++ nJ J).map .int), .d (.int ((0 : Nat) : Int)), .no, .no, .no, .no, .no, .no] = some (.nx [.d (encM S R P J), .d (.tuple (S.map encSt)), .d (.tuple (R.map encKd)), .d (.tuple (P.map encPs)), .d (.tuple (J.map encJb)), .d (.list ((nR R ++ nP P ++ nJ J).map .int)), .d (.int (gc 0 (nR R ++ nP P ++ nJ J) : Nat)), y7, .no, .no, .no, .no, .no]) := by
    show sFor (eIt (eVar 5)) (hName 7) bd_common_unit_1 [.d (encM S R P J), .d (.tuple (S.map encSt)), .d (.tuple (R.map encKd)), .d (.tuple (P.map encPs)), .d (.tuple (J.map encJb)), .d (.list ((nR R ++ nP P ++ nJ J).map .int)), .d (.int ((0 : Nat) : Int)), .no, .no, .no, .no, .no, .no] = _
    exact (sFor_eq (xs := (nR R ++ nP P ++ nJ J).map .int) rfl).trans e
  refine (out_nx e5).trans ?_
  simp only [sRet, eCB, aCons, aNil, bVar, eC, List.getElem?_cons_zero, List.getElem?_cons_succ, Option.bind_some]
  rfl
end K07

namespace K07
open PySem PySem.Spec PyProof.Rows Dv
open L2 hiding Dp DpAll
variable [Tb]
theorem neD_int (i j : Int) : neD (.int i) (.int j) = some (.bool (!(i == j))) := by
  unfold neD
  have h : ∀ z : Int, SeqAt.shaped (.int z) = true := fun z => rfl
  rw [if_pos ⟨h i, h j⟩]
  rfl
theorem eu_loop (x0 x1 x2 x3 x4 x5 x6 x7 x8 x9 x10 x11 x12 x15 x16 x17 x18 : Sl) : ∀ (n a b : Nat), b < n → whileD (tOf (eOp neD (bVar 14) (eC (.int 0)))) bd_law_3 n [x0, x1, x2, x3, x4, x5, x6, x7, x8, x9, x10, x11, x12, .d (.int (a : Int)), .d (.int (b : Int)), x15, x16, x17, x18] = some (.nx [x0, x1, x2, x3, x4, x5, x6, x7, x8, x9, x10, x11, x12, .d (.int (Nat.gcd a b : Nat)), .d (.int ((0 : Nat) : Int)), x15, x16, x17, x18])
  | 0, _, _, h => absurd h (Nat.not_lt_zero _)
  | n + 1, a, b, h => by
    have c : tOf (eOp neD (bVar 14) (eC (.int 0))) [x0, x1, x2, x3, x4, x5, x6, x7, x8, x9, x10, x11, x12, .d (.int (a : Int)), .d (.int (b : Int)), x15, x16, x17, x18] = some (!((b : Int) == 0)) := by
      simp only [tOf, eOp, bVar, eC, List.getElem?_cons_zero, List.getElem?_cons_succ, Option.bind_some, neD_int, asB]
    unfold whileD
    rw [c]
    by_cases hb : b = 0
    · subst hb
      rw [Nat.gcd_zero_right]; rfl
    · have hn : (!((b : Int) == 0)) = true := by
        rw [Bool.not_eq_true', beq_eq_false_iff_ne]; omega
      have hm : modD (.int (a : Int)) (.int (b : Int)) = some (.int ((a % b : Nat) : Int)) := by
        rw [modD_pos (by omega)]; rfl
      have e : bd_law_3 [x0, x1, x2, x3, x4, x5, x6, x7, x8, x9, x10, x11, x12, .d (.int (a : Int)), .d (.int (b : Int)), x15, x16, x17, x18] = some (.nx [x0, x1, x2, x3, x4, x5, x6, x7, x8, x9, x10, x11, x12, .d (.int (b : Int)), .d (.int ((a % b : Nat) : Int)), x15, x16, x17, x18]) := by
        unfold bd_law_3
        simp only [sPar, aCons, aNil, eVar, eOp, bVar, List.getElem?_cons_zero, List.getElem?_cons_succ, Option.bind_some, hm, List.set_cons_zero, List.set_cons_succ]
      have lt : a % b < n := Nat.lt_of_lt_of_le (Nat.mod_lt _ (by omega)) (by omega)
      have ih := eu_loop x0 x1 x2 x3 x4 x5 x6 x7 x8 x9 x10 x11 x12 x15 x16 x17 x18 n b (a % b) lt
      rw [Nat.gcd_comm b, ← Nat.gcd_rec, Nat.gcd_comm b] at ih
      rw [hn]
      simp only [Option.bind_some, if_true, e]
      exact ih
theorem part_loop {B : Nat} (hB : B < 100000) (x0 x1 x2 x3 x4 x5 x6 x7 x8 x9 x10 x15 x16 x17 x18 : Sl) : ∀ (l : List Int) (u : Nat) (x12 x13 x14 : Sl), u ≤ B → (∀ x ∈ l, 0 ≤ x ∧ x ≤ B) → ∃ y12 y13 y14, forD (hName 12) bd_law_4 (l.map .int) [x0, x1, x2, x3, x4, x5, x6, x7, x8, x9, x10, .d (.int (u : Int)), x12, x13, x14, x15, x16, x17, x18] = some (.nx [x0, x1, x2, x3, x4, x5, x6, x7, x8, x9, x10, .d (.int (gc u l : Nat)), y12, y13, y14, x15, x16, x17, x18])
  | [], u, x12, x13, x14, _, _ => ⟨x12, x13, x14, rfl⟩
  | x :: l, u, x12, x13, x14, hu, hx => by
    obtain ⟨h0, h1⟩ := hx x List.mem_cons_self
    obtain ⟨p, rfl⟩ : ∃ p : Nat, x = (p : Int) := ⟨x.toNat, (Int.toNat_of_nonneg h0).symm⟩
    have hle : Nat.gcd u p ≤ B := gc_le [(p : Int)] u hu fun y hy => by rw [List.mem_singleton.mp hy]; omega
    obtain ⟨y12, y13, y14, e⟩ := part_loop hB x0 x1 x2 x3 x4 x5 x6 x7 x8 x9 x10 x15 x16 x17 x18 l (Nat.gcd u p) (.d (.int (p : Int))) (.d (.int (Nat.gcd p u : Nat))) (.d (.int ((0 : Nat) : Int))) hle fun y hy => hx y (List.mem_cons_of_mem _ hy)
    refine ⟨y12, y13, y14, ?_⟩
    have w := eu_loop x0 x1 x2 x3 x4 x5 x6 x7 x8 x9 x10 (.d (.int (u : Int))) (.d (.int (p : Int))) x15 x16 x17 x18 100000 p u (by omega)
    have b : bd_law_4 [x0, x1, x2, x3, x4, x5, x6, x7, x8, x9, x10, .d (.int (u : Int)), .d (.int (p : Int)), x13, x14, x15, x16, x17, x18] = some (.nx [x0, x1, x2, x3, x4, x5, x6, x7, x8, x9, x10, .d (.int (Nat.gcd u p : Nat)), .d (.int (p : Int)), .d (.int (Nat.gcd p u : Nat)), .d (.int ((0 : Nat) : Int)), x15, x16, x17, x18]) := by
      unfold bd_law_4
      rw [sSeq_nx (A' := [x0, x1, x2, x3, x4, x5, x6, x7, x8, x9, x10, .d (.int (u : Int)), .d (.int (p : Int)), .d (.int (p : Int)), x14, x15, x16, x17, x18]) rfl, sSeq_nx (A' := [x0, x1, x2, x3, x4, x5, x6, x7, x8, x9, x10, .d (.int (u : Int)), .d (.int (p : Int)), .d (.int (p : Int)), .d (.int (u : Int)), x15, x16, x17, x18]) rfl, sSeq_nx (f := sWhile 100000 _ _) w, Nat.gcd_comm u p]
      rfl
    exact (forD_cons (by rfl) b).trans e
theorem ps_loop (x0 x1 x2 x3 x4 x9 x10 x11 x12 x13 x14 x15 x16 x17 x18 : Sl) : ∀ (P : List PsT) (L : List Int) (x6 x7 x8 : Sl), L.length + P.length * 2 ≤ 1000 → ∃ y6 y7 y8, forD (hTup 3 (hCons (hName 6) (hCons (hName 7) (hCons (hName 8) hNil)))) bd_law_1 (P.map encPs) [x0, x1, x2, x3, x4, .d (.list (L.map .int)), x6, x7, x8, x9, x10, x11, x12, x13, x14, x15, x16, x17, x18] = some (.nx [x0, x1, x2, x3, x4, .d (.list ((L ++ nP P).map .int)), y6, y7, y8, x9, x10, x11, x12, x13, x14, x15, x16, x17, x18])
  | [], L, x6, x7, x8, _ => ⟨x6, x7, x8, by rw [show nP [] = [] from rfl, List.append_nil]; rfl⟩
  | p :: P, L, x6, x7, x8, h => by
    rw [List.length_cons] at h
    obtain ⟨y6, y7, y8, e⟩ := ps_loop x0 x1 x2 x3 x4 x9 x10 x11 x12 x13 x14 x15 x16 x17 x18 P (L ++ [p.2.1, p.2.2]) (.d (.str p.1)) (.d (.int p.2.1)) (.d (.int p.2.2)) (by rw [List.length_append]; simp only [List.length_cons, List.length_nil]; omega)
    refine ⟨y6, y7, y8, ?_⟩
    have h1 : addD (.list (L.map .int)) (.list [.int p.2.1, .int p.2.2]) = some (.list ((L ++ [p.2.1, p.2.2]).map .int)) := by
      rw [addL_ok (by rw [List.length_map]; simp only [List.length_cons, List.length_nil]; omega), List.map_append]; rfl
    have b : bd_law_1 [x0, x1, x2, x3, x4, .d (.list (L.map .int)), .d (.str p.1), .d (.int p.2.1), .d (.int p.2.2), x9, x10, x11, x12, x13, x14, x15, x16, x17, x18] = some (.nx [x0, x1, x2, x3, x4, .d (.list ((L ++ [p.2.1, p.2.2]).map .int)), .d (.str p.1), .d (.int p.2.1), .d (.int p.2.2), x9, x10, x11, x12, x13, x14, x15, x16, x17, x18]) := by
      unfold bd_law_1
      simp only [sSet, eOp, bVar, nE, nLst, aCons, aNil, eVar, List.getElem?_cons_zero, List.getElem?_cons_succ, Option.bind_some, Option.map_some, List.length_cons, List.length_nil, Nat.reduceAdd, Nat.zero_add, sz2, if_true, h1, List.set_cons_zero, List.set_cons_succ]
    have e2 : L ++ [p.2.1, p.2.2] ++ nP P = L ++ nP (p :: P) := by rw [List.append_assoc]; rfl
    rw [e2] at e
    exact (forD_cons (by rfl) b).trans e
theorem kd_loop (x0 x1 x2 x3 x4 x7 x8 x11 x12 x13 x14 x15 x16 x17 x18 : Sl) : ∀ (R : List KdT) (L : List Int) (x6 x9 x10 : Sl), L.length + R.length * 100 ≤ 1000 → (∀ r ∈ R, r.2.2.length ≤ 4) → ∃ y6 y9 y10, forD (hTup 3 (hCons (hName 6) (hCons (hName 9) (hCons (hName 10) hNil)))) bd_law_2 (R.map encKd) [x0, x1, x2, x3, x4, .d (.list (L.map .int)), x6, x7, x8, x9, x10, x11, x12, x13, x14, x15, x16, x17, x18] = some (.nx [x0, x1, x2, x3, x4, .d (.list ((L ++ nR R).map .int)), y6, x7, x8, y9, y10, x11, x12, x13, x14, x15, x16, x17, x18])
  | [], L, x6, x9, x10, _, _ => ⟨x6, x9, x10, by rw [show nR [] = [] from rfl, List.append_nil]; rfl⟩
  | r :: R, L, x6, x9, x10, h, h4 => by
    rw [List.length_cons] at h
    have hr := h4 r List.mem_cons_self
    obtain ⟨y6, y9, y10, e⟩ := kd_loop x0 x1 x2 x3 x4 x7 x8 x11 x12 x13 x14 x15 x16 x17 x18 R (L ++ r.2.2.map (·.2)) (.d (.str r.1)) (.d (.int r.2.1)) (.d (.tuple (r.2.2.map encStep))) (by rw [List.length_append, List.length_map]; omega) fun x hx => h4 x (List.mem_cons_of_mem _ hx)
    refine ⟨y6, y9, y10, ?_⟩
    have h1 : addD (.list (L.map .int)) (.list (r.2.2.map fun y => PyData.int y.2)) = some (.list ((L ++ r.2.2.map (·.2)).map .int)) := by
      rw [addL_ok (by rw [List.length_map, List.length_map]; omega), List.map_append, List.map_map]; rfl
    have q := nlc_map (vs := [17, 18]) (it := eIt (eVar 10)) (g := hTup 2 (hCons (hName 17) (hCons (hName 18) hNil))) (te := eVar 18) (A := [x0, x1, x2, x3, x4, .d (.list (L.map .int)), .d (.str r.1), x7, x8, .d (.int r.2.1), .d (.tuple (r.2.2.map encStep)), x11, x12, x13, x14, x15, x16, x17, x18]) (f := encStep) (h := fun y => .int y.2) (xs := r.2.2) rfl (by omega) fun y hy => ⟨_, rfl, rfl⟩
    have b : bd_law_2 [x0, x1, x2, x3, x4, .d (.list (L.map .int)), .d (.str r.1), x7, x8, .d (.int r.2.1), .d (.tuple (r.2.2.map encStep)), x11, x12, x13, x14, x15, x16, x17, x18] = some (.nx [x0, x1, x2, x3, x4, .d (.list ((L ++ r.2.2.map (·.2)).map .int)), .d (.str r.1), x7, x8, .d (.int r.2.1), .d (.tuple (r.2.2.map encStep)), x11, x12, x13, x14, x15, x16, x17, x18]) := by
      unfold bd_law_2
      simp only [sSet, eOp, bVar, q, List.getElem?_cons_zero, List.getElem?_cons_succ, Option.bind_some, Option.map_some, h1, List.set_cons_zero, List.set_cons_succ]
    have e2 : L ++ r.2.2.map (·.2) ++ nR R = L ++ nR (r :: R) := by rw [List.append_assoc]; rfl
    rw [e2] at e
    exact (forD_cons (by rfl) b).trans e
structure Bd (B : Int) (R : List KdT) (P : List PsT) (J : List JbT) : Prop where
  rl : R.length ≤ 3
  r4 : ∀ x ∈ R, x.2.2.length ≤ 4
  pl : P.length ≤ 3
  jl : J.length ≤ 12
  y : ∀ x ∈ R, ∀ y ∈ x.2.2, 0 ≤ y.2 ∧ y.2 ≤ B
  p : ∀ x ∈ P, (0 ≤ x.2.1 ∧ x.2.1 ≤ B) ∧ 0 ≤ x.2.2 ∧ x.2.2 ≤ B
  j : ∀ x ∈ J, 0 ≤ x.1 ∧ x.1 ≤ B
section
variable {B : Int} {S : List StT} {R : List KdT} {P : List PsT} {J : List JbT}
theorem GoodM.bd (g : GoodM S R P J) : Bd 300 R P J := ⟨g.rl, fun x hx => (g.r4 x hx).1, g.pl, g.jl, fun x hx y hy => by have := ((g.rg x hx).2.2.2.2 y hy).2; omega, fun x hx => by have := (g.pg x hx).2; omega, fun x hx => by have := (g.jg x hx).2; omega⟩
theorem Bd.len (b : Bd B R P J) : LenM R P J := ⟨by have := b.rl; omega, by have := b.pl; omega, by have := b.jl; omega, fun x hx => by have := b.r4 x hx; omega⟩
theorem Bd.sm (b : Bd B R P J) (h : B < 100000) : SmM R P J := ⟨fun x hx y hy => by have := b.y x hx y hy; omega, fun x hx => by have := b.p x hx; omega, fun x hx => by have := b.j x hx; omega⟩
theorem Bd.sh (b : Bd B R P J) {d C : Int} (h0 : 0 ≤ d) (h : B + d ≤ C) : Bd C R (P.map (shP d)) (J.map (shJ d)) :=
  ⟨b.rl, b.r4, by rw [List.length_map]; exact b.pl, by rw [List.length_map]; exact b.jl, fun x hx y hy => by have := b.y x hx y hy; omega, fun x hx => by
    obtain ⟨z, hz, rfl⟩ := List.mem_map.mp hx
    have := b.p z hz
    show (0 ≤ z.2.1 + d ∧ z.2.1 + d ≤ C) ∧ 0 ≤ z.2.2 + d ∧ z.2.2 + d ≤ C
    omega, fun x hx => by
    obtain ⟨z, hz, rfl⟩ := List.mem_map.mp hx
    have := b.j z hz
    show 0 ≤ z.1 + d ∧ z.1 + d ≤ C
    omega⟩
theorem mul_bd {x d B : Int} (h0 : 0 ≤ x) (h1 : x ≤ B) (d0 : 0 ≤ d) (d1 : d ≤ 7) : 0 ≤ x * d ∧ x * d ≤ B * 7 := ⟨Int.mul_nonneg h0 d0, Int.mul_le_mul h1 d1 d0 (by omega)⟩
theorem Bd.st (b : Bd B R P J) {d : Int} (h0 : 0 ≤ d) (h : d ≤ 7) : Bd (B * 7) (R.map (stK d)) (P.map (stP d)) (J.map (stJ d)) :=
  ⟨by rw [List.length_map]; exact b.rl, fun x hx => by
    obtain ⟨z, hz, rfl⟩ := List.mem_map.mp hx
    show (z.2.2.map (stY d)).length ≤ 4
    rw [List.length_map]; exact b.r4 z hz, by rw [List.length_map]; exact b.pl, by rw [List.length_map]; exact b.jl, fun x hx y hy => by
    obtain ⟨z, hz, rfl⟩ := List.mem_map.mp hx
    obtain ⟨u, hu, rfl⟩ := List.mem_map.mp hy
    have := b.y z hz u hu
    exact mul_bd this.1 this.2 h0 h, fun x hx => by
    obtain ⟨z, hz, rfl⟩ := List.mem_map.mp hx
    have := b.p z hz
    exact ⟨mul_bd this.1.1 this.1.2 h0 h, mul_bd this.2.1 this.2.2 h0 h⟩, fun x hx => by
    obtain ⟨z, hz, rfl⟩ := List.mem_map.mp hx
    have := b.j z hz
    exact mul_bd this.1 this.2 h0 h⟩
theorem Bd.all (b : Bd B R P J) : ∀ x ∈ nJ J ++ nP P ++ nR R, 0 ≤ x ∧ x ≤ B := fun x hx => by
  rcases List.mem_append.mp hx with hx | hx
  · rcases List.mem_append.mp hx with hx | hx
    · obtain ⟨z, hz, rfl⟩ := List.mem_map.mp hx
      exact b.j z hz
    · obtain ⟨z, hz, h⟩ := List.mem_flatMap.mp hx
      have q := b.p z hz
      simp only [List.mem_cons, List.not_mem_nil, or_false] at h
      rcases h with rfl | rfl
      · exact q.1
      · exact q.2
  · obtain ⟨z, hz, h⟩ := List.mem_flatMap.mp hx
    obtain ⟨y, hy, rfl⟩ := List.mem_map.mp h
    exact b.y z hz y hy
end
theorem law_one {S : List StT} {R : List KdT} {P : List PsT} {J : List JbT} {B : Nat} (b : Bd B R P J) (hB : B < 100000) (x0 x1 x2 x3 x5 x6 x7 x8 x9 x10 x11 x12 x13 x14 x15 x16 x17 x18 : Sl) :
    ∃ y5 y6 y7 y8 y9 y10 y11 y12 y13 y14, bd_law_5 [x0, x1, x2, x3, .d (encM S R P J), x5, x6, x7, x8, x9, x10, x11, x12, x13, x14, x15, x16, x17, x18] = some (.nx [x0, x1, x2, x3, .d (encM S R P J), y5, y6, y7, y8, y9, y10, y11, y12, y13, y14, x15, x16, x17, x18]) := by
  have hP := b.pl
  have hR := b.rl
  have hJ := b.jl
  have lJ : (nJ J).length = J.length := by simp [nJ]
  have lP := nP_len P
  obtain ⟨y6, y7, y8, e2⟩ := ps_loop x0 x1 x2 x3 (.d (encM S R P J)) x9 x10 x11 x12 x13 x14 x15 x16 x17 x18 P (nJ J) x6 x7 x8 (by omega)
  obtain ⟨z6, y9, y10, e3⟩ := kd_loop x0 x1 x2 x3 (.d (encM S R P J)) y7 y8 x11 x12 x13 x14 x15 x16 x17 x18 R (nJ J ++ nP P) y6 x9 x10 (by rw [List.length_append]; omega) b.r4
  obtain ⟨y12, y13, y14, e4⟩ := part_loop hB x0 x1 x2 x3 (.d (encM S R P J)) (.d (.list ((nJ J ++ nP P ++ nR R).map .int))) z6 y7 y8 y9 y10 x15 x16 x17 x18 (nJ J ++ nP P ++ nR R) 0 x12 x13 x14 (Nat.zero_le _) b.all
  obtain ⟨m, hm⟩ : ∃ m : Int, max2D [.int 1, .int (gc 0 (nJ J ++ nP P ++ nR R) : Nat)] = some (.int m) := ⟨_, rfl⟩
  have hc := cu_eq S R P J b.len
  rw [max_gc, gc_swap, hm] at hc
  refine ⟨.d (.list ((nJ J ++ nP P ++ nR R).map .int)), z6, y7, y8, y9, y10, .d (.int (gc 0 (nJ J ++ nP P ++ nR R) : Nat)), y12, y13, y14, ?_⟩
  unfold bd_law_5
  have e1 : sSet 5 (nE (nLc [15, 16] (eIt (eOp ixD (bVar 4) (eC (.int 3)))) (hTup 2 (hCons (hName 15) (hCons (hName 16) hNil))) (fun _ => some true) (eVar 15))) [x0, x1, x2, x3, .d (encM S R P J), x5, x6, x7, x8, x9, x10, x11, x12, x13, x14, x15, x16, x17, x18] = some (.nx [x0, x1, x2, x3, .d (encM S R P J), .d (.list ((nJ J).map .int)), x6, x7, x8, x9, x10, x11, x12, x13, x14, x15, x16, x17, x18]) := by
    have q := nlc_map (vs := [15, 16]) (it := eIt (eOp ixD (bVar 4) (eC (.int 3)))) (g := hTup 2 (hCons (hName 15) (hCons (hName 16) hNil))) (te := eVar 15) (A := [x0, x1, x2, x3, .d (encM S R P J), x5, x6, x7, x8, x9, x10, x11, x12, x13, x14, x15, x16, x17, x18]) (f := encJb) (h := fun y => .int y.1) (xs := J) rfl (by omega) fun y hy => ⟨_, rfl, rfl⟩
    simp only [sSet, q, Option.map_some, List.set_cons_zero, List.set_cons_succ, nJ, List.map_map, Function.comp_def]
  rw [sSeq_nx e1]
  rw [sSeq_nx ((sFor_eq (it := eIt (eOp ixD (bVar 4) (eC (.int 2)))) (xs := P.map encPs) rfl).trans e2)]
  rw [sSeq_nx ((sFor_eq (it := eIt (eOp ixD (bVar 4) (eC (.int 1)))) (xs := R.map encKd) rfl).trans e3)]
  rw [sSeq_nx (A' := [x0, x1, x2, x3, .d (encM S R P J), .d (.list ((nJ J ++ nP P ++ nR R).map .int)), z6, y7, y8, y9, y10, .d (.int ((0 : Nat) : Int)), x12, x13, x14, x15, x16, x17, x18]) rfl]
  rw [sSeq_nx ((sFor_eq (it := eIt (eVar 5)) (xs := (nJ J ++ nP P ++ nR R).map .int) rfl).trans e4)]
  have hn : neD (.int m) (.int m) = some (.bool false) := by rw [neD_int]; simp
  simp only [sIf, tOf, eOp, eCB, aCons, aNil, eC, eVar, bVar, List.getElem?_cons_zero, List.getElem?_cons_succ, Option.bind_some, hc, hm, hn, asB, Bool.false_eq_true, if_false, sNext]
theorem law_models {ms : List (List StT × List KdT × List PsT × List JbT)} {B : Nat} (hB : B < 100000) (hm : ∀ m ∈ ms, Bd B m.2.1 m.2.2.1 m.2.2.2) (x0 x1 x2 x3 x15 x16 x17 x18 : Sl) : ∀ x4 x5 x6 x7 x8 x9 x10 x11 x12 x13 x14, ∃ y4 y5 y6 y7 y8 y9 y10 y11 y12 y13 y14, forD (hName 4) bd_law_5 (ms.map fun m => encM m.1 m.2.1 m.2.2.1 m.2.2.2) [x0, x1, x2, x3, x4, x5, x6, x7, x8, x9, x10, x11, x12, x13, x14, x15, x16, x17, x18] = some (.nx [x0, x1, x2, x3, y4, y5, y6, y7, y8, y9, y10, y11, y12, y13, y14, x15, x16, x17, x18]) := by
  induction ms with
  | nil => exact fun x4 x5 x6 x7 x8 x9 x10 x11 x12 x13 x14 => ⟨x4, x5, x6, x7, x8, x9, x10, x11, x12, x13, x14, rfl⟩
  | cons m ms ih =>
    intro x4 x5 x6 x7 x8 x9 x10 x11 x12 x13 x14
    obtain ⟨z5, z6, z7, z8, z9, z10, z11, z12, z13, z14, e⟩ := law_one (S := m.1) (hm m List.mem_cons_self) hB x0 x1 x2 x3 x5 x6 x7 x8 x9 x10 x11 x12 x13 x14 x15 x16 x17 x18
    obtain ⟨y4, y5, y6, y7, y8, y9, y10, y11, y12, y13, y14, e2⟩ := ih (fun m' h' => hm m' (List.mem_cons_of_mem _ h')) (.d (encM m.1 m.2.1 m.2.2.1 m.2.2.2)) z5 z6 z7 z8 z9 z10 z11 z12 z13 z14
    exact ⟨y4, y5, y6, y7, y8, y9, y10, y11, y12, y13, y14, (forD_cons (by rfl) e).trans e2⟩
theorem law_body (ns : List Int) {i : Nat} (hi : i < 10) (x2 x3 x4 x5 x6 x7 x8 x9 x10 x11 x12 x13 x14 x15 x16 x17 x18 : Sl) :
    ∃ y2 y3 y4 y5 y6 y7 y8 y9 y10 y11 y12 y13 y14, bd_law_6 [.d (.list (ns.map .int)), .d (.int i), x2, x3, x4, x5, x6, x7, x8, x9, x10, x11, x12, x13, x14, x15, x16, x17, x18] = some (.nx [.d (.list (ns.map .int)), .d (.int i), y2, y3, y4, y5, y6, y7, y8, y9, y10, y11, y12, y13, y14, x15, x16, x17, x18]) := by
  obtain ⟨S, R, P, J, g, hm⟩ := model_eq ns (k := 8 * i) (by omega)
  obtain ⟨ds, okd, hdr⟩ := draw_eq ns (8 * i + 7) [7, 30] (by omega) (by decide) (by decide)
  obtain ⟨d0, e0, a0, b0⟩ := ix_drawI okd 0 (s := 7) rfl (z := 0) rfl
  obtain ⟨d1, f1, a1, b1⟩ := ix_drawI okd 1 (s := 30) rfl (z := 1) rfl
  have c8 : ((8 * i : Nat) : Int) = 8 * (i : Int) := by omega
  have c87 : ((8 * i + 7 : Nat) : Int) = 8 * (i : Int) + 7 := by omega
  rw [c8] at hm
  rw [c87] at hdr
  have m8 : mulD (.int 8) (.int (i : Int)) = some (.int (8 * (i : Int))) := mul_sm 8 i (by omega) (by omega)
  have m3 : mulD (.int 3) (.int d0) = some (.int (3 * d0)) := mulD_small (by decide) (by omega)
  generalize hN : PyData.list (ns.map .int) = N at hm hdr ⊢
  have bg := g.bd
  have b6 := bg.st (d := 6) (by decide) (by decide)
  have b1' := bg.st (d := 1 + d0) (by omega) (by omega)
  have s1 := stretched_eq S R P J bg.len (bg.sm (by decide)) (1 + d0) (by omega)
  have s2 := shifted_eq S R P J bg.len d1
  have s3 := stretched_eq S R P J bg.len (bg.sm (by decide)) 6 (by decide)
  have s4 := shifted_eq S (R.map (stK 6)) (P.map (stP 6)) (J.map (stJ 6)) b6.len (3 * d0)
  have bb : ∀ m ∈ [(S, R, P, J), (S, R.map (stK (1 + d0)), P.map (stP (1 + d0)), J.map (stJ (1 + d0))), (S, R, P.map (shP d1), J.map (shJ d1)), (S, R.map (stK 6), (P.map (stP 6)).map (shP (3 * d0)), (J.map (stJ 6)).map (shJ (3 * d0)))], Bd ((3000 : Nat) : Int) m.2.1 m.2.2.1 m.2.2.2 := fun m hm => by
    simp only [List.mem_cons, List.not_mem_nil, or_false] at hm
    have up : ∀ {B C : Int} {R : List KdT} {P : List PsT} {J : List JbT}, Bd B R P J → B ≤ C → Bd C R P J := fun b h => ⟨b.rl, b.r4, b.pl, b.jl, fun x hx y hy => by have := b.y x hx y hy; omega, fun x hx => by have := b.p x hx; omega, fun x hx => by have := b.j x hx; omega⟩
    rcases hm with rfl | rfl | rfl | rfl
    · exact up bg (by decide)
    · exact up b1' (by decide)
    · exact bg.sh a1 (by omega)
    · exact b6.sh (by omega) (by omega)
  obtain ⟨y4, y5, y6, y7, y8, y9, y10, y11, y12, y13, y14, e⟩ := law_models (by decide) bb (.d N) (.d (.int i)) (.d (.list (ds.map .int))) (.d (encM S R P J)) x15 x16 x17 x18 x4 x5 x6 x7 x8 x9 x10 x11 x12 x13 x14
  refine ⟨.d (.list (ds.map .int)), .d (encM S R P J), y4, y5, y6, y7, y8, y9, y10, y11, y12, y13, y14, ?_⟩
  unfold bd_law_6
  rw [sSeq_nx (A' := [.d N, .d (.int i), .d (.list (ds.map .int)), x3, x4, x5, x6, x7, x8, x9, x10, x11, x12, x13, x14, x15, x16, x17, x18]) (by
    have q : sem__law_draw [N, .int (8 * (i : Int) + 7), .list [.int 7, .int 30]] = some (.list (ds.map .int)) := hdr
    simp only [sSet, eCB, aCons, aNil, eVar, eOp, eC, bVar, nE, nLst, List.getElem?_cons_zero, List.getElem?_cons_succ, Option.bind_some, Option.map_some, m8, addI, List.length_cons, List.length_nil, Nat.reduceAdd, Nat.zero_add, sz2, if_true, q, List.set_cons_zero, List.set_cons_succ])]
  rw [sSeq_nx (A' := [.d N, .d (.int i), .d (.list (ds.map .int)), .d (encM S R P J), x4, x5, x6, x7, x8, x9, x10, x11, x12, x13, x14, x15, x16, x17, x18]) (by
    simp only [sSet, eCB, aCons, aNil, eVar, eOp, eC, bVar, List.getElem?_cons_zero, List.getElem?_cons_succ, Option.bind_some, Option.map_some, m8, hm, List.set_cons_zero, List.set_cons_succ])]
  refine (sFor_eq ?_).trans e
  simp only [eIt, nE, nLst, aCons, aNil, eCB, eVar, eOp, eC, bVar, List.getElem?_cons_zero, List.getElem?_cons_succ, Option.bind_some, Option.map_some, ixL, e0, f1, addI, m3, s1, s2, s3, s4, List.length_cons, List.length_nil, Nat.reduceAdd, Nat.zero_add, sz4, if_true, itD, List.map_cons, List.map_nil]
theorem turns (l : Nat) : ∃ n : Int, min2D [.int 10, .int (if (l : Int) / 8 > 1 then (l : Int) / 8 else 1)] = some (.int n) ∧ 0 ≤ n ∧ n ≤ 10 := by
  refine ⟨_, rfl, ?_, ?_⟩ <;> (split <;> try split) <;> omega
theorem turns_eq {ns : List Int} {A : En} (hA : A[0]? = some (.d (.list (ns.map .int)))) : ∃ n : Int, 0 ≤ n ∧ n ≤ 10 ∧ aCons (eCB min2D (aCons (eC (.int 10)) (aCons (eCB max2D (aCons (eC (.int 1)) (aCons (eOp fdivD (eCB lenD (aCons (bVar 0) aNil)) (eC (.int 8))) aNil))) aNil))) aNil A = some [.int n] := by
  obtain ⟨n, hn, h0, h12⟩ := turns ns.length
  have hf : fdivD (.int (ns.length : Int)) (.int 8) = some (.int ((ns.length : Int) / 8)) := fdivD_small (by decide) (by decide)
  have hmx : max2D [.int 1, .int ((ns.length : Int) / 8)] = some (.int (if (ns.length : Int) / 8 > 1 then (ns.length : Int) / 8 else 1)) := rfl
  have hlen : lenD [.list (ns.map .int)] = some (.int (ns.length : Int)) := by rw [lenL, List.length_map]
  exact ⟨n, h0, h12, by simp only [aCons, aNil, eCB, eC, eOp, bVar, hA, Option.bind_some, hlen, hf, hmx, hn]⟩
theorem law_eq (ns : List Int) (_hl : ns.length ≤ 63) : sem_law [.list (ns.map .int)] = some (.bool true) := by
  unfold sem_law
  refine (semF_eq (m := 1) rfl).trans ?_
  show outD (run_law [.d (.list (ns.map .int)), .no, .no, .no, .no, .no, .no, .no, .no, .no, .no, .no, .no, .no, .no, .no, .no, .no, .no]) = _
  obtain ⟨n, h0, h12, hr⟩ := turns_eq (ns := ns) (A := [.d (.list (ns.map .int)), .no, .no, .no, .no, .no, .no, .no, .no, .no, .no, .no, .no, .no, .no, .no, .no, .no, .no]) rfl
  have loop := forD_run (g := hName 1) (body := bd_law_6) (fun _ A => ∃ y1 y2 y3 y4 y5 y6 y7 y8 y9 y10 y11 y12 y13 y14 y15 y16 y17 y18, A = [.d (.list (ns.map .int)), y1, y2, y3, y4, y5, y6, y7, y8, y9, y10, y11, y12, y13, y14, y15, y16, y17, y18]) (rngD 0 n.toNat) [.d (.list (ns.map .int)), .no, .no, .no, .no, .no, .no, .no, .no, .no, .no, .no, .no, .no, .no, .no, .no, .no, .no] ⟨_, _, _, _, _, _, _, _, _, _, _, _, _, _, _, _, _, _, rfl⟩ (by
    rintro i x A hx ⟨y1, y2, y3, y4, y5, y6, y7, y8, y9, y10, y11, y12, y13, y14, y15, y16, y17, y18, rfl⟩
    obtain ⟨hi, rfl⟩ := rngD_get hx
    rw [Int.zero_add]
    obtain ⟨z2, z3, z4, z5, z6, z7, z8, z9, z10, z11, z12, z13, z14, e⟩ := law_body ns (i := i) (by omega) y2 y3 y4 y5 y6 y7 y8 y9 y10 y11 y12 y13 y14 y15 y16 y17 y18
    exact ⟨_, _, rfl, e, _, _, _, _, _, _, _, _, _, _, _, _, _, _, _, _, _, _, rfl⟩)
  obtain ⟨A', e, _⟩ := loop
  unfold run_law
  rw [sSeq_nx ((sFor_eq (rng1_int hr h0 (by omega))).trans e)]
  rfl

end K07


open PySem PySem.W PyProof.Rows
set_option maxHeartbeats 0 in
theorem PySem.Challenge.cw_eventsteps_k07_common_units_holds : PySem.Challenge.rw_eventsteps_k07_common_units.Holds := by
  w_on; o_law; k_head; (case hw => w_witness2)
  k_fill
  refine L2.walk_of (l := PySem.Challenge.rw_eventsteps_k07_common_units) (n := 63) (k := 5) (x := "script") (CX := fun _ => L2.CX0) (sp := fun w => @Dv.spD Dv.noT _ K07.sem_law) rfl (by decide) rfl ⟨rfl, by decide, by decide⟩ (fun w h Y => PySem.W.kIn_of Y) ?F (fun w H a ns hl only hS => Dv.spD_start only hS (@K07.law_eq Dv.noT ns hl)) (fun _ _ _ _ _ h => h)
  case F =>
    intro w mg fa h KX G hmg
    letI : Dv.Tb := Dv.noT
    refine' K07.all_mk KX G hmg ?q0 ?l0 ?c0 ?k0 ?q1 ?l1 ?c1 ?k1 ?q2 ?l2 ?c2 ?k2 ?q3 ?l3 ?c3 ?k3 ?q4 ?l4 ?c4 ?k4 ?q5 ?l5 ?c5 ?k5 ?q6 ?l6 ?c6 ?k6 ?q7 ?l7 ?c7 ?k7 ?q8 ?l8 ?c8 ?k8 ?zm_gcd ?z_int ?z_len ?z_max ?z_min ?z_range ?z_sorted ?z_tuple
    (case q0 => k_is)
    (case l0 => k_is)
    (case c0 => k_is)
    (case k0 => k_is)
    (case q1 => k_is)
    (case l1 => k_is)
    (case c1 => k_is)
    (case k1 => k_is)
    (case q2 => k_is)
    (case l2 => k_is)
    (case c2 => k_is)
    (case k2 => k_is)
    (case q3 => k_is)
    (case l3 => k_is)
    (case c3 => k_is)
    (case k3 => k_is)
    (case q4 => k_is)
    (case l4 => k_is)
    (case c4 => k_is)
    (case k4 => k_is)
    (case q5 => k_is)
    (case l5 => k_is)
    (case c5 => k_is)
    (case k5 => k_is)
    (case q6 => k_is)
    (case l6 => k_is)
    (case c6 => k_is)
    (case k6 => k_is)
    (case q7 => k_is)
    (case l7 => k_is)
    (case c7 => k_is)
    (case k7 => k_is)
    (case q8 => k_is)
    (case l8 => k_is)
    (case c8 => k_is)
    (case k8 => k_is)
    (case zm_gcd => k_is)
    (case z_int => k_is)
    (case z_len => k_is)
    (case z_max => k_is)
    (case z_min => k_is)
    (case z_range => k_is)
    (case z_sorted => k_is)
    (case z_tuple => k_is)

