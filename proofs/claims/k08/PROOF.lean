import PyProof.Rows.All
import Wide.All
import OpenK.AllK
import Wide.FinOn
import HandS.ForMost
import HandS.Exc
import HandS.IsInst
import HandS.Flow
import HandS.Zip
import HandS.Deep
import PyProof.P3In
import HandS.Text
import HandS.RaiseMore
import HandS.Star
import HandS.SortKw
import HandS.StrMore
import KE.DataMinMax
import PySem.Challenge.RW_freehour_k08_rules_come_round
set_option Elab.async false
set_option linter.all false
set_option maxRecDepth 100000
set_option maxHeartbeats 4000000
/-! ## Fx: a small language of expressions and statements over plain data, run by plain Lean functions; what it answers, the program answers -/
namespace Fx
open PySem PySem.Spec PyProof.Rows L2
abbrev D := PyData
/-- a list of ints handed in from outside -/
abbrev scr (ns : List Int) : D := .dict (ns.map fun n => (PyData.int n, PyData.none))
/-! ### 1. data in the heap -/
def Ex (H H' : Hp) : Prop := ∀ a o, H a = some o → H' a = some o
theorem Ex.refl (H : Hp) : Ex H H := fun _ _ h => h
theorem Ex.trans {H H1 H2 : Hp} (a : Ex H H1) (b : Ex H1 H2) : Ex H H2 := fun x o h => b x o (a x o h)
theorem Ex.new {H : Hp} {p : Addr} {o : HO} (h : H p = none) : Ex H (upd H p o) := fun a u e => by
  rw [upd_ne (ne_of_none e h)]
  exact e
theorem Ex.back {H H' : Hp} {p : Addr} (e : Ex H H') (h : H' p = none) : H p = none := by
  cases h1 : H p with
  | none => rfl
  | some o =>
    rw [e p o h1] at h
    cases h
theorem Ex.rd {H H' : Hp} {a : Addr} {u : HO} (e : Ex H H') (h : Rd H a u) : Rd H' a u := by
  rcases h with h | ⟨o, h⟩
  · exact Or.inl (e a _ h)
  · exact Or.inr ⟨o, e a _ h⟩
theorem Ex.sql {K : PySem.W.Frag} {H H' : Hp} {a : Addr} {xs : List V} (e : Ex H H') (h : SqL K H a xs) : SqL K H' a xs := by
  rcases h with h | h
  · exact Or.inl (e.rd h)
  · exact Or.inr h
theorem Ex.sqt {K : PySem.W.Frag} {H H' : Hp} {a : Addr} {xs : List V} (e : Ex H H') (h : SqT K H a xs) : SqT K H' a xs := by
  rcases h with h | h
  · exact Or.inl (e.rd h)
  · exact Or.inr h
mutual
inductive Rp (K : PySem.W.Frag) (H : Hp) : V → D → Prop
  | non : Rp K H .non .none
  | bl (b : Bool) : Rp K H (.bl b) (.bool b)
  | int (i : Int) : Rp K H (.int i) (.int i)
  | str (x : Str) : Rp K H (.str x) (.str x)
  | lst {a : Addr} {xs : List V} {ds : List D} : Rd H a (.lst xs) → RpAll K H xs ds → Rp K H (.ref a) (.list ds)
  | tup {a : Addr} {xs : List V} {ds : List D} : SqT K H a xs → RpAll K H xs ds → Rp K H (.ref a) (.tuple ds)
  | scr {a : Addr} {ns : List Int} : SqL K H a (ns.map V.int) → Rp K H (.ref a) (.dict (ns.map fun n => (PyData.int n, PyData.none)))
inductive RpAll (K : PySem.W.Frag) (H : Hp) : List V → List D → Prop
  | nil : RpAll K H [] []
  | cons {v : V} {vs : List V} {d : D} {ds : List D} : Rp K H v d → RpAll K H vs ds → RpAll K H (v :: vs) (d :: ds)
end
section
variable {K : PySem.W.Frag} {H H' : Hp}
mutual
theorem Rp.mono (e : Ex H H') : ∀ {v : V} {d : D}, Rp K H v d → Rp K H' v d
  | _, _, .non => .non
  | _, _, .bl b => .bl b
  | _, _, .int i => .int i
  | _, _, .str x => .str x
  | _, _, .lst h r => .lst (e.rd h) (RpAll.mono e r)
  | _, _, .tup h r => .tup (e.sqt h) (RpAll.mono e r)
  | _, _, .scr h => .scr (e.sql h)
theorem RpAll.mono (e : Ex H H') : ∀ {vs : List V} {ds : List D}, RpAll K H vs ds → RpAll K H' vs ds
  | _, _, .nil => .nil
  | _, _, .cons h r => .cons (Rp.mono e h) (RpAll.mono e r)
end
theorem lay_list {ds : List D} (c : PyData.canLay0 (.list ds) = true) : PyData.canLayAll0 ds = true := by
  unfold PyData.canLay0 at c
  exact c
theorem lay_tup {ds : List D} (c : PyData.canLay0 (.tuple ds) = true) : PyData.canLayAll0 ds = true := by
  unfold PyData.canLay0 at c
  exact c
theorem lay_dict {kvs : List (D × D)} (c : PyData.canLay0 (.dict kvs) = true) : False := by
  unfold PyData.canLay0 at c
  cases c
theorem lay_cons {d : D} {ds : List D} (c : PyData.canLayAll0 (d :: ds) = true) : PyData.canLay0 d = true ∧ PyData.canLayAll0 ds = true := by
  unfold PyData.canLayAll0 at c
  rwa [Bool.and_eq_true] at c
theorem Rp.dp {v : V} {d : D} (r : Rp K H v d) : d.canLay0 = true → Dp K H v d :=
  Rp.rec (motive_1 := fun v d _ => d.canLay0 = true → Dp K H v d) (motive_2 := fun vs ds _ => PyData.canLayAll0 ds = true → DpAll K H vs ds)
    (fun _ => .non) (fun b _ => .bl b) (fun i _ => .int i) (fun x _ => .str x) (fun h _ ih c => .lst (Or.inl h) (ih (lay_list c))) (fun h _ ih c => .tup h (ih (lay_tup c))) (fun _ c => (lay_dict c).elim)
    (fun _ => .nil) (fun _ _ ih1 ih2 c => .cons (ih1 (lay_cons c).1) (ih2 (lay_cons c).2)) r
theorem RpAll.len : ∀ {vs : List V} {ds : List D}, RpAll K H vs ds → vs.length = ds.length
  | _, _, .nil => rfl
  | _, _, .cons _ r => congrArg (· + 1) (RpAll.len r)
theorem RpAll.get : ∀ {vs : List V} {ds : List D} (i : Nat) {d : D}, RpAll K H vs ds → ds[i]? = some d → ∃ v, vs[i]? = some v ∧ Rp K H v d
  | _, _, i, _, .nil, h => by simp at h
  | _, _, 0, _, .cons h r, e => by
    cases e
    exact ⟨_, rfl, h⟩
  | _, _, i + 1, _, .cons h r, e => RpAll.get i r e
theorem RpAll.getV : ∀ {vs : List V} {ds : List D} (i : Nat) {v : V}, RpAll K H vs ds → vs[i]? = some v → ∃ d, ds[i]? = some d ∧ Rp K H v d
  | _, _, i, _, .nil, h => by simp at h
  | _, _, 0, _, .cons h r, e => by
    cases e
    exact ⟨_, rfl, h⟩
  | _, _, i + 1, _, .cons h r, e => RpAll.getV i r e
theorem RpAll.append : ∀ {vs : List V} {ds : List D} {ws : List V} {es : List D}, RpAll K H vs ds → RpAll K H ws es → RpAll K H (vs ++ ws) (ds ++ es)
  | _, _, _, _, .nil, q => q
  | _, _, _, _, .cons h r, q => .cons h (RpAll.append r q)
theorem RpAll.take : ∀ (n : Nat) {vs : List V} {ds : List D}, RpAll K H vs ds → RpAll K H (vs.take n) (ds.take n)
  | 0, _, _, _ => .nil
  | n + 1, _, _, .nil => .nil
  | n + 1, _, _, .cons h r => .cons h (RpAll.take n r)
theorem RpAll.drop : ∀ (n : Nat) {vs : List V} {ds : List D}, RpAll K H vs ds → RpAll K H (vs.drop n) (ds.drop n)
  | 0, _, _, h => h
  | n + 1, _, _, .nil => .nil
  | n + 1, _, _, .cons h r => RpAll.drop n r
theorem RpAll.reverse : ∀ {vs : List V} {ds : List D}, RpAll K H vs ds → RpAll K H vs.reverse ds.reverse
  | _, _, .nil => .nil
  | _, _, .cons h r => by
    rw [List.reverse_cons, List.reverse_cons]
    exact (RpAll.reverse r).append (.cons h .nil)
theorem RpAll.ints : ∀ {ns : List Int}, RpAll K H (ns.map V.int) (ns.map PyData.int)
  | [] => .nil
  | n :: ns => .cons (.int n) RpAll.ints
theorem RpAll.bls : ∀ {vs : List V} {bs : List Bool}, RpAll K H vs (bs.map PyData.bool) → vs = bs.map V.bl
  | _, [], .nil => rfl
  | _, b :: bs, .cons h r => by
    cases h
    rw [RpAll.bls r] <;> rfl
theorem RpAll.intsV : ∀ {vs : List V} {ns : List Int}, RpAll K H vs (ns.map PyData.int) → vs = ns.map V.int
  | _, [], .nil => rfl
  | _, b :: bs, .cons h r => by
    cases h
    rw [RpAll.intsV r] <;> rfl
end
/-- the heap has grown: H0 the part that stands still, H the whole -/
structure Xt (H0 H H0' H' : Hp) : Prop where
  i : Ex H0 H0'
  o : Ex H H'
  s : Ex H0' H'
  f : ∀ p u, H0' p = some u → H0 p = some u ∨ H p = none
theorem Xt.refl {H0 H : Hp} (h : Ex H0 H) : Xt H0 H H0 H := ⟨Ex.refl _, Ex.refl _, h, fun _ _ e => Or.inl e⟩
theorem Xt.trans {H0 H H1 H' H2 H'' : Hp} (a : Xt H0 H H1 H') (b : Xt H1 H' H2 H'') : Xt H0 H H2 H'' := ⟨a.i.trans b.i, a.o.trans b.o, b.s, fun p u e => by
  rcases b.f p u e with e | e
  · exact a.f p u e
  · exact Or.inr (a.o.back e)⟩
theorem Xt.new {H0 H : Hp} (h : Ex H0 H) {p : Addr} {o : HO} (e : H p = none) : Xt H0 H (upd H0 p o) (upd H p o) := ⟨Ex.new (h.back e), Ex.new e, fun a u q => by
  by_cases z : a = p
  · subst z
    rw [upd_same] at q ⊢
    exact q
  · rw [upd_ne z] at q ⊢
    exact h a u q, fun a u q => by
  by_cases z : a = p
  · subst z
    exact Or.inr e
  · rw [upd_ne z] at q
    exact Or.inl q⟩
end Fx

namespace Fx
open PySem PySem.Spec PyProof.Rows L2
/-! ### 2. the small language -/
inductive O2 | add | sub | mul | mulr | fdiv | mod | pow | lt | le | gt | ge | eq | ne | isin | nin | isn | isnn | shl | shr | band | bor
  deriving DecidableEq
inductive Ty | int | bool | tuple | list | str
  deriving DecidableEq
/-- special forms with one part, with two parts -/
inductive X1 | inv | join (s : Str) | split (s : Str) | rmp (s : Str)
  deriving DecidableEq
inductive X2 | mxd | idx | spl2
  deriving DecidableEq
inductive Bt | len | int | str | list | tuple | max | min | divmod | abs | all | any | sum
  deriving DecidableEq
mutual
inductive E where
  | var (i : Nat)
  | lit (d : D)
  | con (i : Nat)
  | no
  | op (o : O2) (a b : E)
  | neg (a : E)
  | chain (o p : O2) (a b c : E)
  | and (a b : E)
  | or (a b : E)
  | not (a : E)
  | tru (a : E)
  | ite (c a b : E)
  | call (f : Nat) (es : Es)
  | bc (b : Bt) (es : Es)
  | isi (a : E) (t : Ty)
  | ix (a i : E)
  | sl (a lo hi : E)
  | tup (es : Es)
  | lst (es : Es)
  | comp (elt : E) (xs : List Nat) (it : Wk)
  | compIf (elt : E) (xs : List Nat) (it : Wk) (c : E)
  | x1 (o : X1) (a : E)
  | x2 (o : X2) (a b : E)
  | spl (t : Bool) (a : E) (es : Es)
inductive Es where
  | nil
  | cons (e : E) (es : Es)
inductive Wk where
  | seq (e : E)
  | rng (es : Es)
  | rev (e : E)
  | zip (a b : E)
end
/-- what a name holds: nothing, data, a list of its own that still grows -/
inductive Cel where
  | no
  | v (d : D)
  | own (ds : List D)
abbrev Rho := List Cel
/-! ### 3. its meaning -/
def ltD : O2 → Int → Int → Bool
  | .lt, i, j => decide (i < j)
  | .le, i, j => decide (i ≤ j)
  | .gt, i, j => decide (j < i)
  | _, i, j => decide (j ≤ i)
def eqD : D → D → Option Bool
  | .int i, .int j => some (decide (i = j))
  | .str i, .str j => some (decide (i = j))
  | .bool i, .bool j => some (decide (i = j))
  | x, y => if SeqAt.shaped x && SeqAt.shaped y then some (PyData.eqv x y) else none
def flatD : D → Bool
  | .none => true
  | .bool _ => true
  | .int _ => true
  | .str _ => true
  | _ => false
def eqF : D → D → Bool
  | .none, .none => true
  | .bool a, .bool b => a == b
  | .bool a, .int b => (if a then 1 else 0) == b
  | .int a, .bool b => a == (if b then 1 else 0)
  | .int a, .int b => a == b
  | .str a, .str b => a == b
  | _, _ => false
def inF (x : D) : List D → Bool
  | [] => false
  | d :: ds => eqF d x || inF x ds
def inS (i j : Str) : Bool := !(Builtin.Str.occurrences j i 0 j.length 1).isEmpty
def inD (x : D) : D → Option Bool
  | .list ds => if flatD x && ds.all flatD then some (inF x ds) else if SeqAt.shaped x && SeqAt.shaped (.list ds) then some (ds.any fun z => PyData.eqv z x) else none
  | .tuple ds => if flatD x && ds.all flatD then some (inF x ds) else if SeqAt.shaped x && SeqAt.shaped (.tuple ds) then some (ds.any fun z => PyData.eqv z x) else none
  | .str j => match x with
    | .str i => some (inS i j)
    | _ => none
  | _ => none
def small (i : Int) : Bool := decide (-(2 ^ 64) < i) && decide (i < 2 ^ 64)
def isN : D → Bool
  | .none => true
  | _ => false
def o2 : O2 → D → D → Option D
  | .add, .int i, .int j => some (.int (i + j))
  | .add, .str x, .str y => if x.length + y.length ≤ sizeLine then some (.str (x ++ y)) else none
  | .add, .list x, .list y => if x.length + y.length ≤ sizeLine then some (.list (x ++ y)) else none
  | .add, .tuple x, .tuple y => if x.length + y.length ≤ sizeLine then (match x with | [] => none | _ :: _ => some (.tuple (x ++ y))) else none
  | .sub, .int i, .int j => some (.int (i - j))
  | .mul, .int i, .int j => if small i then some (.int (i * j)) else none
  | .mulr, .int i, .int j => if small j then some (.int (i * j)) else none
  | .fdiv, .int i, .int j => if 0 < j then (if j < 1073741824 then some (.int (i / j)) else none) else none
  | .mod, .int i, .int j => if 0 < j then some (.int (i % j)) else none
  | .pow, .int i, .int j => if small i && decide (0 ≤ j) && decide (j ≤ 1000000) then some (.int (i ^ j.toNat)) else none
  | .lt, .int i, .int j => some (.bool (decide (i < j)))
  | .le, .int i, .int j => some (.bool (decide (i ≤ j)))
  | .gt, .int i, .int j => some (.bool (decide (j < i)))
  | .ge, .int i, .int j => some (.bool (decide (j ≤ i)))
  | .eq, x, y => (eqD x y).map .bool
  | .ne, x, y => (eqD x y).map fun b => .bool (!b)
  | .isin, x, y => (inD x y).map .bool
  | .nin, x, y => (inD x y).map fun b => .bool (!b)
  | .shl, .int i, .int j => if small i && decide (0 ≤ j) && decide (j ≤ 1000000) then some (.int (i * 2 ^ j.toNat)) else none
  | .shr, .int i, .int j => if 0 ≤ j then some (.int (i / 2 ^ j.toNat)) else none
  | .band, .int i, .int j => some (.int (Builtin.bitAnd i j))
  | .bor, .int i, .int j => some (.int (Builtin.bitOr i j))
  | .isn, x, .none => some (.bool (isN x))
  | .isnn, x, .none => some (.bool (!isN x))
  | _, _, _ => none
def trD : D → Option Bool
  | .none => some false
  | .bool b => some b
  | .int i => some (i != 0)
  | .str x => if x.length ≤ sizeLine then some (x.length != 0) else none
  | .list x => some (!x.isEmpty)
  | .tuple x => some (!x.isEmpty)
  | _ => none
def isDict : D → Bool
  | .dict _ => true
  | _ => false
def isiD : Ty → D → Bool
  | .int, .int _ => true
  | .int, .bool _ => true
  | .bool, .bool _ => true
  | .tuple, .tuple _ => true
  | .list, .list _ => true
  | .str, .str _ => true
  | _, _ => false
def ixD : D → D → Option D
  | .list xs, .int i => atI xs i
  | .tuple xs, .int i => atI xs i
  | .dict xs, .int i => (atI xs i).map (·.1)
  | .str z, .int i => if z.length ≤ sizeLine then (atI z.cps.toList i).map fun c => .str ⟨#[c]⟩ else none
  | _, _ => none
def cutD (xs : List D) (lo hi : Option Int) : List D := (xs.drop (HT.sIx xs.length 0 lo)).take (HT.sIx xs.length xs.length hi - HT.sIx xs.length 0 lo)
def slD : D → Option Int → Option Int → Option D
  | .list xs, lo, hi => some (.list (cutD xs lo hi))
  | .tuple xs, lo, hi => if HT.sIx xs.length 0 lo = 0 ∧ HT.sIx xs.length xs.length hi = xs.length then none else some (.tuple (cutD xs lo hi))
  | _, _, _ => none
def boolsD : List D → Option (List Bool)
  | [] => some []
  | .bool b :: r => (boolsD r).map (b :: ·)
  | _ :: _ => none
def intsD : List D → Option (List Int)
  | [] => some []
  | .int b :: r => (intsD r).map (b :: ·)
  | _ :: _ => none
def strsD : List D → Option (List Str)
  | [] => some []
  | .str b :: r => (strsD r).map (b :: ·)
  | _ :: _ => none
def maxL : List Int → Option Int
  | [] => none
  | n :: r => some (r.foldl max n)
def joinL (s : Str) (ys : List Str) : Option D := if (ys.map (·.length)).sum + ys.length * s.length ≤ 16777216 then some (.str (Txt.join s ys)) else none
def bt : Bt → List D → Option D
  | .len, [.list x] => some (.int x.length)
  | .len, [.tuple x] => some (.int x.length)
  | .len, [.dict x] => some (.int x.length)
  | .len, [.str x] => if x.length ≤ sizeLine then some (.int x.length) else none
  | .int, [.int i] => some (.int i)
  | .int, [.bool b] => some (.int (if b then 1 else 0))
  | .int, [.str x] => if x.length ≤ 640 then (PySem.intText? x).map .int else none
  | .str, [.str x] => some (.str x)
  | .str, [.int i] => if i.natAbs.log2 < 1920 then some (.str (toString i)) else none
  | .list, [.list x] => some (.list x)
  | .list, [.tuple x] => some (.list x)
  | .tuple, [.list x] => some (.tuple x)
  | .tuple, [.tuple x] => some (.tuple x)
  | .max, [.int i, .int j] => some (.int (if j > i then j else i))
  | .max, [.list x] => (intsD x).bind fun ns => (maxL ns).map .int
  | .min, [.int i, .int j] => some (.int (if j < i then j else i))
  | .divmod, [.int i, .int j] => if 0 < j then (if j < 1073741824 then some (.tuple [.int (i / j), .int (i % j)]) else none) else none
  | .abs, [.int i] => some (.int (if i < 0 then -i else i))
  | .all, [.list x] => (boolsD x).map fun bs => .bool (bs.all id)
  | .any, [.list x] => (boolsD x).map fun bs => .bool (bs.any id)
  | .sum, [.list x] => (intsD x).map fun ns => .int ns.sum
  | _, _ => none
/-- the ints from lo on -/
def rngD (lo : Int) : Nat → List D
  | 0 => []
  | n + 1 => .int lo :: rngD (lo + 1) n
def inLine (i : Int) : Bool := decide (-(2 ^ 62) ≤ i) && decide (i < 2 ^ 62)
def rngs : List D → Option (List D)
  | [.int j] => if inLine j then some (rngD 0 j.toNat) else none
  | [.int i, .int j] => if inLine i && inLine j then some (rngD i (j - i).toNat) else none
  | _ => none
def zipD : List D → List D → List D
  | x :: xs, y :: ys => .tuple [x, y] :: zipD xs ys
  | _, _ => []
def zipV : D → D → Option (List D)
  | .list xs, .list ys => some (zipD xs ys)
  | .tuple xs, .tuple ys => some (zipD xs ys)
  | _, _ => none
def seqD : D → Option (List D)
  | .list xs => some xs
  | .tuple xs => some xs
  | _ => none
def x1D : X1 → D → Option D
  | .inv, .int i => some (.int (Builtin.bitNot i))
  | .join s, .list ds => (strsD ds).bind (joinL s)
  | .join s, .tuple ds => (strsD ds).bind (joinL s)
  | .split s, .str a => if s.length == 0 then none else if a.length + 2 ≤ sizeLine then some (.list ((Txt.split a s).map PyData.str)) else none
  | .rmp s, .str a => if a.length ≤ sizeLine then some (.str (Txt.removeprefix a s)) else none
  | _, _ => none
def x2D : X2 → D → D → Option D
  | .mxd, .list ds, .int d => (intsD ds).map fun ns => .int ((maxL ns).getD d)
  | .mxd, .tuple ds, .int d => (intsD ds).map fun ns => .int ((maxL ns).getD d)
  | .idx, .list ds, x => if SeqAt.shaped (.list ds) && SeqAt.shaped x then (ds.findIdx? fun z => PyData.eqv z x).map fun j => .int (j : Nat) else none
  | .spl2, x, y => (seqD x).bind fun a => (seqD y).bind fun b => if (a ++ b).length ≤ sizeLine then some (.list (a ++ b)) else none
  | _, _, _ => none
def setX (ρ : Rho) : List Nat → D → Option Rho
  | [i], d => some (ρ.set i (.v d))
  | [i, j], .tuple [x, y] => some ((ρ.set i (.v x)).set j (.v y))
  | _, _ => none
def asB : D → Option Bool
  | .bool b => some b
  | _ => none
def partD : E → (E → Option D) → Option (Option Int)
  | .no, _ => some none
  | e, f => match f e with
    | some (.int i) => some (some i)
    | _ => none
def mapO (f : D → Option (Option D)) : List D → Option (List D)
  | [] => some []
  | d :: r => (f d).bind fun o => (mapO f r).bind fun l => some (match o with
    | some y => y :: l
    | none => l)
abbrev Fns := List (List D → Option D)
structure Tab where
  fs : Fns
  cs : List D
mutual
def evE (T : Tab) : E → Rho → Option D
  | .var i, ρ => match ρ[i]? with
    | some (.v d) => some d
    | _ => none
  | .lit d, _ => some d
  | .con i, _ => T.cs[i]?
  | .no, _ => none
  | .op o a b, ρ => (evE T a ρ).bind fun x => (evE T b ρ).bind fun y => o2 o x y
  | .neg a, ρ => match evE T a ρ with
    | some (.int i) => some (.int (-i))
    | _ => none
  | .chain o p a b c, ρ => (evE T a ρ).bind fun x => (evE T b ρ).bind fun y => match o2 o x y with
    | some (.bool true) => (evE T c ρ).bind fun z => o2 p y z
    | some (.bool false) => some (.bool false)
    | _ => none
  | .and a b, ρ => match evE T a ρ with
    | some (.bool true) => evE T b ρ
    | some (.bool false) => some (.bool false)
    | _ => none
  | .or a b, ρ => match evE T a ρ with
    | some (.bool true) => some (.bool true)
    | some (.bool false) => evE T b ρ
    | _ => none
  | .not a, ρ => match evE T a ρ with
    | some (.bool b) => some (.bool (!b))
    | _ => none
  | .tru a, ρ => (evE T a ρ).bind fun x => (trD x).map .bool
  | .ite c a b, ρ => match evE T c ρ with
    | some (.bool true) => evE T a ρ
    | some (.bool false) => evE T b ρ
    | _ => none
  | .call f es, ρ => (evEs T es ρ).bind fun xs => match T.fs[f]? with
    | some m => m xs
    | none => none
  | .bc b es, ρ => (evEs T es ρ).bind fun xs => bt b xs
  | .isi a t, ρ => (evE T a ρ).bind fun x => if isDict x then none else some (.bool (isiD t x))
  | .ix a i, ρ => (evE T a ρ).bind fun x => (evE T i ρ).bind fun y => ixD x y
  | .sl a lo hi, ρ => (evE T a ρ).bind fun x => (evP T lo ρ).bind fun l => (evP T hi ρ).bind fun h => slD x l h
  | .tup es, ρ => (evEs T es ρ).bind fun xs => if xs.length ≤ sizeLine then some (.tuple xs) else none
  | .lst es, ρ => (evEs T es ρ).bind fun xs => if xs.length ≤ sizeLine then some (.list xs) else none
  | .comp elt xs it, ρ => (evI T it ρ).bind fun ds => if ds.length ≤ sizeLine then (mapO (fun d => (setX ρ xs d).bind fun ρ' => (evE T elt ρ').map some) ds).map .list else none
  | .compIf elt xs it c, ρ => (evI T it ρ).bind fun ds => if ds.length ≤ sizeLine then (mapO (fun d => (setX ρ xs d).bind fun ρ' => match evE T c ρ' with
    | some (.bool true) => (evE T elt ρ').map some
    | some (.bool false) => some none
    | _ => none) ds).map .list else none
  | .x1 o a, ρ => (evE T a ρ).bind fun x => x1D o x
  | .x2 o a b, ρ => (evE T a ρ).bind fun x => (evE T b ρ).bind fun y => x2D o x y
  | .spl t a es, ρ => (evE T a ρ).bind fun x => (evEs T es ρ).bind fun xs => (seqD x).bind fun ys => if (ys ++ xs).length ≤ sizeLine then some (if t then .tuple (ys ++ xs) else .list (ys ++ xs)) else none
def evP (T : Tab) : E → Rho → Option (Option Int)
  | .no, _ => some none
  | .lit (.int i), _ => some (some i)
  | .neg (.lit (.int i)), _ => some (some (-i))
  | .var i, ρ => match ρ[i]? with
    | some (.v (.int i)) => some (some i)
    | _ => none
  | _, _ => none
def evEs (T : Tab) : Es → Rho → Option (List D)
  | .nil, _ => some []
  | .cons e es, ρ => (evE T e ρ).bind fun x => (evEs T es ρ).bind fun xs => some (x :: xs)
def evI (T : Tab) : Wk → Rho → Option (List D)
  | .seq e, ρ => (evE T e ρ).bind seqD
  | .rng es, ρ => (evEs T es ρ).bind rngs
  | .rev e, ρ => match evE T e ρ with
    | some (.list xs) => some xs.reverse
    | _ => none
  | .zip a b, ρ => (evE T a ρ).bind fun x => (evE T b ρ).bind fun y => zipV x y
end
inductive S where
  | asg (i : Nat) (e : E)
  | unp (is : List Nat) (e : E)
  | par (i j : Nat) (a b : E)
  | aug (i : Nat) (o : O2) (e : E)
  | app (i : Nat) (e : E)
  | ifs (c : E) (a b : S)
  | wh (n : Nat) (c : E) (b : S)
  | fr (xs : List Nat) (it : Wk) (b : S)
  | ret (e : E)
  | retN
  | pass
  | brk
  | cont
  | fz (is : List Nat)
  /-- a raise that is never reached -/
  | nev
  | seq (a b : S)
inductive Out where
  | nx (ρ : Rho)
  | rt (d : D)
  | bk (ρ : Rho)
  | ct (ρ : Rho)
def whE (c : Rho → Option D) (b : Rho → Option Out) : Nat → Rho → Option Out
  | 0, _ => none
  | n + 1, ρ => match c ρ with
    | some (.bool true) => (match b ρ with
      | some (.nx ρ') => whE c b n ρ'
      | some (.ct ρ') => whE c b n ρ'
      | some (.bk ρ') => some (.nx ρ')
      | some (.rt d) => some (.rt d)
      | none => none)
    | some (.bool false) => some (.nx ρ)
    | _ => none
def frE (xs : List Nat) (b : Rho → Option Out) : List D → Rho → Option Out
  | [], ρ => some (.nx ρ)
  | d :: ds, ρ => (setX ρ xs d).bind fun ρ1 => match b ρ1 with
    | some (.nx ρ') => frE xs b ds ρ'
    | some (.ct ρ') => frE xs b ds ρ'
    | some (.bk ρ') => some (.nx ρ')
    | some (.rt d) => some (.rt d)
    | none => none
def fzC : Cel → Cel
  | .own ds => .v (.list ds)
  | c => c
def fzE (ρ : Rho) : List Nat → Rho
  | [] => ρ
  | i :: is => fzE (ρ.set i (fzC (ρ[i]?.getD .no))) is
def setXs (ρ : Rho) : List Nat → List D → Option Rho
  | [], [] => some ρ
  | i :: is, d :: ds => setXs (ρ.set i (.v d)) is ds
  | _, _ => none
def isNew : E → Bool
  | .lst _ => true
  | .comp .. => true
  | .compIf .. => true
  | _ => false
def evS (T : Tab) : S → Rho → Option Out
  | .asg i e, ρ => match evE T e ρ with
    | some (.list ds) => some (.nx (ρ.set i (if isNew e then .own ds else .v (.list ds))))
    | some d => some (.nx (ρ.set i (.v d)))
    | none => none
  | .unp is e, ρ => match evE T e ρ with
    | some (.tuple ds) => (setXs ρ is ds).map .nx
    | _ => none
  | .par i j a b, ρ => (evE T a ρ).bind fun x => (evE T b ρ).bind fun y => some (.nx ((ρ.set i (.v x)).set j (.v y)))
  | .aug i o e, ρ => match ρ[i]?, evE T e ρ with
    | some (.v (.int a)), some (.int b) => (match o with
      | .add => some (.nx (ρ.set i (.v (.int (a + b)))))
      | .sub => some (.nx (ρ.set i (.v (.int (a - b)))))
      | _ => none)
    | _, _ => none
  | .app i e, ρ => match ρ[i]? with
    | some (.own ds) => if ds.length < sizeLine then (evE T e ρ).map fun x => .nx (ρ.set i (.own (ds ++ [x]))) else none
    | _ => none
  | .ifs c a b, ρ => match evE T c ρ with
    | some (.bool true) => evS T a ρ
    | some (.bool false) => evS T b ρ
    | _ => none
  | .wh n c b, ρ => whE (evE T c) (evS T b) n ρ
  | .fr xs it b, ρ => (evI T it ρ).bind fun ds => frE xs (evS T b) ds ρ
  | .ret e, ρ => (evE T e ρ).map .rt
  | .retN, _ => some (.rt .none)
  | .pass, ρ => some (.nx ρ)
  | .brk, ρ => some (.bk ρ)
  | .cont, ρ => some (.ct ρ)
  | .fz is, ρ => some (.nx (fzE ρ is))
  | .nev, _ => none
  | .seq a b, ρ => match evS T a ρ with
    | some (.nx ρ') => evS T b ρ'
    | o => o
/-- a def: its parameters' number, its names' number, its body -/
def run (T : Tab) (np nn : Nat) (b : S) (xs : List D) : Option D :=
  if xs.length = np then (match evS T b (xs.map Cel.v ++ List.replicate (nn - xs.length) Cel.no) with
    | some (.rt d) => some d
    | some (.nx _) => some .none
    | _ => none) else none
end Fx

namespace Fx
open PySem PySem.Spec PyProof.Rows L2
/-! ### 4. which text is meant -/
structure Sig where
  N : List Str
  fn : List Str
  cn : List Str
  cm : Bool
/-- built-ins that want calm (no exception handled around) -/
def btq : Bt → Bool
  | .max => false
  | .min => false
  | .all => false
  | .any => false
  | .sum => false
  | _ => true
def isVis (sc : Scope) (x : Str) : Bool := match sc.names.lookup x with
  | some .local => true
  | some .cell => true
  | some .free => true
  | _ => false
def isLoc (sc : Scope) (x : Str) : Bool := match sc.names.lookup x with
  | some .local => true
  | some .cell => true
  | _ => false
def isLocal (sc : Scope) (x : Str) : Bool := match sc.names.lookup x with
  | some .local => true
  | _ => false
def isGl (sc : Scope) (x : Str) : Bool := (match sc.names.lookup x with
  | some .globalImplicit => true
  | _ => false) && !(x == ("__debug__" : Str)) && !(x == ("__name__" : Str))
def isVar (G : Sig) (i : Nat) (sc : Scope) (x : Str) : Bool := decide (G.N[i]? = some x) && isVis sc x && !(x == ("__debug__" : Str)) && !(x == ("__classdict__" : Str))
def binOk : O2 → Operator → Bool
  | .add, .Add => true
  | .sub, .Sub => true
  | .mul, .Mult => true
  | .mulr, .Mult => true
  | .fdiv, .FloorDiv => true
  | .mod, .Mod => true
  | .pow, .Pow => true
  | .shl, .LShift => true
  | .shr, .RShift => true
  | .band, .BitAnd => true
  | .bor, .BitOr => true
  | _, _ => false
def cmpOk : O2 → CmpOp → Bool
  | .lt, .Lt => true
  | .le, .LtE => true
  | .gt, .Gt => true
  | .ge, .GtE => true
  | .eq, .Eq => true
  | .ne, .NotEq => true
  | .isin, .In => true
  | .nin, .NotIn => true
  | .isn, .Is => true
  | .isnn, .IsNot => true
  | _, _ => false
def ordOk : O2 → CmpOp → Bool
  | .lt, .Lt => true
  | .le, .LtE => true
  | .gt, .Gt => true
  | .ge, .GtE => true
  | _, _ => false
def btName : Bt → Str
  | .len => "len"
  | .int => "int"
  | .str => "str"
  | .list => "list"
  | .tuple => "tuple"
  | .max => "max"
  | .min => "min"
  | .divmod => "divmod"
  | .abs => "abs"
  | .all => "all"
  | .any => "any"
  | .sum => "sum"
def tyName : Ty → Str
  | .int => "int"
  | .bool => "bool"
  | .tuple => "tuple"
  | .list => "list"
  | .str => "str"
def notSl : Expr → Bool
  | .Slice .. => false
  | _ => true
def notSet : Expr → Bool
  | .Set .. => false
  | _ => true
def plainT : Expr → Bool
  | .BoolOp .. => false
  | .UnaryOp .. => false
  | .IfExp .. => false
  | .Compare .. => false
  | _ => true
/-- the targets of a for -/
def chkT1 (G : Sig) (sc : Scope) : List Nat → Expr → Bool
  | [i], .Name x _ => decide (G.N[i]? = some x) && isLoc sc x
  | [i, j], .Tuple [.Name x _, .Name y _] _ _ => decide (G.N[i]? = some x) && isLoc sc x && decide (G.N[j]? = some y) && isLoc sc y
  | _, _ => false
def ownOf (G : Sig) (xs : List Nat) : List (Str × Nat) := xs.map fun i => (G.N[i]?.getD "", i)
def cells (scope : Scope) (xs : List (Str × Nat)) : Bool := xs.all fun p => isLocal scope p.1
def isCStr : Expr → Str → Bool
  | .Constant (.str t) _ _, s => decide (t = s)
  | _, _ => false
def notCall : Expr → Bool
  | .Call .. => false
  | _ => true
def fm1 : X1 → Expr → Option Expr
  | .inv, .UnaryOp .Invert e _ => some e
  | .join s, .Call (.Attribute f m ap) [x] [] cp => if isCStr f s && decide (m = "join") && (ap.endLine == cp.line) then some x else none
  | .split s, .Call (.Attribute f m ap) [x] [] cp => if isCStr x s && decide (m = "split") && notCall f && (ap.endLine == cp.line) then some f else none
  | .rmp s, .Call (.Attribute f m ap) [x] [] cp => if isCStr x s && decide (m = "removeprefix") && notCall f && (ap.endLine == cp.line) then some f else none
  | _, _ => none
def fm2 (sc : Scope) : X2 → Expr → Option (Expr × Expr)
  | .mxd, .Call (.Name x _) [e] [⟨some y, d, _⟩] _ => if decide (x = "max") && isGl sc x && decide (y = "default") then some (e, d) else none
  | .idx, .Call (.Attribute f m ap) [x] [] cp => if decide (m = "index") && notCall f && (ap.endLine == cp.line) then some (f, x) else none
  | .spl2, .List [.Starred a _, .Starred b _] _ => some (a, b)
  | _, _ => none
mutual
def chk (G : Sig) : E → Scope → Expr → Bool
  | .var i, sc, .Name x _ => isVar G i sc x
  | .lit (.int i), _, .Constant (.int j) _ _ => decide (j = i)
  | .lit (.bool i), _, .Constant (.bool j) _ _ => decide (j = i)
  | .lit .none, _, .Constant .none _ _ => true
  | .lit (.str i), _, .Constant (.str j) _ _ => decide (j = i)
  | .con i, sc, .Name x _ => decide (G.cn[i]? = some x) && isGl sc x
  | .op o a b, sc, .BinOp e op f _ => binOk o op && chk G a sc e && chk G b sc f
  | .op o a b, sc, .Compare e [op] [f] _ => cmpOk o op && !(behindInMarks op f) && chk G a sc e && chk G b sc f
  | .neg a, sc, .UnaryOp .USub e _ => chk G a sc e
  | .chain o p a b c, sc, .Compare e [op, oq] [f, g] _ => ordOk o op && ordOk p oq && chk G a sc e && chk G b sc f && chk G c sc g
  | .and a b, sc, .BoolOp .And (e :: f :: rest) pos => chk G a sc e && (match rest with
    | [] => chk G b sc f
    | g :: r => chk G b sc (.BoolOp .And (f :: g :: r) pos))
  | .or a b, sc, .BoolOp .Or (e :: f :: rest) pos => chk G a sc e && (match rest with
    | [] => chk G b sc f
    | g :: r => chk G b sc (.BoolOp .Or (f :: g :: r) pos))
  | .not a, sc, .UnaryOp .Not e _ => chk G a sc e
  | .ite c a b, sc, .IfExp t e f _ => chkT G c sc t && chk G a sc e && chk G b sc f
  | .call i es, sc, .Call (.Name x _) as [] _ => decide (G.fn[i]? = some x ∧ G.cm = true) && isGl sc x && chks G es sc as
  | .bc t es, sc, .Call (.Name x _) as [] _ => decide (x = btName t) && (G.cm || btq t) && isGl sc x && chks G es sc as
  | .isi a t, sc, .Call (.Name x _) [e, .Name y _] [] _ => decide (x = "isinstance") && isGl sc x && decide (y = tyName t) && isGl sc y && chk G a sc e
  | .ix a i, sc, .Subscript e f _ => notSl f && chk G a sc e && chk G i sc f
  | .sl a lo hi, sc, .Subscript e (.Slice l h none _) _ => chk G a sc e && chkP G lo sc l && chkP G hi sc h
  | .tup es, sc, .Tuple as _ _ => chks G es sc as
  | .lst es, sc, .List as _ => chks G es sc as
  | .comp elt xs it, sc, .ListComp e [⟨tg, iter, ifs, k⟩] scope _ => decide (k = 0 ∧ G.cm = true) && ifs.isEmpty && notSet iter && blkC G.N sc scope (ownOf G xs) && cells scope (ownOf G xs) && chkT1 G (relS scope sc) xs tg && chkI G it sc tg iter && chk G elt (relS scope sc) e
  | .compIf elt xs it c, sc, .ListComp e [⟨tg, iter, [cd], k⟩] scope _ => decide (k = 0 ∧ G.cm = true) && notSet iter && blkC G.N sc scope (ownOf G xs) && cells scope (ownOf G xs) && chkT1 G (relS scope sc) xs tg && chkI G it sc tg iter && chk G elt (relS scope sc) e && chkT G c (relS scope sc) cd
  | .x1 o a, sc, e => match fm1 o e with
    | some e1 => chk G a sc e1
    | none => false
  | .x2 o a b, sc, e => match fm2 sc o e with
    | some (e1, e2) => decide (G.cm = true) && chk G a sc e1 && chk G b sc e2
    | none => false
  | .spl t a es, sc, .List (.Starred e _ :: as) _ => !t && chk G a sc e && chks G es sc as
  | .spl t a es, sc, .Tuple (.Starred e _ :: as) _ _ => t && chk G a sc e && chks G es sc as
  | _, _, _ => false
def chkT (G : Sig) : E → Scope → Expr → Bool
  | .op o a b, sc, .Compare e [op] [f] _ => cmpOk o op && !(behindInMarks op f) && chk G a sc e && chk G b sc f
  | .chain o p a b c, sc, .Compare e [op, oq] [f, g] _ => ordOk o op && ordOk p oq && chk G a sc e && chk G b sc f && chk G c sc g
  | .and a b, sc, .BoolOp .And (e :: f :: rest) pos => chkT G a sc e && (match rest with
    | [] => chkT G b sc f
    | g :: r => chkT G b sc (.BoolOp .And (f :: g :: r) pos))
  | .or a b, sc, .BoolOp .Or (e :: f :: rest) pos => chkT G a sc e && (match rest with
    | [] => chkT G b sc f
    | g :: r => chkT G b sc (.BoolOp .Or (f :: g :: r) pos))
  | .not a, sc, .UnaryOp .Not e _ => chkT G a sc e
  | .tru a, sc, e => plainT e && chk G a sc e
  | .var i, sc, .Name x _ => isVar G i sc x
  | .lit (.bool i), _, .Constant (.bool j) _ _ => decide (j = i)
  | .call i es, sc, .Call (.Name x _) as [] _ => decide (G.fn[i]? = some x ∧ G.cm = true) && isGl sc x && chks G es sc as
  | .bc t es, sc, .Call (.Name x _) as [] _ => decide (x = btName t) && (G.cm || btq t) && isGl sc x && chks G es sc as
  | .isi a t, sc, .Call (.Name x _) [e, .Name y _] [] _ => decide (x = "isinstance") && isGl sc x && decide (y = tyName t) && isGl sc y && chk G a sc e
  | .ix a i, sc, .Subscript e f _ => notSl f && chk G a sc e && chk G i sc f
  | _, _, _ => false
def chkP (G : Sig) : E → Scope → Option Expr → Bool
  | .no, _, none => true
  | .lit (.int i), _, some (.Constant (.int j) _ _) => decide (j = i)
  | .neg (.lit (.int i)), _, some (.UnaryOp .USub (.Constant (.int j) _ _) _) => decide (j = i)
  | .var i, sc, some (.Name x _) => isVar G i sc x
  | _, _, _ => false
def chks (G : Sig) : Es → Scope → List Expr → Bool
  | .nil, _, [] => true
  | .cons e es, sc, a :: as => chk G e sc a && chks G es sc as
  | _, _, _ => false
def chkI (G : Sig) : Wk → Scope → Expr → Expr → Bool
  | .rng es, sc, _, .Call (.Name x _) as [] _ => decide (x = "range") && isGl sc x && chks G es sc as
  | .rev e, sc, _, .Call (.Name x _) [a] [] _ => decide (x = "reversed") && isGl sc x && chk G e sc a
  | .zip e f, sc, .Tuple _ _ _, .Call (.Name x _) [a, b] [] _ => decide (x = "zip") && isGl sc x && chk G e sc a && chk G f sc b
  | .seq e, sc, _, a => chk G e sc a
  | _, _, _, _ => false
end
def namesOk (G : Sig) (sc : Scope) : List Nat → List Expr → Bool
  | [], [] => true
  | i :: is, .Name x _ :: as => decide (G.N[i]? = some x) && isLoc sc x && namesOk G sc is as
  | _, _ => false
def notComp : Expr → Bool
  | .ListComp .. => false
  | .SetComp .. => false
  | .DictComp .. => false
  | _ => true
def notDisp : Expr → Bool
  | .Tuple .. => false
  | .List .. => false
  | _ => true
def isC : E → Bool
  | .comp .. => true
  | .compIf .. => true
  | _ => false
mutual
def chkS (G : Sig) (sc : Scope) : S → Stmt → Bool
  | .asg i e, .Assign [.Name x px] v pos => decide (G.N[i]? = some x) && chk G e sc v && (match v with
    | .ListComp _ _ scope vp => isC e && isLocal sc x && (sc.kind == .function) && (px.line == vp.line) && !(scope.names.any fun p => p.1 == x && (p.2 == .local || p.2 == .cell))
    | v => !isC e && notComp v && isLoc sc x)
  | .unp is e, .Assign [.Tuple ts _ _] v _ => chk G e sc v && namesOk G sc is ts && notComp v && notDisp v
  | .aug i o e, .AugAssign (.Name x _) op v _ => decide (G.N[i]? = some x) && isLoc sc x && ((o == .add && decide (op = .Add)) || (o == .sub && decide (op = .Sub))) && chk G e sc v
  | .app i e, .Expr (.Call (.Attribute (.Name x _) m ap) [v] [] cp) _ => isVar G i sc x && decide (m = "append") && (ap.endLine == cp.line) && chk G e sc v
  | .ifs c a b, .If t x y _ => chkT G c sc t && chkB G sc a x && chkB G sc b y
  | .wh _ c b, .While t x [] _ => chkT G c sc t && chkB G sc b x
  | .fr xs it b, .For tg iter x [] _ => chkT1 G sc xs tg && notSet iter && chkI G it sc tg iter && chkB G sc b x
  | .ret e, .Return (some v) _ => chk G e sc v
  | .retN, .Return none _ => true
  | .pass, .Pass _ => true
  | .nev, .Raise _ _ _ => true
  | .brk, .Break _ => true
  | .cont, .Continue _ => true
  | _, _ => false
def chkB (G : Sig) (sc : Scope) : S → List Stmt → Bool
  | .seq (.fz _) b, st => chkB G sc b st
  | .fz _, [] => true
  | .seq a b, s :: st => chkS G sc a s && chkB G sc b st
  | .pass, [] => true
  | _, _ => false
end
end Fx

namespace Fx
open PySem PySem.Spec PyProof.Rows L2
/-! ### 5. what a text does, told by itself -/
def wE (X : Cx) (e : Expr) : TE := fun σ H Q => ∀ pins s, Inv X pins σ H s → wpAny (model X.prog X.w) X.A (eval e X.env) (EP X pins σ Q) X.xe s
def wT (X : Cx) (e : Expr) : TT := fun σ H Q => ∀ pins s, Inv X pins σ H s → wpAny (model X.prog X.w) X.A (isTrue e X.env (eval e X.env)) (TP X pins σ Q) X.xe s
def wB (X : Cx) (e : Expr) : TT := fun σ H Q => ∀ whole pins s, Inv X pins σ H s → wpAny (model X.prog X.w) X.A (isTrue e X.env whole) (TP X pins σ Q) X.xe s
def wA (X : Cx) (es : List Expr) : TA := fun σ H Q => ∀ pos pins s, Inv X pins σ H s → wpAny (model X.prog X.w) X.A (spliced (backTo pos (starEach es X.env))) (AP X pins σ Q) X.xe s
def wI (X : Cx) (tg iter : Expr) : TI := fun σ H R => ∀ pins s, Inv X pins σ H s → wpAny (model X.prog X.w) X.A (eval iter X.env) (fun v s1 => wpAny (model X.prog X.w) X.A (pyIter v) (PIE X pins σ tg R) X.xe s1) X.xe s
def wS (X : Cx) (st : Stmt) : TS := fun D σ H => ∀ pins s, Inv X pins σ H s → wpAny (model X.prog X.w) X.A (exec st X.env) (SP X pins D) X.xe s
def wSs (X : Cx) (st : List Stmt) : TS := fun D σ H => ∀ pins s, Inv X pins σ H s → wpAny (model X.prog X.w) X.A (execs st X.env) (SP X pins D) X.xe s
theorem pE {X : Cx} {e : Expr} : PE X e (wE X e) := ⟨fun pins s _ _ _ I h => h pins s I⟩
theorem pT {X : Cx} {e : Expr} : PT X e (wT X e) := ⟨fun pins s _ _ _ I h => h pins s I⟩
theorem pB {X : Cx} {e : Expr} : PW X e (wB X e) := ⟨fun w pins s _ _ _ I h => h w pins s I⟩
theorem pA {X : Cx} {e : List Expr} : PA X e (wA X e) := ⟨fun pos pins s _ _ _ I h => h pos pins s I⟩
theorem pI {X : Cx} {tg e : Expr} : PI X tg e (wI X tg e) := ⟨fun pins s _ _ _ I h => h pins s I⟩
theorem pS {X : Cx} {e : Stmt} : PS X e (wS X e) := ⟨fun pins s _ _ _ I h => h pins s I⟩
theorem pSs {X : Cx} {e : List Stmt} : PSs X e (wSs X e) := ⟨fun pins s _ _ _ I h => h pins s I⟩
section
variable {X : Cx} {e : Expr} {σ : L2.St} {H : Hp}
theorem gE {t : TE} {Q : VK} (h : PE X e t) (q : t σ H Q) : wE X e σ H Q := fun pins s I => h.run pins s σ H Q I q
theorem gT {t : TT} {Q : Bool → Hp → Prop} (h : PT X e t) (q : t σ H Q) : wT X e σ H Q := fun pins s I => h.run pins s σ H Q I q
theorem gB {t : TT} {Q : Bool → Hp → Prop} (h : PW X e t) (q : t σ H Q) : wB X e σ H Q := fun w pins s I => h.run w pins s σ H Q I q
theorem gA {es : List Expr} {t : TA} {Q : List V → Hp → Prop} (h : PA X es t) (q : t σ H Q) : wA X es σ H Q := fun pos pins s I => h.run pos pins s σ H Q I q
theorem gI {tg : Expr} {t : TI} {Q : L2.It → Hp → Prop} (h : PI X tg e t) (q : t σ H Q) : wI X tg e σ H Q := fun pins s I => h.run pins s σ H Q I q
theorem gS {st : Stmt} {t : TS} {D : Ends} (h : PS X st t) (q : t D σ H) : wS X st D σ H := fun pins s I => h.run pins s σ H D I q
theorem gSs {st : List Stmt} {t : TS} {D : Ends} (h : PSs X st t) (q : t D σ H) : wSs X st D σ H := fun pins s I => h.run pins s σ H D I q
end
/-! ### 6. small facts of the text -/
def notStar : Expr → Bool
  | .Starred .. => false
  | _ => true
theorem star1 {e : Expr} {es : List Expr} {env : PySem.Env} (h : notStar e = true) : starEach (e :: es) env = (false, eval e env) :: starEach es env := by
  cases e <;> first | rfl | (simp [notStar] at h)
theorem starB {pos : Pos} {env : PySem.Env} : ∀ {es : List Expr}, es.all notStar = true → (backTo pos (starEach es env)).any (·.1) = false
  | [], _ => rfl
  | e :: es, h => by
    rw [List.all_cons, Bool.and_eq_true] at h
    have ih := starB (pos := pos) (env := env) h.2
    rw [star1 h.1]
    simpa [backTo] using ih
theorem set0 {e : Expr} {env : PySem.Env} (h : notSet e = true) : ∀ x, foldedSetIterable e env x = pure x := by
  intro x
  cases e <;> first | rfl | (simp [notSet] at h)
theorem sl0 {e : Expr} (h : notSl e = true) : PlainIx e := by
  intro o i
  cases e <;> first | rfl | (simp [notSl] at h)
theorem tru0 {e : Expr} {env : PySem.Env} (h : plainT e = true) : ∀ whole, isTrue e env whole = (do let v ← whole; standAt e.pos; holding [v] (truthy v)) := by
  intro w
  cases e <;> first | rfl | (simp [plainT] at h)
theorem sw0 {e : Expr} {t : Option Expr} {n : Nat} {env : PySem.Env} (h : notComp e = true) : swapsWith e t n env = pure false := by
  cases e <;> first | rfl | (simp [notComp] at h)
theorem stores0 {t e : Expr} {env : PySem.Env} (h : notDisp e = true) : swappedStores [t] e env = pure none := by
  cases t <;> cases e <;> first | rfl | (simp [notDisp] at h)
theorem vis_of {sc : Scope} {x : Str} (h : isVis sc x = true) : L2.Vis sc x := by
  unfold isVis at h
  unfold L2.Vis
  split at h <;> simp_all
theorem loc_of {sc : Scope} {x : Str} (h : isLoc sc x = true) : L2.Loc sc x := by
  unfold isLoc at h
  unfold L2.Loc
  split at h <;> simp_all
theorem local_of {sc : Scope} {x : Str} (h : isLocal sc x = true) : sc.names.lookup x = some .local := by
  unfold isLocal at h
  split at h <;> simp_all
theorem gl_of {sc : Scope} {x : Str} (h : isGl sc x = true) : sc.names.lookup x = some .globalImplicit ∧ (x == ("__debug__" : Str)) = false ∧ x ≠ "__name__" := by
  unfold isGl at h
  simp only [Bool.and_eq_true, Bool.not_eq_true'] at h
  obtain ⟨⟨h1, h2⟩, h3⟩ := h
  refine ⟨?_, h2, fun z => by subst z; simp at h3⟩
  split at h1 <;> simp_all
/-! ### 7. what the names mean -/
/-- the promise of a plain def -/
def spM (K : PySem.W.Frag) (m : List D → Option D) : Sp := fun vs H Q _ => ∃ ds d H0, Ex H0 H ∧ RpAll K H0 vs ds ∧ m ds = some d ∧ ∀ x H' H0', Xt H0 H H0' H' → Rp K H0' x d → Q x H'
def bNames : List Str := ["len", "int", "str", "list", "tuple", "max", "min", "divmod", "abs", "all", "any", "sum", "isinstance", "range", "reversed", "zip", "bool"]
structure Gd (T : Tab) (G : Sig) (k : Nat) (X : Cx) : Prop where
  calm : G.cm = true → X.calm = true
  room : G.cm = true → Room k X.A
  un : X.A.units + 65 < cLine
  nd : X.N.Nodup
  nN : X.N = G.N
  fn : ∀ (i : Nat) (x : Str) (m : List D → Option D), G.fn[i]? = some x → T.fs[i]? = some m → ∃ f fd ps, FnOk X.prog X.w X.K X.mg X.base CX0 k f fd ps (spM X.K m) ∧ X.mg x = some (.ref f) ∧ PySem.W.keepIn X.K (.ref f) = true ∧ Binds X.K fd ps []
  cn : ∀ (i : Nat) (x : Str) (d : D), G.cn[i]? = some x → T.cs[i]? = some d → ∃ v u, X.mg x = some u ∧ RelV v u ∧ ∀ H, Rp X.K H v d
  bt : ∀ x ∈ bNames, X.mg x = none
structure Rl (K : PySem.W.Frag) (ρ : Rho) (σ : L2.St) (H0 H : Hp) : Prop where
  ex : Ex H0 H
  v : ∀ (i : Nat) (d : D), ρ[i]? = some (.v d) → ∃ x, σ[i]? = some (some x) ∧ Rp K H0 x d
  o : ∀ (i : Nat) (ds : List D), ρ[i]? = some (.own ds) → ∃ p xs, σ[i]? = some (some (.ref p)) ∧ H p = some (.lst xs) ∧ H0 p = none ∧ RpAll K H0 xs ds
  a : ∀ (i j : Nat) (ds es : List D) (p : Addr), ρ[i]? = some (.own ds) → ρ[j]? = some (.own es) → σ[i]? = some (some (.ref p)) → σ[j]? = some (some (.ref p)) → i = j
  ln : ρ.length = σ.length
theorem Rl.grow {K : PySem.W.Frag} {ρ : Rho} {σ : L2.St} {H0 H H0' H' : Hp} (r : Rl K ρ σ H0 H) (x : Xt H0 H H0' H') : Rl K ρ σ H0' H' where
  ex := x.s
  v := fun i d h => by
    obtain ⟨y, a, b⟩ := r.v i d h
    exact ⟨y, a, b.mono x.i⟩
  o := fun i ds h => by
    obtain ⟨p, xs, a, b, c, d⟩ := r.o i ds h
    refine ⟨p, xs, a, x.o _ _ b, ?_, d.mono x.i⟩
    cases e : H0' p with
    | none => rfl
    | some u =>
      rcases x.f p u e with z | z
      · rw [c] at z
        cases z
      · rw [b] at z
        cases z
  a := r.a
  ln := r.ln
section
variable {T : Tab} {G : Sig} {k : Nat}
def SoE (T : Tab) (G : Sig) (k : Nat) (a : E) : Prop := ∀ (X : Cx) (e : Expr), Gd T G k X → chk G a X.env.scope e = true → ∀ ρ d, evE T a ρ = some d → ∀ σ H0 H, Rl X.K ρ σ H0 H → ∀ Q : VK, (∀ x H' H0', Xt H0 H H0' H' → Rp X.K H0' x d → Q x H') → wE X e σ H Q
def SoT (T : Tab) (G : Sig) (k : Nat) (a : E) : Prop := ∀ (X : Cx) (e : Expr), Gd T G k X → chkT G a X.env.scope e = true → ∀ ρ b, evE T a ρ = some (.bool b) → ∀ σ H0 H, Rl X.K ρ σ H0 H → ∀ Q : Bool → Hp → Prop, (∀ H' H0', Xt H0 H H0' H' → Q b H') → wT X e σ H Q
def SoA (T : Tab) (G : Sig) (k : Nat) (a : Es) : Prop := ∀ (X : Cx) (es : List Expr), Gd T G k X → chks G a X.env.scope es = true → ∀ ρ ds, evEs T a ρ = some ds → ∀ σ H0 H, Rl X.K ρ σ H0 H → ∀ Q : List V → Hp → Prop, (∀ xs H' H0', Xt H0 H H0' H' → RpAll X.K H0' xs ds → Q xs H') → wA X es σ H Q
theorem fm1_star {o : X1} {e : Expr} {p : Pos} : fm1 o (.Starred e p) = none := by cases o <;> rfl
theorem fm2_star {sc : Scope} {o : X2} {e : Expr} {p : Pos} : fm2 sc o (.Starred e p) = none := by cases o <;> rfl
/-- every text that is meant is no starred one -/
theorem chk_star {a : E} {sc : Scope} {e : Expr} (h : chk G a sc e = true) : notStar e = true := by
  cases e <;> first | rfl | (cases a <;> first | (simp [chk, fm1_star, fm2_star] at h; done) | (rename_i z _ _ <;> cases z <;> simp [chk] at h) | (rename_i z _ <;> cases z <;> simp [chk] at h) | (rename_i z <;> cases z <;> simp [chk] at h))
theorem chks_star : ∀ {a : Es} {sc : Scope} {es : List Expr}, chks G a sc es = true → es.all notStar = true
  | .nil, _, [], _ => rfl
  | .nil, _, _ :: _, h => by simp [chks] at h
  | .cons _ _, _, [], h => by simp [chks] at h
  | .cons a as, sc, e :: es, h => by
    simp only [chks, Bool.and_eq_true] at h
    rw [List.all_cons, chk_star h.1, chks_star h.2] <;> rfl
theorem soA_nil : SoA T G k .nil := by
  intro X es g hc ρ ds he σ H0 H r Q q
  cases es with
  | cons => simp [chks] at hc
  | nil =>
    cases he
    exact gA pa_nil (q [] H H0 (Xt.refl r.ex) .nil)
theorem soA_cons {a : E} {as : Es} (ha : SoE T G k a) (hs : SoA T G k as) : SoA T G k (.cons a as) := by
  intro X es g hc ρ ds he σ H0 H r Q q
  cases es with
  | nil => simp [chks] at hc
  | cons e es =>
    simp only [chks, Bool.and_eq_true] at hc
    simp only [evEs, Option.bind_eq_some_iff] at he
    obtain ⟨x, h1, xs, h2, h3⟩ := he
    cases h3
    refine gA (pa_cons pE pA (star1 (chk_star hc.1))) ?_
    refine ha X e g hc.1 ρ x h1 σ H0 H r _ fun v H1 H01 x1 r1 => ?_
    refine hs X es g hc.2 ρ xs h2 σ H01 H1 (r.grow x1) _ fun vs H2 H02 x2 r2 => ?_
    exact q _ H2 H02 (x1.trans x2) (.cons (r1.mono x2.i) r2)
end
end Fx

namespace Fx
open PySem PySem.Spec PyProof.Rows L2
/-! ### 8. operators -/
section
variable {X : Cx}
theorem op_catR : OpR X (binaryOp .Add) (fun x y H Q => ∃ l b xs zs, x = .ref l ∧ y = .ref b ∧ Rd H l (.lst xs) ∧ Rd H b (.lst zs) ∧ xs.length + zs.length ≤ sizeLine ∧ ∀ p, H p = none → Q (.ref p) (upd H p (.lst (xs ++ zs)))) := by
  intro pins s σ H x y v u Q I rx ry h
  obtain ⟨l, b, xs, zs, rfl, rfl, hH, hB, hz, q⟩ := h
  cases rx
  cases ry
  obtain ⟨z, its, n, r, e⟩ := hH.ok I.hok
  obtain ⟨z2, its2, n2, r2, e2⟩ := hB.ok I.hok
  have hl := r.length
  have hl2 := r2.length
  refine PySem.P.add_list e e2 ?_ (by rw [List.size_toArray, List.size_toArray]; omega)
  have ea : its.toArray ++ its2.toArray = (its ++ its2).toArray := by simp
  rw [ea]
  exact ⟨.ref _, _, I.lnew (t' := s.toks) (r.append r2) (by rw [List.length_append]; omega), rfl, q _ I.fresh⟩
/-- an operator serves two data -/
def Sv (K : PySem.W.Frag) (r : R2) (x y z : D) : Prop := ∀ H0 H vx vy, Ex H0 H → Rp K H0 vx x → Rp K H0 vy y → ∀ Q : VK, (∀ v H' H0', Xt H0 H H0' H' → Rp K H0' v z → Q v H') → r vx vy H Q
theorem sv_I0 {K : PySem.W.Frag} {g : Int → Int → V} {i j : Int} {z : D} (h : ∀ H0, Rp K H0 (g i j) z) : Sv K (rI0 g) (.int i) (.int j) z := by
  intro H0 H vx vy e rx ry Q q
  cases rx
  cases ry
  exact ⟨i, j, rfl, rfl, q _ H H0 (Xt.refl e) (h H0)⟩
theorem sv_I {K : PySem.W.Frag} {C : Int → Int → Prop} {g : Int → Int → V} {i j : Int} {z : D} (hc : C i j) (h : ∀ H0, Rp K H0 (g i j) z) : Sv K (rI C g) (.int i) (.int j) z := by
  intro H0 H vx vy e rx ry Q q
  cases rx
  cases ry
  exact ⟨i, j, rfl, rfl, hc, q _ H H0 (Xt.refl e) (h H0)⟩
theorem small_of {i : Int} (h : small i = true) : -(2 ^ 64) < i ∧ i < 2 ^ 64 := by
  unfold small at h
  simp only [Bool.and_eq_true, decide_eq_true_eq] at h
  exact h
theorem small_abs {i : Int} (h : small i = true) : i.natAbs < 2 ^ 64 := by
  have := small_of h
  omega
theorem bin_ok {o : O2} {op : Operator} (hb : binOk o op = true) {x y z : D} (h : o2 o x y = some z) : ∃ r, OpR X (binaryOp op) r ∧ Sv X.K r x y z := by
  cases o <;> cases op <;> first | (simp [binOk] at hb; done) | skip
  case add.Add =>
    cases x <;> cases y <;> first | (simp [o2] at h; done) | skip
    case int.int i j =>
      simp only [o2, Option.some.injEq] at h
      subst h
      exact ⟨_, op_add, sv_I0 fun H0 => .int _⟩
    case str.str i j =>
      simp only [o2] at h
      split at h <;> cases h
      rename_i hl
      refine ⟨_, op_add_str, ?_⟩
      intro H0 H vx vy e rx ry Q q
      cases rx
      cases ry
      exact ⟨i, j, rfl, rfl, hl, q _ H H0 (Xt.refl e) (.str _)⟩
    case list.list xs ys =>
      simp only [o2] at h
      split at h <;> cases h
      rename_i hl
      refine ⟨_, op_catR, ?_⟩
      intro H0 H vx vy e rx ry Q q
      cases rx with
      | lst h1 r1 =>
        rename_i a1 vs1
        cases ry with
        | lst h2 r2 =>
          rename_i a2 vs2
          refine ⟨_, _, _, _, rfl, rfl, e.rd h1, e.rd h2, by rw [r1.len, r2.len]; exact hl, fun p hp => ?_⟩
          have X1 := Xt.new e hp (o := .lst (vs1 ++ vs2))
          exact q _ _ _ X1 (.lst (Or.inl upd_same) ((r1.append r2).mono X1.i))
    case tuple.tuple xs ys =>
      simp only [o2] at h
      split at h <;> try cases h
      rename_i hl
      cases xs with
      | nil => cases h
      | cons x0 xs =>
        cases h
        refine ⟨_, op_catT, ?_⟩
        intro H0 H vx vy e rx ry Q q
        cases rx with
        | tup h1 r1 =>
          rename_i a1 vs1
          cases ry with
          | tup h2 r2 =>
            rename_i a2 vs2
            refine ⟨_, _, _, _, rfl, rfl, e.sqt h1, e.sqt h2, ?_, by rw [r1.len, r2.len]; exact hl, ?_, ?_⟩
            · intro z
              have := r1.len
              rw [z] at this
              simp at this
            · intro z
              have z2 : ys = [] := by
                have := r2.len
                rw [z] at this
                cases ys with
                | nil => rfl
                | cons => simp at this
              subst z2
              rw [List.append_nil] at q
              exact q _ H H0 (Xt.refl e) (.tup h1 r1)
            · intro _ p hp
              have X1 := Xt.new e hp (o := .tup (vs1 ++ vs2))
              exact q _ _ _ X1 (.tup (Or.inl (Or.inl upd_same)) ((r1.append r2).mono X1.i))
  case sub.Sub =>
    cases x <;> cases y <;> first | (simp [o2] at h; done) | skip
    simp only [o2, Option.some.injEq] at h
    subst h
    exact ⟨_, op_sub, sv_I0 fun H0 => .int _⟩
  case mul.Mult =>
    cases x <;> cases y <;> first | (simp [o2] at h; done) | skip
    simp only [o2] at h
    split at h <;> cases h
    rename_i hs
    exact ⟨_, op_mul, sv_I (Or.inl (small_of hs)) fun H0 => .int _⟩
  case mulr.Mult =>
    cases x <;> cases y <;> first | (simp [o2] at h; done) | skip
    simp only [o2] at h
    split at h <;> cases h
    rename_i hs
    exact ⟨_, op_mul, sv_I (Or.inr (small_of hs)) fun H0 => .int _⟩
  case fdiv.FloorDiv =>
    cases x <;> cases y <;> first | (simp [o2] at h; done) | skip
    simp only [o2] at h
    split at h <;> try cases h
    split at h <;> cases h
    rename_i h1 h2
    exact ⟨_, op_fdiv, sv_I ⟨h1, h2⟩ fun H0 => .int _⟩
  case mod.Mod =>
    cases x <;> cases y <;> first | (simp [o2] at h; done) | skip
    simp only [o2] at h
    split at h <;> cases h
    rename_i h1
    exact ⟨_, op_mod, sv_I h1 fun H0 => .int _⟩
  case pow.Pow =>
    cases x <;> cases y <;> first | (simp [o2] at h; done) | skip
    simp only [o2] at h
    split at h <;> cases h
    rename_i h1
    simp only [Bool.and_eq_true, decide_eq_true_eq] at h1
    exact ⟨_, op_pow, sv_I ⟨h1.1.2, h1.2, small_abs h1.1.1⟩ fun H0 => .int _⟩
  case shl.LShift =>
    cases x <;> cases y <;> first | (simp [o2] at h; done) | skip
    simp only [o2] at h
    split at h <;> cases h
    rename_i h1
    simp only [Bool.and_eq_true, decide_eq_true_eq] at h1
    exact ⟨_, op_shl, sv_I ⟨h1.1.2, h1.2, small_abs h1.1.1⟩ fun H0 => .int _⟩
  case shr.RShift =>
    cases x <;> cases y <;> first | (simp [o2] at h; done) | skip
    simp only [o2] at h
    split at h <;> cases h
    rename_i h1
    exact ⟨_, op_shr, sv_I h1 fun H0 => .int _⟩
  case band.BitAnd =>
    cases x <;> cases y <;> first | (simp [o2] at h; done) | skip
    simp only [o2, Option.some.injEq] at h
    subst h
    exact ⟨_, op_and, sv_I0 fun H0 => .int _⟩
  case bor.BitOr =>
    cases x <;> cases y <;> first | (simp [o2] at h; done) | skip
    simp only [o2, Option.some.injEq] at h
    subst h
    exact ⟨_, op_or, sv_I0 fun H0 => .int _⟩
/-- == of data -/
theorem eq_data {K : PySem.W.Frag} {H : Hp} {x y : D} {b : Bool} (h : eqD x y = some b) : (SeqAt.shaped x = true ∧ SeqAt.shaped y = true ∧ PyData.eqv x y = b) ∨ (∀ H0 vx vy, Rp K H0 vx x → Rp K H0 vy y → scal vx vy = true ∧ decide (vx = vy) = b) := by
  cases x <;> cases y
  case int.int i j =>
    simp only [eqD, Option.some.injEq] at h
    subst h
    refine Or.inr fun H0 vx vy rx ry => ?_
    cases rx
    cases ry
    exact ⟨rfl, by simp⟩
  case str.str i j =>
    simp only [eqD, Option.some.injEq] at h
    subst h
    refine Or.inr fun H0 vx vy rx ry => ?_
    cases rx
    cases ry
    exact ⟨rfl, by simp⟩
  case bool.bool i j =>
    simp only [eqD, Option.some.injEq] at h
    subst h
    refine Or.inr fun H0 vx vy rx ry => ?_
    cases rx
    cases ry
    exact ⟨rfl, by simp⟩
  all_goals
    simp only [eqD] at h
    split at h <;> cases h
    rename_i hs
    rw [Bool.and_eq_true] at hs
    exact Or.inl ⟨hs.1, hs.2, rfl⟩
theorem eqV_of {K : PySem.W.Frag} {H0 : Hp} {x y : D} {vx vy : V} (rx : Rp K H0 vx x) (ry : Rp K H0 vy y) (fx : flatD x = true) (fy : flatD y = true) : eqV vx vy = eqF x y := by
  cases rx <;> first | (simp [flatD] at fx; done) | (cases ry <;> first | (simp [flatD] at fy; done) | rfl)
theorem flat_of {K : PySem.W.Frag} {H0 : Hp} {x : D} {vx : V} (rx : Rp K H0 vx x) (fx : flatD x = true) : flatV vx = true := by
  cases rx <;> first | rfl | (simp [flatD] at fx)
theorem flats_of {K : PySem.W.Frag} {H0 : Hp} : ∀ {vs : List V} {ds : List D}, RpAll K H0 vs ds → ds.all flatD = true → vs.all flatV = true
  | _, _, .nil, _ => rfl
  | _, _, .cons h r, q => by
    rw [List.all_cons, Bool.and_eq_true] at q
    rw [List.all_cons, flat_of h q.1, flats_of r q.2] <;> rfl
theorem inV_of {K : PySem.W.Frag} {H0 : Hp} {x : D} {vx : V} (rx : Rp K H0 vx x) (fx : flatD x = true) : ∀ {vs : List V} {ds : List D}, RpAll K H0 vs ds → ds.all flatD = true → inV vx vs = inF x ds
  | _, _, .nil, _ => rfl
  | _, _, .cons h r, q => by
    rw [List.all_cons, Bool.and_eq_true] at q
    have ih := inV_of rx fx r q.2
    unfold inV at ih ⊢
    rw [List.any_cons, ih, eqV_of h rx q.1 fx] <;> rfl
theorem in_data {K : PySem.W.Frag} {x y : D} {ds : List D} {b : Bool} (hy : y = .list ds ∨ y = .tuple ds) (hf : flatD x = true ∧ ds.all flatD = true) (hb : inF x ds = b) (neg : Bool) : Sv K (rIn K neg) x y (.bool (if neg then !b else b)) := by
  intro H0 H vx vy e rx ry Q q
  rcases hy with rfl | rfl
  all_goals
    cases ry
    next h1 r1 =>
      have hI := inV_of rx hf.1 r1 hf.2
      refine ⟨_, _, rfl, ?_, flat_of rx hf.1, flats_of r1 hf.2, ?_⟩
      · first
          | exact Or.inl (Or.inl (e.rd h1))
          | exact Or.inr (e.sqt h1)
      · rw [hI, hb]
        exact q _ H H0 (Xt.refl e) (.bl _)
def rInT (K : PySem.W.Frag) (neg : Bool) : R2 := fun x y H Q => ∃ d ds, Dp K H x d ∧ Dp K H y (.tuple ds) ∧ SeqAt.shaped d = true ∧ SeqAt.shaped (.tuple ds) = true ∧ Q (.bl (if neg then !(ds.any fun z => PyData.eqv z d) else ds.any fun z => PyData.eqv z d)) H
theorem op_inT (hu : X.A.units + 65 < cLine) : OpR X (compareOp .In) (rInT X.K false) := by
  intro pins s σ H x y v u Q I rx ry h
  obtain ⟨d, ds, hd, he, sd, se, q⟩ := h
  obtain ⟨as, r1⟩ := Dp.reads I d x v hd rx
  obtain ⟨bs, r2⟩ := Dp.reads I (.tuple ds) y u he ry
  exact SeqAt.in_tuple_reads r2 r1 (SeqAt.canLay_of_shaped se) (SeqAt.canLay_of_shaped sd) (room_in_shaped sd hu) ⟨.bl _, H, I, rfl, q⟩
theorem op_notInT (hu : X.A.units + 65 < cLine) : OpR X (compareOp .NotIn) (rInT X.K true) := by
  intro pins s σ H x y v u Q I rx ry h
  obtain ⟨d, ds, hd, he, sd, se, q⟩ := h
  obtain ⟨as, r1⟩ := Dp.reads I d x v hd rx
  obtain ⟨bs, r2⟩ := Dp.reads I (.tuple ds) y u he ry
  exact SeqAt.notIn_tuple_reads r2 r1 (SeqAt.canLay_of_shaped se) (SeqAt.canLay_of_shaped sd) (room_in_shaped sd hu) ⟨.bl _, H, I, rfl, q⟩
theorem in_ok (hu : X.A.units + 65 < cLine) {x y : D} {b : Bool} (h : inD x y = some b) : ∃ r, OpR X (compareOp .In) r ∧ Sv X.K r x y (.bool b) := by
  cases y <;> first | (simp [inD] at h; done) | skip
  case str j =>
    cases x <;> first | (simp [inD] at h; done) | skip
    simp only [inD, Option.some.injEq] at h
    subst h
    refine ⟨_, op_in_str, ?_⟩
    intro H0 H vx vy e rx ry Q q
    cases rx
    cases ry
    exact ⟨_, _, rfl, rfl, q _ H H0 (Xt.refl e) (.bl _)⟩
  case list ds =>
    simp only [inD] at h
    split at h
    · rename_i hf
      rw [Bool.and_eq_true] at hf
      cases h
      exact ⟨_, op_in_seq, in_data (Or.inl rfl) hf rfl false⟩
    · split at h <;> cases h
      rename_i hs
      rw [Bool.and_eq_true] at hs
      refine ⟨_, op_inD hu, ?_⟩
      intro H0 H vx vy e rx ry Q q
      exact ⟨x, ds, (rx.mono e).dp (SeqAt.canLay_of_shaped hs.1), (ry.mono e).dp (SeqAt.canLay_of_shaped hs.2), hs.1, hs.2, q _ H H0 (Xt.refl e) (.bl _)⟩
  case tuple ds =>
    simp only [inD] at h
    split at h
    · rename_i hf
      rw [Bool.and_eq_true] at hf
      cases h
      exact ⟨_, op_in_seq, in_data (Or.inr rfl) hf rfl false⟩
    · split at h <;> cases h
      rename_i hs
      rw [Bool.and_eq_true] at hs
      refine ⟨_, op_inT hu, ?_⟩
      intro H0 H vx vy e rx ry Q q
      exact ⟨x, ds, (rx.mono e).dp (SeqAt.canLay_of_shaped hs.1), (ry.mono e).dp (SeqAt.canLay_of_shaped hs.2), hs.1, hs.2, q _ H H0 (Xt.refl e) (.bl _)⟩
theorem nin_ok (hu : X.A.units + 65 < cLine) {x y : D} {b : Bool} (h : inD x y = some b) : ∃ r, OpR X (compareOp .NotIn) r ∧ Sv X.K r x y (.bool (!b)) := by
  cases y <;> first | (simp [inD] at h; done) | skip
  case str j =>
    cases x <;> first | (simp [inD] at h; done) | skip
    simp only [inD, Option.some.injEq] at h
    subst h
    refine ⟨_, op_notIn_str, ?_⟩
    intro H0 H vx vy e rx ry Q q
    cases rx
    cases ry
    exact ⟨_, _, rfl, rfl, q _ H H0 (Xt.refl e) (.bl _)⟩
  case list ds =>
    simp only [inD] at h
    split at h
    · rename_i hf
      rw [Bool.and_eq_true] at hf
      cases h
      exact ⟨_, op_notIn_seq, in_data (Or.inl rfl) hf rfl true⟩
    · split at h <;> cases h
      rename_i hs
      rw [Bool.and_eq_true] at hs
      refine ⟨_, op_notInD hu, ?_⟩
      intro H0 H vx vy e rx ry Q q
      exact ⟨x, ds, (rx.mono e).dp (SeqAt.canLay_of_shaped hs.1), (ry.mono e).dp (SeqAt.canLay_of_shaped hs.2), hs.1, hs.2, q _ H H0 (Xt.refl e) (.bl _)⟩
  case tuple ds =>
    simp only [inD] at h
    split at h
    · rename_i hf
      rw [Bool.and_eq_true] at hf
      cases h
      exact ⟨_, op_notIn_seq, in_data (Or.inr rfl) hf rfl true⟩
    · split at h <;> cases h
      rename_i hs
      rw [Bool.and_eq_true] at hs
      refine ⟨_, op_notInT hu, ?_⟩
      intro H0 H vx vy e rx ry Q q
      exact ⟨x, ds, (rx.mono e).dp (SeqAt.canLay_of_shaped hs.1), (ry.mono e).dp (SeqAt.canLay_of_shaped hs.2), hs.1, hs.2, q _ H H0 (Xt.refl e) (.bl _)⟩
theorem isn_of {K : PySem.W.Frag} {H0 : Hp} {x : D} {vx : V} (rx : Rp K H0 vx x) : decide (vx = .non) = isN x := by
  cases rx <;> simp [isN]
theorem cmp_ok {o : O2} {op : CmpOp} (hb : cmpOk o op = true) (hu : X.A.units + 65 < cLine) {x y z : D} (h : o2 o x y = some z) : ∃ r, OpR X (compareOp op) r ∧ Sv X.K r x y z ∧ ∃ b, z = .bool b := by
  cases o <;> cases op <;> first | (simp [cmpOk] at hb; done) | skip
  case lt.Lt =>
    cases x <;> cases y <;> first | (simp [o2] at h; done) | skip
    simp only [o2, Option.some.injEq] at h
    subst h
    exact ⟨_, op_lt, sv_I0 fun H0 => .bl _, _, rfl⟩
  case le.LtE =>
    cases x <;> cases y <;> first | (simp [o2] at h; done) | skip
    simp only [o2, Option.some.injEq] at h
    subst h
    exact ⟨_, op_le, sv_I0 fun H0 => .bl _, _, rfl⟩
  case gt.Gt =>
    cases x <;> cases y <;> first | (simp [o2] at h; done) | skip
    simp only [o2, Option.some.injEq] at h
    subst h
    exact ⟨_, op_gt, sv_I0 fun H0 => .bl _, _, rfl⟩
  case ge.GtE =>
    cases x <;> cases y <;> first | (simp [o2] at h; done) | skip
    simp only [o2, Option.some.injEq] at h
    subst h
    exact ⟨_, op_ge, sv_I0 fun H0 => .bl _, _, rfl⟩
  case eq.Eq =>
    simp only [o2, Option.map_eq_some_iff] at h
    obtain ⟨b, h1, rfl⟩ := h
    rcases eq_data (K := X.K) (H := fun _ => none) h1 with ⟨s1, s2, e1⟩ | hs
    · refine ⟨_, op_eqD (by omega), ?_, _, rfl⟩
      intro H0 H vx vy e rx ry Q q
      exact ⟨x, y, (rx.mono e).dp (SeqAt.canLay_of_shaped s1), (ry.mono e).dp (SeqAt.canLay_of_shaped s2), s1, s2, by rw [e1]; exact q _ H H0 (Xt.refl e) (.bl _)⟩
    · refine ⟨_, op_eq, ?_, _, rfl⟩
      intro H0 H vx vy e rx ry Q q
      obtain ⟨a1, a2⟩ := hs H0 vx vy rx ry
      exact ⟨a1, by rw [a2]; exact q _ H H0 (Xt.refl e) (.bl _)⟩
  case ne.NotEq =>
    simp only [o2, Option.map_eq_some_iff] at h
    obtain ⟨b, h1, rfl⟩ := h
    rcases eq_data (K := X.K) (H := fun _ => none) h1 with ⟨s1, s2, e1⟩ | hs
    · refine ⟨_, op_neD (by omega), ?_, _, rfl⟩
      intro H0 H vx vy e rx ry Q q
      exact ⟨x, y, (rx.mono e).dp (SeqAt.canLay_of_shaped s1), (ry.mono e).dp (SeqAt.canLay_of_shaped s2), s1, s2, by rw [e1]; exact q _ H H0 (Xt.refl e) (.bl _)⟩
    · refine ⟨_, op_ne, ?_, _, rfl⟩
      intro H0 H vx vy e rx ry Q q
      obtain ⟨a1, a2⟩ := hs H0 vx vy rx ry
      exact ⟨a1, by rw [a2]; exact q _ H H0 (Xt.refl e) (.bl _)⟩
  case isin.In =>
    simp only [o2, Option.map_eq_some_iff] at h
    obtain ⟨b, h1, rfl⟩ := h
    obtain ⟨r, h2, h3⟩ := in_ok (X := X) hu h1
    exact ⟨r, h2, h3, _, rfl⟩
  case nin.NotIn =>
    simp only [o2, Option.map_eq_some_iff] at h
    obtain ⟨b, h1, rfl⟩ := h
    obtain ⟨r, h2, h3⟩ := nin_ok (X := X) hu h1
    exact ⟨r, h2, h3, _, rfl⟩
  case isn.Is =>
    cases y <;> first | (simp [o2] at h; done) | skip
    simp only [o2, Option.some.injEq] at h
    subst h
    refine ⟨_, op_isN, ?_, _, rfl⟩
    intro H0 H vx vy e rx ry Q q
    cases ry
    exact ⟨rfl, by rw [isn_of rx]; exact q _ H H0 (Xt.refl e) (.bl _)⟩
  case isnn.IsNot =>
    cases y <;> first | (simp [o2] at h; done) | skip
    simp only [o2, Option.some.injEq] at h
    subst h
    refine ⟨_, op_notN, ?_, _, rfl⟩
    intro H0 H vx vy e rx ry Q q
    cases ry
    exact ⟨rfl, by rw [isn_of rx]; exact q _ H H0 (Xt.refl e) (.bl _)⟩
end
end Fx

namespace Fx
open PySem PySem.Spec PyProof.Rows L2
/-! ### 9. expressions -/
section
variable {T : Tab} {G : Sig} {k : Nat}
theorem soE_var {i : Nat} : SoE T G k (.var i) := by
  intro X e g hc ρ d he σ H0 H r Q q
  cases e <;> first | (simp [chk] at hc; done) | skip
  simp only [chk, isVar, Bool.and_eq_true, decide_eq_true_eq, Bool.not_eq_true'] at hc
  obtain ⟨⟨⟨h1, h2⟩, h3⟩, h4⟩ := hc
  simp only [evE] at he
  split at he <;> cases he
  rename_i hv
  obtain ⟨x, sx, rx⟩ := r.v _ _ hv
  exact gE (pe_var (i := i) (by rw [g.nN]; exact h1) (vis_of h2) h3 h4) ⟨x, sx, q x H H0 (Xt.refl r.ex) rx⟩
theorem soE_lit {d0 : D} : SoE T G k (.lit d0) := by
  intro X e g hc ρ d he σ H0 H r Q q
  simp only [evE, Option.some.injEq] at he
  subst he
  cases e <;> first | (cases d0 <;> simp [chk] at hc; done) | skip
  rename_i c _ _
  cases d0 <;> cases c <;> first | (simp [chk] at hc; done) | skip
  · exact gE pe_non (q _ H H0 (Xt.refl r.ex) .non)
  · simp only [chk, decide_eq_true_eq] at hc
    subst hc
    exact gE pe_bl (q _ H H0 (Xt.refl r.ex) (.bl _))
  · simp only [chk, decide_eq_true_eq] at hc
    subst hc
    exact gE pe_int (q _ H H0 (Xt.refl r.ex) (.int _))
  · simp only [chk, decide_eq_true_eq] at hc
    subst hc
    exact gE pe_str (q _ H H0 (Xt.refl r.ex) (.str _))
theorem gl_X {X : Cx} {x : Str} (h : isGl X.env.scope x = true) : Gl X x := (gl_of h).1
theorem soE_con {i : Nat} : SoE T G k (.con i) := by
  intro X e g hc ρ d he σ H0 H r Q q
  cases e <;> first | (simp [chk] at hc; done) | skip
  simp only [chk, Bool.and_eq_true, decide_eq_true_eq] at hc
  simp only [evE] at he
  obtain ⟨v, u, h1, h2, h3⟩ := g.cn _ _ _ hc.1 he
  exact gE (pe_glob (gl_X hc.2) h1 h2 (gl_of hc.2).2.1) (q v H H0 (Xt.refl r.ex) (h3 H0))
theorem soE_op {o : O2} {a b : E} (ha : SoE T G k a) (hb : SoE T G k b) : SoE T G k (.op o a b) := by
  intro X e g hc ρ d he σ H0 H r Q q
  simp only [evE, Option.bind_eq_some_iff] at he
  obtain ⟨x, hx, y, hy, hz⟩ := he
  have both : ∀ {r2 : R2} {e f : Expr}, chk G a X.env.scope e = true → chk G b X.env.scope f = true → Sv X.K r2 x y d → tOp r2 (wE X e) (wE X f) σ H Q := by
    intro r2 e f h2 h3 sv
    refine ha X e g h2 ρ x hx σ H0 H r _ fun vx H1 H01 x1 r1 => ?_
    refine hb X f g h3 ρ y hy σ H01 H1 (r.grow x1) _ fun vy H2 H02 x2 r2' => ?_
    exact sv H02 H2 vx vy x2.s (r1.mono x2.i) r2' Q fun v H3 H03 x3 r3 => q v H3 H03 (x1.trans (x2.trans x3)) r3
  cases e <;> first | (simp [chk] at hc; done) | skip
  case BinOp e1 op e2 pos =>
    simp only [chk, Bool.and_eq_true] at hc
    obtain ⟨r2, ho, sv⟩ := bin_ok (X := X) hc.1.1 hz
    exact gE (pe_op ho pE pE) (both hc.1.2 hc.2 sv)
  case Compare e1 ops es pos =>
    cases ops with
    | nil => simp [chk] at hc
    | cons op ops =>
      cases ops with
      | cons => simp [chk] at hc
      | nil =>
        cases es with
        | nil => simp [chk] at hc
        | cons e2 es =>
          cases es with
          | cons => simp [chk] at hc
          | nil =>
            simp only [chk, Bool.and_eq_true, Bool.not_eq_true'] at hc
            obtain ⟨r2, ho, sv, _⟩ := cmp_ok (X := X) hc.1.1.1 g.un hz
            exact gE (pe_cmpR ho pE pE hc.1.1.2) (both hc.1.2 hc.2 sv)
theorem soT_op {o : O2} {a b : E} (ha : SoE T G k a) (hb : SoE T G k b) : SoT T G k (.op o a b) := by
  intro X e g hc ρ d he σ H0 H r Q q
  simp only [evE, Option.bind_eq_some_iff] at he
  obtain ⟨x, hx, y, hy, hz⟩ := he
  cases e <;> first | (simp [chkT] at hc; done) | skip
  case Compare e1 ops es pos =>
    cases ops with
    | nil => simp [chkT] at hc
    | cons op ops =>
      cases ops with
      | cons => simp [chkT] at hc
      | nil =>
        cases es with
        | nil => simp [chkT] at hc
        | cons e2 es =>
          cases es with
          | cons => simp [chkT] at hc
          | nil =>
            simp only [chkT, Bool.and_eq_true, Bool.not_eq_true'] at hc
            obtain ⟨r2, ho, sv, _⟩ := cmp_ok (X := X) hc.1.1.1 g.un hz
            refine gT (pt_cmpR ho pE pE hc.1.1.2) ?_
            refine ha X e1 g hc.1.2 ρ x hx σ H0 H r _ fun vx H1 H01 x1 r1 => ?_
            refine hb X e2 g hc.2 ρ y hy σ H01 H1 (r.grow x1) _ fun vy H2 H02 x2 r2' => ?_
            refine sv H02 H2 vx vy x2.s (r1.mono x2.i) r2' _ fun v H3 H03 x3 r3 => ?_
            cases r3
            exact ⟨_, rfl, q H3 H03 (x1.trans (x2.trans x3))⟩
theorem soE_neg {a : E} (ha : SoE T G k a) : SoE T G k (.neg a) := by
  intro X e g hc ρ d he σ H0 H r Q q
  cases e <;> first | (simp [chk] at hc; done) | skip
  rename_i op e1 pos
  cases op <;> first | (simp [chk] at hc; done) | skip
  simp only [chk] at hc
  simp only [evE] at he
  split at he <;> cases he
  rename_i i hi
  refine gE (pe_un un_neg pE) ?_
  refine ha X e1 g hc ρ _ hi σ H0 H r _ fun vx H1 H01 x1 r1 => ?_
  cases r1
  exact ⟨i, rfl, q _ H1 H01 x1 (.int _)⟩
theorem ord_ok {X : Cx} {o : O2} {op : CmpOp} (hb : ordOk o op = true) {x y z : D} (h : o2 o x y = some z) : ∃ r, OpR X (compareOp op) r ∧ Sv X.K r x y z ∧ ∃ b, z = .bool b := by
  cases o <;> cases op <;> first | (simp [ordOk] at hb; done) | skip
  case lt.Lt =>
    cases x <;> cases y <;> first | (simp [o2] at h; done) | skip
    simp only [o2, Option.some.injEq] at h
    subst h
    exact ⟨_, op_lt, sv_I0 fun H0 => .bl _, _, rfl⟩
  case le.LtE =>
    cases x <;> cases y <;> first | (simp [o2] at h; done) | skip
    simp only [o2, Option.some.injEq] at h
    subst h
    exact ⟨_, op_le, sv_I0 fun H0 => .bl _, _, rfl⟩
  case gt.Gt =>
    cases x <;> cases y <;> first | (simp [o2] at h; done) | skip
    simp only [o2, Option.some.injEq] at h
    subst h
    exact ⟨_, op_gt, sv_I0 fun H0 => .bl _, _, rfl⟩
  case ge.GtE =>
    cases x <;> cases y <;> first | (simp [o2] at h; done) | skip
    simp only [o2, Option.some.injEq] at h
    subst h
    exact ⟨_, op_ge, sv_I0 fun H0 => .bl _, _, rfl⟩
/-- an order's operator, whatever is compared -/
theorem ord_any {X : Cx} {o : O2} {op : CmpOp} (hb : ordOk o op = true) : ∃ r, OpR X (compareOp op) r ∧ ∀ x y z, o2 o x y = some z → Sv X.K r x y z := by
  cases o <;> cases op <;> first | (simp [ordOk] at hb; done) | skip
  case lt.Lt => exact ⟨_, op_lt, fun x y z h => by
    cases x <;> cases y <;> first | (simp [o2] at h; done) | skip
    simp only [o2, Option.some.injEq] at h
    subst h
    exact sv_I0 fun H0 => .bl _⟩
  case le.LtE => exact ⟨_, op_le, fun x y z h => by
    cases x <;> cases y <;> first | (simp [o2] at h; done) | skip
    simp only [o2, Option.some.injEq] at h
    subst h
    exact sv_I0 fun H0 => .bl _⟩
  case gt.Gt => exact ⟨_, op_gt, fun x y z h => by
    cases x <;> cases y <;> first | (simp [o2] at h; done) | skip
    simp only [o2, Option.some.injEq] at h
    subst h
    exact sv_I0 fun H0 => .bl _⟩
  case ge.GtE => exact ⟨_, op_ge, fun x y z h => by
    cases x <;> cases y <;> first | (simp [o2] at h; done) | skip
    simp only [o2, Option.some.injEq] at h
    subst h
    exact sv_I0 fun H0 => .bl _⟩
theorem ord_mark {o : O2} {op : CmpOp} {e : Expr} (hb : ordOk o op = true) : behindInMarks op e = false := by
  refine nomark e ?_ ?_ <;> (intro z; subst z; cases o <;> simp [ordOk] at hb)
theorem ord_bool {o : O2} {op : CmpOp} (hb : ordOk o op = true) {x y z : D} (h : o2 o x y = some z) : ∃ b, z = .bool b := by
  cases o <;> cases op <;> first | (simp [ordOk] at hb; done) | (cases x <;> cases y <;> first | (simp [o2] at h; done) | (simp only [o2, Option.some.injEq] at h; exact ⟨_, h.symm⟩))
theorem ev_chain {o p : O2} {a b c : E} {ρ : Rho} {d : D} (he : evE T (.chain o p a b c) ρ = some d) : ∃ x y, evE T a ρ = some x ∧ evE T b ρ = some y ∧
    ((o2 o x y = some (.bool false) ∧ d = .bool false) ∨ (o2 o x y = some (.bool true) ∧ ∃ z, evE T c ρ = some z ∧ o2 p y z = some d)) := by
  simp only [evE, Option.bind_eq_some_iff] at he
  obtain ⟨x, hx, y, hy, hz⟩ := he
  refine ⟨x, y, hx, hy, ?_⟩
  split at hz
  · rename_i h1
    obtain ⟨z, h2, h3⟩ := Option.bind_eq_some_iff.mp hz
    exact Or.inr ⟨h1, z, h2, h3⟩
  · rename_i h1
    cases hz
    exact Or.inl ⟨h1, rfl⟩
  · cases hz
theorem chain_run {X : Cx} {o p : O2} {a b c : E} {e1 e2 e3 : Expr} {r1 r2 : R2} (ha : SoE T G k a) (hb : SoE T G k b) (hc : SoE T G k c) (g : Gd T G k X)
    (h1 : chk G a X.env.scope e1 = true) (h2 : chk G b X.env.scope e2 = true) (h3 : chk G c X.env.scope e3 = true)
    (s1 : ∀ x y z, o2 o x y = some z → Sv X.K r1 x y z) (s2 : ∀ x y z, o2 p x y = some z → Sv X.K r2 x y z)
    {ρ : Rho} {d : D} (he : evE T (.chain o p a b c) ρ = some d) {σ : L2.St} {H0 H : Hp} (r : Rl X.K ρ σ H0 H) {Q : VK} (q : ∀ x H' H0', Xt H0 H H0' H' → Rp X.K H0' x d → Q x H') :
    tChain r1 r2 (wE X e1) (wE X e2) (wE X e3) σ H Q := by
  obtain ⟨x, y, hx, hy, hz⟩ := ev_chain he
  refine ha X e1 g h1 ρ x hx σ H0 H r _ fun vx H1 H01 x1 rx => ?_
  refine hb X e2 g h2 ρ y hy σ H01 H1 (r.grow x1) _ fun vy H2 H02 x2 ry => ?_
  rcases hz with ⟨h4, rfl⟩ | ⟨h4, z, h5, h6⟩
  · refine s1 _ _ _ h4 H02 H2 vx vy x2.s (rx.mono x2.i) ry _ fun v H3 H03 x3 r3 => ?_
    cases r3
    exact ⟨false, rfl, iteF (q _ H3 H03 (x1.trans (x2.trans x3)) (.bl _))⟩
  · refine s1 _ _ _ h4 H02 H2 vx vy x2.s (rx.mono x2.i) ry _ fun v H3 H03 x3 r3 => ?_
    cases r3
    refine ⟨true, rfl, iteT ?_⟩
    refine hc X e3 g h3 ρ z h5 σ H03 H3 (r.grow (x1.trans (x2.trans x3))) _ fun vz H4 H04 x4 rz => ?_
    exact s2 _ _ _ h6 H04 H4 vy vz x4.s (ry.mono (x3.i.trans x4.i)) rz _ fun v H5 H05 x5 r5 => q v H5 H05 (x1.trans (x2.trans (x3.trans (x4.trans x5)))) r5
theorem chain_form {o p : O2} {a b c : E} {sc : Scope} {e : Expr} (h : chk G (.chain o p a b c) sc e = true) : ∃ e1 op oq e2 e3 pos, e = .Compare e1 [op, oq] [e2, e3] pos ∧ ordOk o op = true ∧ ordOk p oq = true ∧ chk G a sc e1 = true ∧ chk G b sc e2 = true ∧ chk G c sc e3 = true := by
  cases e <;> first | (simp [chk] at h; done) | skip
  case Compare e1 ops es pos =>
    match ops, es, h with
    | [op, oq], [e2, e3], h =>
      simp only [chk, Bool.and_eq_true] at h
      exact ⟨e1, op, oq, e2, e3, pos, rfl, h.1.1.1.1, h.1.1.1.2, h.1.1.2, h.1.2, h.2⟩
    | [], _, h => simp [chk] at h
    | [_], _, h => simp [chk] at h
    | _ :: _ :: _ :: _, _, h => simp [chk] at h
    | [_, _], [], h => simp [chk] at h
    | [_, _], [_], h => simp [chk] at h
    | [_, _], _ :: _ :: _ :: _, h => simp [chk] at h
theorem soE_chain {o p : O2} {a b c : E} (ha : SoE T G k a) (hb : SoE T G k b) (hd : SoE T G k c) : SoE T G k (.chain o p a b c) := by
  intro X e g hc ρ d he σ H0 H r Q q
  obtain ⟨e1, op, oq, e2, e3, pos, rfl, o1, o3, h1, h2, h3⟩ := chain_form hc
  obtain ⟨r1, p1, s1⟩ := ord_any (X := X) o1
  obtain ⟨r2, p2, s2⟩ := ord_any (X := X) o3
  exact gE (pe_chain p1 p2 pE pE pE (ord_mark o3)) (chain_run ha hb hd g h1 h2 h3 s1 s2 he r q)
theorem chainT_form {o p : O2} {a b c : E} {sc : Scope} {e : Expr} (h : chkT G (.chain o p a b c) sc e = true) : chk G (.chain o p a b c) sc e = true := by
  cases e <;> first | (simp [chkT] at h; done) | skip
  case Compare e1 ops es pos =>
    match ops, es, h with
    | [op, oq], [e2, e3], h =>
      simp only [chkT] at h
      simp only [chk]
      exact h
    | [], _, h => simp [chkT] at h
    | [_], _, h => simp [chkT] at h
    | _ :: _ :: _ :: _, _, h => simp [chkT] at h
    | [_, _], [], h => simp [chkT] at h
    | [_, _], [_], h => simp [chkT] at h
    | [_, _], _ :: _ :: _ :: _, h => simp [chkT] at h
theorem soT_chain {o p : O2} {a b c : E} (ha : SoE T G k a) (hb : SoE T G k b) (hd : SoE T G k c) : SoT T G k (.chain o p a b c) := by
  intro X e g hc ρ d he σ H0 H r Q q
  obtain ⟨e1, op, oq, e2, e3, pos, rfl, o1, o3, h1, h2, h3⟩ := chain_form (chainT_form hc)
  obtain ⟨r1, p1, s1⟩ := ord_any (X := X) o1
  obtain ⟨r2, p2, s2⟩ := ord_any (X := X) o3
  refine gT (pt_chain p1 p2 pE pE pE (ord_mark o3)) (chain_run ha hb hd g h1 h2 h3 s1 s2 he r fun v H' H0' x1 rv => ?_)
  cases rv
  exact ⟨_, rfl, q H' H0' x1⟩
end
end Fx

namespace Fx
open PySem PySem.Spec PyProof.Rows L2
section
variable {T : Tab} {G : Sig} {k : Nat}
theorem and_ev {a b : E} {ρ : Rho} {d : D} (he : evE T (.and a b) ρ = some d) : (evE T a ρ = some (.bool true) ∧ evE T b ρ = some d) ∨ (evE T a ρ = some (.bool false) ∧ d = .bool false) := by
  simp only [evE] at he
  split at he
  · exact Or.inl ⟨by assumption, he⟩
  · cases he
    exact Or.inr ⟨by assumption, rfl⟩
  · cases he
theorem or_ev {a b : E} {ρ : Rho} {d : D} (he : evE T (.or a b) ρ = some d) : (evE T a ρ = some (.bool true) ∧ d = .bool true) ∨ (evE T a ρ = some (.bool false) ∧ evE T b ρ = some d) := by
  simp only [evE] at he
  split at he
  · cases he
    exact Or.inl ⟨by assumption, rfl⟩
  · exact Or.inr ⟨by assumption, he⟩
  · cases he
theorem soE_and {a b : E} (ha : SoE T G k a) (hb : SoE T G k b) : SoE T G k (.and a b) := by
  intro X e g hc ρ d he σ H0 H r Q q
  cases e <;> first | (simp [chk] at hc; done) | skip
  case BoolOp op es pos =>
    cases op <;> first | (simp [chk] at hc; done) | skip
    match es, hc with
    | [], hc => simp [chk] at hc
    | [_], hc => simp [chk] at hc
    | [e1, e2], hc =>
      simp only [chk, Bool.and_eq_true] at hc
      refine gE (pe_and pE (pe_one pE)) ?_
      rcases and_ev he with ⟨h1, h2⟩ | ⟨h1, rfl⟩
      · refine ha X e1 g hc.1 ρ _ h1 σ H0 H r _ fun vx H1 H01 x1 r1 => ?_
        cases r1
        exact ⟨true, rfl, iteT (hb X e2 g hc.2 ρ _ h2 σ H01 H1 (r.grow x1) _ fun v H2 H02 x2 r2 => q v H2 H02 (x1.trans x2) r2)⟩
      · refine ha X e1 g hc.1 ρ _ h1 σ H0 H r _ fun vx H1 H01 x1 r1 => ?_
        cases r1
        exact ⟨false, rfl, iteF (q _ H1 H01 x1 (.bl _))⟩
    | e1 :: e2 :: e3 :: es, hc =>
      simp only [chk, Bool.and_eq_true] at hc
      refine gE (pe_and pE pE) ?_
      rcases and_ev he with ⟨h1, h2⟩ | ⟨h1, rfl⟩
      · refine ha X e1 g hc.1 ρ _ h1 σ H0 H r _ fun vx H1 H01 x1 r1 => ?_
        cases r1
        exact ⟨true, rfl, iteT (hb X (.BoolOp .And (e2 :: e3 :: es) pos) g hc.2 ρ _ h2 σ H01 H1 (r.grow x1) _ fun v H2 H02 x2 r2 => q v H2 H02 (x1.trans x2) r2)⟩
      · refine ha X e1 g hc.1 ρ _ h1 σ H0 H r _ fun vx H1 H01 x1 r1 => ?_
        cases r1
        exact ⟨false, rfl, iteF (q _ H1 H01 x1 (.bl _))⟩
theorem soE_or {a b : E} (ha : SoE T G k a) (hb : SoE T G k b) : SoE T G k (.or a b) := by
  intro X e g hc ρ d he σ H0 H r Q q
  cases e <;> first | (simp [chk] at hc; done) | skip
  case BoolOp op es pos =>
    cases op <;> first | (simp [chk] at hc; done) | skip
    match es, hc with
    | [], hc => simp [chk] at hc
    | [_], hc => simp [chk] at hc
    | [e1, e2], hc =>
      simp only [chk, Bool.and_eq_true] at hc
      refine gE (pe_or pE (pe_one pE)) ?_
      rcases or_ev he with ⟨h1, rfl⟩ | ⟨h1, h2⟩
      · refine ha X e1 g hc.1 ρ _ h1 σ H0 H r _ fun vx H1 H01 x1 r1 => ?_
        cases r1
        exact ⟨true, rfl, iteT (q _ H1 H01 x1 (.bl _))⟩
      · refine ha X e1 g hc.1 ρ _ h1 σ H0 H r _ fun vx H1 H01 x1 r1 => ?_
        cases r1
        exact ⟨false, rfl, iteF (hb X e2 g hc.2 ρ _ h2 σ H01 H1 (r.grow x1) _ fun v H2 H02 x2 r2 => q v H2 H02 (x1.trans x2) r2)⟩
    | e1 :: e2 :: e3 :: es, hc =>
      simp only [chk, Bool.and_eq_true] at hc
      refine gE (pe_or pE pE) ?_
      rcases or_ev he with ⟨h1, rfl⟩ | ⟨h1, h2⟩
      · refine ha X e1 g hc.1 ρ _ h1 σ H0 H r _ fun vx H1 H01 x1 r1 => ?_
        cases r1
        exact ⟨true, rfl, iteT (q _ H1 H01 x1 (.bl _))⟩
      · refine ha X e1 g hc.1 ρ _ h1 σ H0 H r _ fun vx H1 H01 x1 r1 => ?_
        cases r1
        exact ⟨false, rfl, iteF (hb X (.BoolOp .Or (e2 :: e3 :: es) pos) g hc.2 ρ _ h2 σ H01 H1 (r.grow x1) _ fun v H2 H02 x2 r2 => q v H2 H02 (x1.trans x2) r2)⟩
/-- the test of a BoolOp does not look at its whole -/
theorem wB_of {X : Cx} {op : BoolOp} {es : List Expr} {pos : Pos} {σ : L2.St} {H : Hp} {Q : Bool → Hp → Prop} (h : wT X (.BoolOp op es pos) σ H Q) : wB X (.BoolOp op es pos) σ H Q := fun w pins s I => by
  have z := h pins s I
  have e1 : ∀ w, isTrue (.BoolOp op es pos) X.env w = allTrue op es X.env := fun _ => rfl
  rw [e1] at z ⊢
  exact z
theorem soT_and {a b : E} (ha : SoT T G k a) (hb : SoT T G k b) : SoT T G k (.and a b) := by
  intro X e g hc ρ d he σ H0 H r Q q
  cases e <;> first | (simp [chkT] at hc; done) | skip
  case BoolOp op es pos =>
    cases op <;> first | (simp [chkT] at hc; done) | skip
    match es, hc with
    | [], hc => simp [chkT] at hc
    | [_], hc => simp [chkT] at hc
    | [e1, e2], hc =>
      simp only [chkT, Bool.and_eq_true] at hc
      refine gT (PW.pt (pw_and pT (pw_and1 pT))) ?_
      rcases and_ev he with ⟨h1, h2⟩ | ⟨h1, h2⟩
      · refine ha X e1 g hc.1 ρ _ h1 σ H0 H r _ fun H1 H01 x1 => ?_
        exact iteT (hb X e2 g hc.2 ρ _ h2 σ H01 H1 (r.grow x1) _ fun H2 H02 x2 => q H2 H02 (x1.trans x2))
      · cases h2
        refine ha X e1 g hc.1 ρ _ h1 σ H0 H r _ fun H1 H01 x1 => ?_
        exact iteF (q H1 H01 x1)
    | e1 :: e2 :: e3 :: es, hc =>
      simp only [chkT, Bool.and_eq_true] at hc
      refine gT (PW.pt (pw_and pT pB)) ?_
      rcases and_ev he with ⟨h1, h2⟩ | ⟨h1, h2⟩
      · refine ha X e1 g hc.1 ρ _ h1 σ H0 H r _ fun H1 H01 x1 => ?_
        exact iteT (wB_of (hb X (.BoolOp .And (e2 :: e3 :: es) pos) g hc.2 ρ _ h2 σ H01 H1 (r.grow x1) _ fun H2 H02 x2 => q H2 H02 (x1.trans x2)))
      · cases h2
        refine ha X e1 g hc.1 ρ _ h1 σ H0 H r _ fun H1 H01 x1 => ?_
        exact iteF (q H1 H01 x1)
theorem soT_or {a b : E} (ha : SoT T G k a) (hb : SoT T G k b) : SoT T G k (.or a b) := by
  intro X e g hc ρ d he σ H0 H r Q q
  cases e <;> first | (simp [chkT] at hc; done) | skip
  case BoolOp op es pos =>
    cases op <;> first | (simp [chkT] at hc; done) | skip
    match es, hc with
    | [], hc => simp [chkT] at hc
    | [_], hc => simp [chkT] at hc
    | [e1, e2], hc =>
      simp only [chkT, Bool.and_eq_true] at hc
      refine gT (PW.pt (pw_or pT (pw_or1 pT))) ?_
      rcases or_ev he with ⟨h1, h2⟩ | ⟨h1, h2⟩
      · cases h2
        refine ha X e1 g hc.1 ρ _ h1 σ H0 H r _ fun H1 H01 x1 => ?_
        exact iteT (q H1 H01 x1)
      · refine ha X e1 g hc.1 ρ _ h1 σ H0 H r _ fun H1 H01 x1 => ?_
        exact iteF (hb X e2 g hc.2 ρ _ h2 σ H01 H1 (r.grow x1) _ fun H2 H02 x2 => q H2 H02 (x1.trans x2))
    | e1 :: e2 :: e3 :: es, hc =>
      simp only [chkT, Bool.and_eq_true] at hc
      refine gT (PW.pt (pw_or pT pB)) ?_
      rcases or_ev he with ⟨h1, h2⟩ | ⟨h1, h2⟩
      · cases h2
        refine ha X e1 g hc.1 ρ _ h1 σ H0 H r _ fun H1 H01 x1 => ?_
        exact iteT (q H1 H01 x1)
      · refine ha X e1 g hc.1 ρ _ h1 σ H0 H r _ fun H1 H01 x1 => ?_
        exact iteF (wB_of (hb X (.BoolOp .Or (e2 :: e3 :: es) pos) g hc.2 ρ _ h2 σ H01 H1 (r.grow x1) _ fun H2 H02 x2 => q H2 H02 (x1.trans x2)))
theorem not_ev {a : E} {ρ : Rho} {d : D} (he : evE T (.not a) ρ = some d) : ∃ b, evE T a ρ = some (.bool b) ∧ d = .bool (!b) := by
  simp only [evE] at he
  split at he
  · cases he
    exact ⟨_, by assumption, rfl⟩
  · cases he
theorem soE_not {a : E} (ha : SoE T G k a) : SoE T G k (.not a) := by
  intro X e g hc ρ d he σ H0 H r Q q
  cases e <;> first | (simp [chk] at hc; done) | skip
  rename_i op e1 pos
  cases op <;> first | (simp [chk] at hc; done) | skip
  simp only [chk] at hc
  obtain ⟨b, h1, rfl⟩ := not_ev he
  refine gE (pe_not pE) ?_
  refine ha X e1 g hc ρ _ h1 σ H0 H r _ fun vx H1 H01 x1 r1 => ?_
  cases r1
  exact ⟨b, rfl, q _ H1 H01 x1 (.bl _)⟩
theorem soT_not {a : E} (ha : SoT T G k a) : SoT T G k (.not a) := by
  intro X e g hc ρ d he σ H0 H r Q q
  cases e <;> first | (simp [chkT] at hc; done) | skip
  rename_i op e1 pos
  cases op <;> first | (simp [chkT] at hc; done) | skip
  simp only [chkT] at hc
  obtain ⟨b, h1, h2⟩ := not_ev he
  cases h2
  refine gT (pt_not pT) ?_
  exact ha X e1 g hc ρ _ h1 σ H0 H r _ fun H1 H01 x1 => q H1 H01 x1
/-- a test by its value -/
theorem soT_val {a : E} (ha : SoE T G k a) {X : Cx} {e : Expr} (g : Gd T G k X) (hc : chk G a X.env.scope e = true) (hp : plainT e = true) {ρ : Rho} {b : Bool} (he : evE T a ρ = some (.bool b)) {σ : L2.St} {H0 H : Hp} (r : Rl X.K ρ σ H0 H)
    {Q : Bool → Hp → Prop} (q : ∀ H' H0', Xt H0 H H0' H' → Q b H') : wT X e σ H Q := by
  refine gT (pt_val pE (tru0 hp)) ?_
  refine ha X e g hc ρ _ he σ H0 H r _ fun vx H1 H01 x1 r1 => ?_
  cases r1
  exact ⟨b, rfl, q H1 H01 x1⟩
theorem tru_of {K : PySem.W.Frag} {H0 H : Hp} {x : D} {vx : V} {b : Bool} (e : Ex H0 H) (rx : Rp K H0 vx x) (h : trD x = some b) : TruV K vx H b := by
  cases rx with
  | non => cases h; exact rfl
  | bl c => cases h; exact rfl
  | int i => cases h; exact rfl
  | str z =>
    simp only [trD] at h
    split at h <;> cases h
    rename_i hl
    exact ⟨hl, by rw [Bool.eq_iff_iff]; simp [bne_iff_ne]⟩
  | lst h1 r1 =>
    simp only [trD, Option.some.injEq] at h
    refine Or.inl ⟨_, Or.inl (e.rd h1), ?_⟩
    subst h
    cases r1 <;> rfl
  | tup h1 r1 =>
    simp only [trD, Option.some.injEq] at h
    refine Or.inr (Or.inl ⟨_, e.sqt h1, ?_⟩)
    subst h
    cases r1 <;> rfl
  | scr h1 => cases h
theorem soT_tru {a : E} (ha : SoE T G k a) : SoT T G k (.tru a) := by
  intro X e g hc ρ d he σ H0 H r Q q
  simp only [evE, Option.bind_eq_some_iff, Option.map_eq_some_iff] at he
  obtain ⟨x, h1, b, h2, h3⟩ := he
  cases h3
  have hc' : plainT e = true ∧ chk G a X.env.scope e = true := by
    cases e <;> simp only [chkT, Bool.and_eq_true] at hc <;> exact hc
  refine gT (pt_truth pE (tru0 hc'.1)) ?_
  refine ha X e g hc'.2 ρ _ h1 σ H0 H r _ fun vx H1 H01 x1 r1 => ?_
  exact ⟨d, tru_of x1.s r1 h2, q H1 H01 x1⟩
theorem soE_ite {c a b : E} (hc' : SoT T G k c) (ha : SoE T G k a) (hb : SoE T G k b) : SoE T G k (.ite c a b) := by
  intro X e g hc ρ d he σ H0 H r Q q
  cases e <;> first | (simp [chk] at hc; done) | skip
  case IfExp e1 e2 e3 pos =>
    simp only [chk, Bool.and_eq_true] at hc
    refine gE (pe_ifExp pT pE pE) ?_
    simp only [evE] at he
    split at he
    · rename_i h1
      refine hc' X e1 g hc.1.1 ρ _ h1 σ H0 H r _ fun H1 H01 x1 => ?_
      exact iteT (ha X e2 g hc.1.2 ρ _ he σ H01 H1 (r.grow x1) _ fun v H2 H02 x2 r2 => q v H2 H02 (x1.trans x2) r2)
    · rename_i h1
      refine hc' X e1 g hc.1.1 ρ _ h1 σ H0 H r _ fun H1 H01 x1 => ?_
      exact iteF (hb X e3 g hc.2 ρ _ he σ H01 H1 (r.grow x1) _ fun v H2 H02 x2 r2 => q v H2 H02 (x1.trans x2) r2)
    · cases he
theorem soE_call {f : Nat} {es : Es} (hs : SoA T G k es) : SoE T G k (.call f es) := by
  intro X e g hc ρ d he σ H0 H r Q q
  cases e <;> first | (simp [chk] at hc; done) | skip
  case Call fe as kws pos =>
    cases fe <;> first | (simp [chk] at hc; done) | skip
    cases kws <;> first | (simp [chk] at hc; done) | skip
    simp only [chk, Bool.and_eq_true, decide_eq_true_eq] at hc
    obtain ⟨⟨⟨h1, hcm⟩, h2⟩, h3⟩ := hc
    simp only [evE, Option.bind_eq_some_iff] at he
    obtain ⟨xs, h4, h5⟩ := he
    split at h5
    · rename_i m hm
      obtain ⟨fa, fd, ps, F, mgf, kp, bd⟩ := g.fn _ _ _ h1 hm
      have st := chks_star h3
      cases as with
      | nil =>
        refine gE (pe_call0 (E := E0) F (g.room hcm) (gl_X h2) mgf kp bd .nil pass0 (gl_of h2).2.1) ?_
        cases es with
        | cons => simp [chks] at h3
        | nil =>
          cases h4
          refine ⟨[], d, H0, r.ex, .nil, h5, fun x H' H0' x1 r1 => q x H' H0' x1 r1⟩
      | cons a as =>
        rw [List.all_cons, Bool.and_eq_true] at st
        refine gE (pe_call (E := E0) F (g.room hcm) (gl_X h2) mgf kp bd .nil pass0 pA (gl_of h2).2.1 (star1 st.1) (starB st.2)) ?_
        refine hs X _ g h3 ρ _ h4 σ H0 H r _ fun vs H1 H01 x1 r1 => ?_
        refine ⟨xs, d, H01, x1.s, by rw [List.append_nil]; exact r1, h5, fun x H' H0' x2 r2 => q x H' H0' (x1.trans x2) r2⟩
    · cases h5
end
end Fx

namespace Fx
open PySem PySem.Spec PyProof.Rows L2
section
variable {T : Tab} {G : Sig} {k : Nat}
theorem RpAll.one {K : PySem.W.Frag} {H : Hp} {vs : List V} {d : D} (r : RpAll K H vs [d]) : ∃ v, vs = [v] ∧ Rp K H v d := by
  cases r with
  | cons h t =>
    cases t
    exact ⟨_, rfl, h⟩
theorem RpAll.two {K : PySem.W.Frag} {H : Hp} {vs : List V} {d e : D} (r : RpAll K H vs [d, e]) : ∃ v w, vs = [v, w] ∧ Rp K H v d ∧ Rp K H w e := by
  cases r with
  | cons h t =>
    obtain ⟨w, rfl, hw⟩ := t.one
    exact ⟨_, _, rfl, h, hw⟩
/-- a built-in serves data -/
def SvB (K : PySem.W.Frag) (r : List V → Hp → VK → Prop) (xs : List D) (z : D) : Prop := ∀ H0 H vs, Ex H0 H → RpAll K H0 vs xs → ∀ Q : VK, (∀ v H' H0', Xt H0 H H0' H' → Rp K H0' v z → Q v H') → r vs H Q
inductive BtV : Bt → Value → Prop
  | len : BtV .len (.builtin "len")
  | int : BtV .int (.type "int")
  | str : BtV .str (.type "str")
  | list : BtV .list (.type "list")
  | tuple : BtV .tuple (.type "tuple")
  | max : BtV .max (.builtin "max")
  | min : BtV .min (.builtin "min")
  | divmod : BtV .divmod (.builtin "divmod")
  | abs : BtV .abs (.builtin "abs")
  | all : BtV .all (.builtin "all")
  | any : BtV .any (.builtin "any")
  | sum : BtV .sum (.builtin "sum")
theorem bools_eq : ∀ {ds : List D} {bs : List Bool}, boolsD ds = some bs → ds = bs.map PyData.bool
  | [], _, h => by
    cases h
    rfl
  | d :: r, bs, h => by
    cases d <;> first | (simp [boolsD] at h; done) | skip
    simp only [boolsD, Option.map_eq_some_iff] at h
    obtain ⟨cs, h1, rfl⟩ := h
    rw [bools_eq h1] <;> rfl
theorem ints_eq : ∀ {ds : List D} {bs : List Int}, intsD ds = some bs → ds = bs.map PyData.int
  | [], _, h => by
    cases h
    rfl
  | d :: r, bs, h => by
    cases d <;> first | (simp [intsD] at h; done) | skip
    simp only [intsD, Option.map_eq_some_iff] at h
    obtain ⟨cs, h1, rfl⟩ := h
    rw [ints_eq h1] <;> rfl
theorem foldl_max : ∀ (r : List Int) (n : Int), r.foldl max n ∈ n :: r ∧ ∀ y ∈ n :: r, y ≤ r.foldl max n
  | [], n => ⟨by simp, fun y hy => by simp at hy; simp [hy]⟩
  | k :: r, n => by
    obtain ⟨h1, h2⟩ := foldl_max r (max n k)
    show r.foldl max (max n k) ∈ n :: k :: r ∧ _
    refine ⟨?_, fun y hy => ?_⟩
    · rw [List.mem_cons] at h1
      rcases h1 with h1 | h1
      · rw [h1]
        rcases Int.le_total n k with z | z
        · rw [Int.max_eq_right z]
          simp
        · rw [Int.max_eq_left z]
          simp
      · simp [h1]
    · have h3 : max n k ≤ r.foldl max (max n k) := h2 _ List.mem_cons_self
      rw [List.mem_cons, List.mem_cons] at hy
      show y ≤ r.foldl max (max n k)
      rcases hy with rfl | rfl | hy
      · exact Int.le_trans (Int.le_max_left _ _) h3
      · exact Int.le_trans (Int.le_max_right _ _) h3
      · exact h2 _ (List.mem_cons_of_mem _ hy)
theorem maxL_of {ns : List Int} {m : Int} (h : maxL ns = some m) : m ∈ ns ∧ ∀ y ∈ ns, y ≤ m := by
  cases ns with
  | nil => cases h
  | cons n r =>
    cases h
    exact foldl_max r n
theorem bt_ok {X : Cx} {b : Bt} (hc : btq b = false → X.calm = true) {xs : List D} {z : D} (h : bt b xs = some z) : ∃ f r, BtV b f ∧ CallR X f r ∧ SvB X.K r xs z := by
  cases b
  case len =>
    refine ⟨_, _, .len, call_len, ?_⟩
    intro H0 H vs e rs Q q
    match xs, h with
    | [.list x], h =>
      cases h
      obtain ⟨v, rfl, rv⟩ := rs.one
      cases rv with
      | lst h1 r1 =>
        rename_i a ys
        refine ⟨_, ys.length, rfl, Or.inl ⟨_, Or.inl (e.rd h1), rfl⟩, ?_⟩
        rw [r1.len]
        exact q _ H H0 (Xt.refl e) (.int _)
    | [.tuple x], h =>
      cases h
      obtain ⟨v, rfl, rv⟩ := rs.one
      cases rv with
      | tup h1 r1 =>
        rename_i a ys
        refine ⟨_, ys.length, rfl, Or.inr ⟨_, e.sqt h1, rfl⟩, ?_⟩
        rw [r1.len]
        exact q _ H H0 (Xt.refl e) (.int _)
    | [.str x], h =>
      simp only [bt] at h
      split at h <;> cases h
      rename_i hl
      obtain ⟨v, rfl, rv⟩ := rs.one
      cases rv
      exact ⟨_, x.length, rfl, ⟨hl, rfl⟩, q _ H H0 (Xt.refl e) (.int _)⟩
    | [], h => simp [bt] at h
    | _ :: _ :: _, h => simp [bt] at h
    | [.none], h => simp [bt] at h
    | [.bool _], h => simp [bt] at h
    | [.int _], h => simp [bt] at h
    | [.dict x], h =>
      cases h
      obtain ⟨v, rfl, rv⟩ := rs.one
      cases rv with
      | scr h1 =>
        rename_i a ns
        refine ⟨_, (ns.map V.int).length, rfl, Or.inl ⟨_, e.sql h1, rfl⟩, ?_⟩
        rw [List.length_map] at q ⊢
        exact q _ H H0 (Xt.refl e) (.int _)
  case int =>
    by_cases hs : ∃ x, xs = [.str x]
    · obtain ⟨x, rfl⟩ := hs
      simp only [bt] at h
      split at h <;> try cases h
      rename_i hl
      rw [Option.map_eq_some_iff] at h
      obtain ⟨n, h1, rfl⟩ := h
      refine ⟨_, _, .int, call_int_str, ?_⟩
      intro H0 H vs e rs Q q
      obtain ⟨v, rfl, rv⟩ := rs.one
      cases rv
      exact ⟨_, _, rfl, h1, hl, q _ H H0 (Xt.refl e) (.int _)⟩
    refine ⟨_, _, .int, call_int1, ?_⟩
    intro H0 H vs e rs Q q
    match xs, h with
    | [.int x], h =>
      cases h
      obtain ⟨v, rfl, rv⟩ := rs.one
      cases rv
      exact Or.inl ⟨_, rfl, q _ H H0 (Xt.refl e) (.int _)⟩
    | [.bool x], h =>
      cases h
      obtain ⟨v, rfl, rv⟩ := rs.one
      cases rv
      exact Or.inr ⟨_, rfl, q _ H H0 (Xt.refl e) (.int _)⟩
    | [], h => simp [bt] at h
    | _ :: _ :: _, h => simp [bt] at h
    | [.none], h => simp [bt] at h
    | [.str _], h => exact absurd ⟨_, rfl⟩ hs
    | [.list _], h => simp [bt] at h
    | [.tuple _], h => simp [bt] at h
    | [.dict _], h => simp [bt] at h
  case str =>
    by_cases hs : ∃ x, xs = [.str x]
    · obtain ⟨x, rfl⟩ := hs
      cases h
      refine ⟨_, _, .str, SkE.call_str_str, ?_⟩
      intro H0 H vs e rs Q q
      obtain ⟨v, rfl, rv⟩ := rs.one
      cases rv
      exact ⟨_, rfl, q _ H H0 (Xt.refl e) (.str _)⟩
    refine ⟨_, _, .str, call_str_int, ?_⟩
    intro H0 H vs e rs Q q
    match xs, h with
    | [.int x], h =>
      simp only [bt] at h
      split at h <;> cases h
      rename_i hl
      obtain ⟨v, rfl, rv⟩ := rs.one
      cases rv
      exact ⟨_, rfl, hl, q _ H H0 (Xt.refl e) (.str _)⟩
    | [], h => simp [bt] at h
    | _ :: _ :: _, h => simp [bt] at h
    | [.none], h => simp [bt] at h
    | [.bool _], h => simp [bt] at h
    | [.str _], h => exact absurd ⟨_, rfl⟩ hs
    | [.list _], h => simp [bt] at h
    | [.tuple _], h => simp [bt] at h
    | [.dict _], h => simp [bt] at h
  case list =>
    refine ⟨_, _, .list, call_list_of, ?_⟩
    intro H0 H vs e rs Q q
    match xs, h with
    | [.list x], h =>
      cases h
      obtain ⟨v, rfl, rv⟩ := rs.one
      cases rv with
      | lst h1 r1 =>
        refine ⟨_, _, rfl, Or.inl (Or.inl (e.rd h1)), fun l hl => ?_⟩
        rename_i a ys
        have X1 := Xt.new e hl (o := .lst ys)
        exact q _ _ _ X1 (.lst (Or.inl upd_same) (r1.mono X1.i))
    | [.tuple x], h =>
      cases h
      obtain ⟨v, rfl, rv⟩ := rs.one
      cases rv with
      | tup h1 r1 =>
        refine ⟨_, _, rfl, Or.inr (e.sqt h1), fun l hl => ?_⟩
        rename_i a ys
        have X1 := Xt.new e hl (o := .lst ys)
        exact q _ _ _ X1 (.lst (Or.inl upd_same) (r1.mono X1.i))
    | [], h => simp [bt] at h
    | _ :: _ :: _, h => simp [bt] at h
    | [.none], h => simp [bt] at h
    | [.bool _], h => simp [bt] at h
    | [.int _], h => simp [bt] at h
    | [.str _], h => simp [bt] at h
    | [.dict _], h => simp [bt] at h
  case tuple =>
    refine ⟨_, _, .tuple, call_tuple_of, ?_⟩
    intro H0 H vs e rs Q q
    match xs, h with
    | [.list x], h =>
      cases h
      obtain ⟨v, rfl, rv⟩ := rs.one
      cases rv with
      | lst h1 r1 =>
        refine ⟨_, _, rfl, Or.inl ⟨Or.inl (e.rd h1), fun l hl => ?_⟩⟩
        rename_i a ys
        have X1 := Xt.new e hl (o := .tup ys)
        exact q _ _ _ X1 (.tup (Or.inl (Or.inl upd_same)) (r1.mono X1.i))
    | [.tuple x], h =>
      cases h
      obtain ⟨v, rfl, rv⟩ := rs.one
      cases rv with
      | tup h1 r1 => exact ⟨_, _, rfl, Or.inr ⟨e.sqt h1, q _ H H0 (Xt.refl e) (.tup h1 r1)⟩⟩
    | [], h => simp [bt] at h
    | _ :: _ :: _, h => simp [bt] at h
    | [.none], h => simp [bt] at h
    | [.bool _], h => simp [bt] at h
    | [.int _], h => simp [bt] at h
    | [.str _], h => simp [bt] at h
    | [.dict _], h => simp [bt] at h
  case max =>
    by_cases hs : ∃ x, xs = [.list x]
    · obtain ⟨x, rfl⟩ := hs
      simp only [bt, Option.bind_eq_some_iff, Option.map_eq_some_iff] at h
      obtain ⟨ns, h1, m, h2, rfl⟩ := h
      refine ⟨_, _, .max, cr_max (hc rfl), ?_⟩
      intro H0 H vs e rs Q q
      obtain ⟨v, rfl, rv⟩ := rs.one
      rw [ints_eq h1] at rv
      cases rv with
      | lst h3 r1 =>
        refine ⟨_, ns, rfl, ?_, ?_, fun m' h4 h5 => ?_⟩
        · rw [← r1.intsV]
          exact Or.inl (e.rd h3)
        · cases ns with
          | nil => cases h2
          | cons => exact Nat.zero_lt_succ _
        · obtain ⟨h6, h7⟩ := maxL_of h2
          have e6 : m' = m := Int.le_antisymm (h7 _ h4) (h5 _ h6)
          subst e6
          exact q _ H H0 (Xt.refl e) (.int _)
    refine ⟨_, _, .max, call_max2 (hc rfl), ?_⟩
    intro H0 H vs e rs Q q
    match xs, h with
    | [.int x, .int y], h =>
      cases h
      obtain ⟨v, w, rfl, rv, rw'⟩ := rs.two
      cases rv
      cases rw'
      exact ⟨_, _, rfl, q _ H H0 (Xt.refl e) (.int _)⟩
    | [.list _], h => exact absurd ⟨_, rfl⟩ hs
    | [], h => simp [bt] at h
    | [.none], h => simp [bt] at h
    | [.bool _], h => simp [bt] at h
    | [.int _], h => simp [bt] at h
    | [.str _], h => simp [bt] at h
    | [.tuple _], h => simp [bt] at h
    | [.dict _], h => simp [bt] at h
  case min =>
    refine ⟨_, _, .min, call_min2 (hc rfl), ?_⟩
    intro H0 H vs e rs Q q
    match xs, h with
    | [.int x, .int y], h =>
      cases h
      obtain ⟨v, w, rfl, rv, rw'⟩ := rs.two
      cases rv
      cases rw'
      exact ⟨_, _, rfl, q _ H H0 (Xt.refl e) (.int _)⟩
  case divmod =>
    refine ⟨_, _, .divmod, call_divmod, ?_⟩
    intro H0 H vs e rs Q q
    match xs, h with
    | [.int x, .int y], h =>
      simp only [bt] at h
      split at h <;> try cases h
      split at h <;> cases h
      rename_i h1 h2
      obtain ⟨v, w, rfl, rv, rw'⟩ := rs.two
      cases rv
      cases rw'
      refine ⟨_, _, rfl, ⟨h1, h2⟩, fun l hl => ?_⟩
      have X1 := Xt.new e hl (o := .tup [.int (x / y), .int (x % y)])
      exact q _ _ _ X1 (.tup (Or.inl (Or.inl upd_same)) (.cons (.int _) (.cons (.int _) .nil)))
  case abs =>
    refine ⟨_, _, .abs, call_abs, ?_⟩
    intro H0 H vs e rs Q q
    match xs, h with
    | [.int x], h =>
      cases h
      obtain ⟨v, rfl, rv⟩ := rs.one
      cases rv
      exact ⟨_, rfl, q _ H H0 (Xt.refl e) (.int _)⟩
  case all =>
    refine ⟨_, _, .all, cr_all (hc rfl), ?_⟩
    intro H0 H vs e rs Q q
    match xs, h with
    | [.list x], h =>
      simp only [bt, Option.map_eq_some_iff] at h
      obtain ⟨bs, h1, rfl⟩ := h
      obtain ⟨v, rfl, rv⟩ := rs.one
      rw [bools_eq h1] at rv
      cases rv with
      | lst h2 r1 =>
        refine ⟨_, bs, rfl, ?_, q _ H H0 (Xt.refl e) (.bl _)⟩
        rw [← r1.bls]
        exact Or.inl (e.rd h2)
  case any =>
    refine ⟨_, _, .any, cr_any (hc rfl), ?_⟩
    intro H0 H vs e rs Q q
    match xs, h with
    | [.list x], h =>
      simp only [bt, Option.map_eq_some_iff] at h
      obtain ⟨bs, h1, rfl⟩ := h
      obtain ⟨v, rfl, rv⟩ := rs.one
      rw [bools_eq h1] at rv
      cases rv with
      | lst h2 r1 =>
        refine ⟨_, bs, rfl, ?_, q _ H H0 (Xt.refl e) (.bl _)⟩
        rw [← r1.bls]
        exact Or.inl (e.rd h2)
  case sum =>
    refine ⟨_, _, .sum, cr_sum (hc rfl), ?_⟩
    intro H0 H vs e rs Q q
    match xs, h with
    | [.list x], h =>
      simp only [bt, Option.map_eq_some_iff] at h
      obtain ⟨bs, h1, rfl⟩ := h
      obtain ⟨v, rfl, rv⟩ := rs.one
      rw [ints_eq h1] at rv
      cases rv with
      | lst h2 r1 =>
        refine ⟨_, bs, rfl, ?_, q _ H H0 (Xt.refl e) (.int _)⟩
        rw [← r1.intsV]
        exact Or.inl (e.rd h2)
theorem chks_cons {es : Es} {sc : Scope} {as : List Expr} (h : chks G es sc as = true) {ρ : Rho} {xs : List D} (he : evEs T es ρ = some xs) : as.length = xs.length := by
  induction as generalizing es xs with
  | nil =>
    cases es with
    | nil =>
      cases he
      rfl
    | cons => simp [chks] at h
  | cons a as ih =>
    cases es with
    | nil => simp [chks] at h
    | cons e es =>
      simp only [chks, Bool.and_eq_true] at h
      simp only [evEs, Option.bind_eq_some_iff] at he
      obtain ⟨x, _, ys, h2, h3⟩ := he
      cases h3
      rw [List.length_cons, List.length_cons, ih h.2 h2]
theorem bt_boot {b : Bt} {f : Value} (h : BtV b f) : bootBuiltins (btName b) = some f := by
  cases h <;> decide +kernel
theorem bt_mem (b : Bt) : btName b ∈ bNames := by
  cases b <;> decide +kernel
theorem soE_bc {b : Bt} {es : Es} (hs : SoA T G k es) : SoE T G k (.bc b es) := by
  intro X e g hc ρ d he σ H0 H r Q q
  cases e <;> first | (simp [chk] at hc; done) | skip
  case Call fe as kws pos =>
    cases fe <;> first | (simp [chk] at hc; done) | skip
    cases kws <;> first | (simp [chk] at hc; done) | skip
    case Name.nil x p =>
    simp only [chk, Bool.and_eq_true, decide_eq_true_eq] at hc
    obtain ⟨⟨⟨rfl, hq⟩, h2⟩, h3⟩ := hc
    simp only [evE, Option.bind_eq_some_iff] at he
    obtain ⟨xs, h4, h5⟩ := he
    obtain ⟨f, r2, bv, cr, sv⟩ := bt_ok (X := X) (fun z => g.calm (by simpa [z] using hq)) h5
    have st := chks_star h3
    have ln := chks_cons h3 h4
    cases as with
    | nil =>
      exfalso
      cases xs with
      | nil => cases b <;> simp [bt] at h5
      | cons => simp at ln
    | cons a as =>
      rw [List.all_cons, Bool.and_eq_true] at st
      have mg : X.mg (btName b) = none := g.bt _ (bt_mem b)
      have go : tCB r2 (wA X (a :: as)) σ H Q := by
        refine hs X _ g h3 ρ _ h4 σ H0 H r _ fun vs H1 H01 x1 r1 => ?_
        exact sv H01 H1 vs x1.s r1 Q fun v H2 H02 x2 r2 => q v H2 H02 (x1.trans x2) r2
      have gg := gl_of h2
      cases bv <;> first
        | exact gE (pe_callB cr (gl_X h2) mg (bt_boot (by constructor)) pA gg.2.2 gg.2.1 (star1 st.1) (starB st.2)) go
        | exact gE (pe_callTy cr (gl_X h2) mg (bt_boot (by constructor)) pA gg.2.2 gg.2.1 (star1 st.1) (starB st.2)) go
end
end Fx

namespace Fx
open PySem PySem.Spec PyProof.Rows L2
section
variable {T : Tab} {G : Sig} {k : Nat}
theorem ixN_len {α β : Type} {xs : List α} {ys : List β} (h : xs.length = ys.length) (i : Int) : ixN xs.length i = ixN ys.length i := by rw [h]
theorem atI_rp {K : PySem.W.Frag} {H : Hp} {vs : List V} {ds : List D} {i : Int} {d : D} (r : RpAll K H vs ds) (h : atI ds i = some d) : ∃ v, atI vs i = some v ∧ Rp K H v d := by
  unfold atI at h ⊢
  rw [r.len]
  cases e : ixN ds.length i with
  | none =>
    rw [e] at h
    cases h
  | some j =>
    rw [e] at h
    exact r.get j h
theorem soE_ix {a i : E} (ha : SoE T G k a) (hi : SoE T G k i) : SoE T G k (.ix a i) := by
  intro X e g hc ρ d he σ H0 H r Q q
  cases e <;> first | (simp [chk] at hc; done) | skip
  case Subscript e1 e2 pos =>
    simp only [chk, Bool.and_eq_true] at hc
    simp only [evE, Option.bind_eq_some_iff] at he
    obtain ⟨x, h1, y, h2, h3⟩ := he
    have go : ∀ {r2 : R2}, (∀ H02 H2 vx vy, Ex H02 H2 → Rp X.K H02 vx x → Rp X.K H02 vy y → ∀ Q : VK, (∀ v, Rp X.K H02 v d → Q v H2) → r2 vx vy H2 Q) → tOp r2 (wE X e1) (wE X e2) σ H Q := by
      intro r2 sv
      refine ha X e1 g hc.1.2 ρ x h1 σ H0 H r _ fun vx H1 H01 x1 r1 => ?_
      refine hi X e2 g hc.2 ρ y h2 σ H01 H1 (r.grow x1) _ fun vy H2 H02 x2 r2' => ?_
      exact sv H02 H2 vx vy x2.s (r1.mono x2.i) r2' _ fun v rv => q v H2 H02 (x1.trans x2) rv
    cases x <;> cases y <;> first | (simp [ixD] at h3; done) | skip
    case str.int z j =>
      simp only [ixD] at h3
      split at h3 <;> try cases h3
      rename_i hl
      rw [Option.map_eq_some_iff] at h3
      obtain ⟨c, h4, rfl⟩ := h3
      refine gE (pe_ix ix_str pE pE (sl0 hc.1.1)) (go ?_)
      intro H02 H2 vx vy e rx ry Q q
      cases rx
      cases ry
      exact ⟨z, j, c, rfl, rfl, hl, h4, q _ (.str _)⟩
    case list.int ds j =>
      simp only [ixD] at h3
      refine gE (pe_ix ix_list pE pE (sl0 hc.1.1)) (go ?_)
      intro H02 H2 vx vy e rx ry Q q
      cases ry
      cases rx with
      | lst h4 r4 =>
        obtain ⟨v, h5, rv⟩ := atI_rp r4 h3
        exact ⟨_, _, _, v, rfl, rfl, Or.inl (e.rd h4), h5, q _ rv⟩
    case dict.int ds j =>
      simp only [ixD, Option.map_eq_some_iff] at h3
      obtain ⟨kv, h4, rfl⟩ := h3
      refine gE (pe_ix ix_list pE pE (sl0 hc.1.1)) (go ?_)
      intro H02 H2 vx vy e rx ry Q q
      cases ry
      cases rx with
      | scr h5 =>
        rename_i a' ns
        unfold atI at h4
        rw [List.length_map] at h4
        cases hj : ixN ns.length j with
        | none =>
          rw [hj] at h4
          cases h4
        | some m =>
          rw [hj] at h4
          have h4' : (ns.map fun n => (PyData.int n, PyData.none))[m]? = some kv := h4
          rw [List.getElem?_map] at h4'
          cases hm : ns[m]? with
          | none =>
            rw [hm] at h4'
            cases h4'
          | some z =>
            rw [hm] at h4'
            cases h4'
            refine ⟨_, _, _, .int z, rfl, rfl, e.sql h5, ?_, q _ (.int _)⟩
            unfold atI
            rw [List.length_map, hj]
            show (ns.map V.int)[m]? = _
            rw [List.getElem?_map, hm]
            rfl
    case tuple.int ds j =>
      simp only [ixD] at h3
      refine gE (pe_ix ix_tup pE pE (sl0 hc.1.1)) (go ?_)
      intro H02 H2 vx vy e rx ry Q q
      cases ry
      cases rx with
      | tup h4 r4 =>
        obtain ⟨v, h5, rv⟩ := atI_rp r4 h3
        exact ⟨_, _, _, v, rfl, rfl, e.sqt h4, h5, q _ rv⟩
theorem po_ok {X : Cx} (g : Gd T G k X) {a : E} {l : Option Expr} (hc : chkP G a X.env.scope l = true) {ρ : Rho} {o : Option Int} (he : evP T a ρ = some o) {σ : L2.St} {H0 : Hp} : ∃ t, PO X l t ∧ ∀ (H : Hp) (Q : Option Int → Hp → Prop), Rl X.K ρ σ H0 H → Q o H → t σ H Q := by
  unfold chkP at hc
  split at hc
  · cases he
    exact ⟨_, po_none, fun H Q r q => q⟩
  · rw [decide_eq_true_eq] at hc
    subst hc
    cases he
    exact ⟨_, po_some pe_int, fun H Q r q => ⟨_, rfl, q⟩⟩
  · rw [decide_eq_true_eq] at hc
    subst hc
    cases he
    exact ⟨_, po_some (pe_un un_neg pe_int), fun H Q r q => ⟨_, rfl, _, rfl, q⟩⟩
  · next i x p =>
    simp only [evP] at he
    split at he <;> cases he
    rename_i j hv
    simp only [isVar, Bool.and_eq_true, decide_eq_true_eq, Bool.not_eq_true'] at hc
    obtain ⟨⟨⟨h1, h2⟩, h3⟩, h4⟩ := hc
    refine ⟨_, po_some (pe_var (i := i) (by rw [g.nN]; exact h1) (vis_of h2) h3 h4), fun H Q r q => ?_⟩
    obtain ⟨y, sx, rx⟩ := r.v _ _ hv
    cases rx
    exact ⟨_, sx, _, rfl, q⟩
  · cases hc
theorem cut_rp {K : PySem.W.Frag} {H : Hp} {vs : List V} {ds : List D} (r : RpAll K H vs ds) (lo hi : Option Int) : RpAll K H (cutV vs lo hi) (cutD ds lo hi) := by
  unfold cutV cutD
  rw [r.len]
  exact (r.drop _).take _
theorem soE_sl {a lo hi : E} (ha : SoE T G k a) : SoE T G k (.sl a lo hi) := by
  intro X e g hc ρ d he σ H0 H r Q q
  cases e <;> first | (simp [chk] at hc; done) | skip
  case Subscript e1 e2 pos =>
    cases e2 <;> first | (simp [chk] at hc; done) | skip
    case Slice l u st pos2 =>
      cases st <;> first | (simp [chk] at hc; done) | skip
      simp only [chk, Bool.and_eq_true] at hc
      simp only [evE, Option.bind_eq_some_iff] at he
      obtain ⟨x, h1, ol, h2, oh, h3, h4⟩ := he
      obtain ⟨tl, pl, ql⟩ := po_ok g hc.1.2 h2 (σ := σ) (H0 := H0)
      cases x <;> first | (simp [slD] at h4; done) | skip
      case list ds =>
        cases h4
        have go : ∀ {tu : TO}, (∀ H1 H01, Xt H0 H H01 H1 → ∀ Q : Option Int → Hp → Prop, Q oh H1 → tu σ H1 Q) → ∀ {tl : TO}, (∀ H1 H01, Xt H0 H H01 H1 → ∀ Q : Option Int → Hp → Prop, Q ol H1 → tl σ H1 Q) → tSl (rSlL X.K) (wE X e1) tl tu σ H Q := by
          intro tu qu tl ql
          refine ha X e1 g hc.1.1 ρ _ h1 σ H0 H r _ fun vx H1 H01 x1 r1 => ?_
          refine ql H1 H01 x1 _ (qu H1 H01 x1 _ ?_)
          cases r1 with
          | lst h5 r5 =>
            refine ⟨_, _, rfl, Or.inl (x1.s.rd h5), fun p hp => ?_⟩
            rename_i a' vs
            have X1 := Xt.new x1.s hp (o := .lst (cutV vs ol oh))
            exact q _ _ _ (x1.trans X1) (.lst (Or.inl upd_same) ((cut_rp r5 ol oh).mono X1.i))
        -- the parts read names and literals alone
        have part : ∀ {l : Option Expr} {o : Option Int} {b : E}, chkP G b X.env.scope l = true → evP T b ρ = some o → ∃ t, PO X l t ∧ ∀ H1 H01, Xt H0 H H01 H1 → ∀ Q : Option Int → Hp → Prop, Q o H1 → t σ H1 Q := by
          intro l o b c1 c2
          obtain ⟨t, p, z⟩ := po_ok g c1 c2 (σ := σ) (H0 := H0)
          refine ⟨t, p, fun H1 H01 x1 Q q => z H1 Q ?_ q⟩
          have r1 := r.grow x1
          exact { ex := fun a u h => x1.s a u (x1.i a u h), v := r.v, o := fun i ds h => by
                    obtain ⟨p, xs, a1, a2, a3, a4⟩ := r.o i ds h
                    exact ⟨p, xs, a1, x1.o _ _ a2, a3, a4⟩, a := r.a, ln := r.ln }
        obtain ⟨tl, pl, ql⟩ := part hc.1.2 h2
        obtain ⟨tu, pu, qu⟩ := part hc.2 h3
        exact gE (pe_slice sl_list pE pl pu) (go qu ql)
      case tuple ds =>
        simp only [slD] at h4
        split at h4 <;> cases h4
        rename_i hw
        have part : ∀ {l : Option Expr} {o : Option Int} {b : E}, chkP G b X.env.scope l = true → evP T b ρ = some o → ∃ t, PO X l t ∧ ∀ H1 H01, Xt H0 H H01 H1 → ∀ Q : Option Int → Hp → Prop, Q o H1 → t σ H1 Q := by
          intro l o b c1 c2
          obtain ⟨t, p, z⟩ := po_ok g c1 c2 (σ := σ) (H0 := H0)
          refine ⟨t, p, fun H1 H01 x1 Q q => z H1 Q ?_ q⟩
          exact { ex := fun a u h => x1.s a u (x1.i a u h), v := r.v, o := fun i ds h => by
                    obtain ⟨p, xs, a1, a2, a3, a4⟩ := r.o i ds h
                    exact ⟨p, xs, a1, x1.o _ _ a2, a3, a4⟩, a := r.a, ln := r.ln }
        obtain ⟨tl, pl, ql⟩ := part hc.1.2 h2
        obtain ⟨tu, pu, qu⟩ := part hc.2 h3
        refine gE (pe_slice sl_tup pE pl pu) ?_
        refine ha X e1 g hc.1.1 ρ _ h1 σ H0 H r _ fun vx H1 H01 x1 r1 => ?_
        refine ql H1 H01 x1 _ (qu H1 H01 x1 _ ?_)
        cases r1 with
        | tup h5 r5 =>
          refine ⟨_, _, rfl, x1.s.sqt h5, by rw [r5.len]; exact hw, fun p hp => ?_⟩
          rename_i a' vs
          have X1 := Xt.new x1.s hp (o := .tup (cutV vs ol oh))
          exact q _ _ _ (x1.trans X1) (.tup (Or.inl (Or.inl upd_same)) ((cut_rp r5 ol oh).mono X1.i))
theorem soE_tup {es : Es} (hs : SoA T G k es) : SoE T G k (.tup es) := by
  intro X e g hc ρ d he σ H0 H r Q q
  cases e <;> first | (simp [chk] at hc; done) | skip
  simp only [chk] at hc
  simp only [evE, Option.bind_eq_some_iff] at he
  obtain ⟨xs, h1, h2⟩ := he
  split at h2 <;> cases h2
  rename_i hl
  refine gE (pe_tup pA) ?_
  refine hs X _ g hc ρ _ h1 σ H0 H r _ fun vs H1 H01 x1 r1 => ?_
  refine ⟨by rw [r1.len]; exact hl, fun p hp => ?_⟩
  have X1 := Xt.new x1.s hp (o := .tup vs)
  exact q _ _ _ (x1.trans X1) (.tup (Or.inl (Or.inl upd_same)) (r1.mono X1.i))
/-- a new list, not yet at rest -/
def SoN (T : Tab) (G : Sig) (k : Nat) (a : E) : Prop := ∀ (X : Cx) (e : Expr), Gd T G k X → chk G a X.env.scope e = true → ∀ ρ ds, evE T a ρ = some (.list ds) → ∀ σ H0 H, Rl X.K ρ σ H0 H → ∀ Q : VK, (∀ p vs H' H0', Xt H0 H H0' H' → H p = none → H' p = some (.lst vs) → H0' p = none → RpAll X.K H0' vs ds → Q (.ref p) H') → wE X e σ H Q
theorem Xt.fz {H0 H H0' H' : Hp} (x : Xt H0 H H0' H') {p : Addr} {o : HO} (h : H p = none) (h' : H' p = some o) : Xt H0 H (upd H0' p o) H' where
  i := fun a u e => by
    by_cases z : a = p
    · subst z
      have := x.s a u (x.i a u e)
      rw [h'] at this
      rw [upd_same]
      exact this
    · rw [upd_ne z]
      exact x.i a u e
  o := x.o
  s := fun a u e => by
    by_cases z : a = p
    · subst z
      rw [upd_same] at e
      rw [← e]
      exact h'
    · rw [upd_ne z] at e
      exact x.s a u e
  f := fun a u e => by
    by_cases z : a = p
    · subst z
      exact Or.inr h
    · rw [upd_ne z] at e
      exact x.f a u e
theorem soE_new {a : E} (hn : SoN T G k a) (hl : ∀ ρ d, evE T a ρ = some d → ∃ ds, d = .list ds) : SoE T G k a := by
  intro X e g hc ρ d he σ H0 H r Q q
  obtain ⟨ds, rfl⟩ := hl ρ d he
  refine hn X e g hc ρ ds he σ H0 H r Q fun p vs H' H0' x1 h1 h2 h3 r1 => ?_
  have X1 := x1.fz h1 h2
  exact q _ _ _ X1 (.lst (Or.inl upd_same) (r1.mono (Ex.new h3)))
theorem soN_lst {es : Es} (hs : SoA T G k es) : SoN T G k (.lst es) := by
  intro X e g hc ρ ds he σ H0 H r Q q
  cases e <;> first | (simp [chk] at hc; done) | skip
  simp only [chk] at hc
  simp only [evE, Option.bind_eq_some_iff] at he
  obtain ⟨xs, h1, h2⟩ := he
  split at h2 <;> cases h2
  rename_i hl
  refine gE (pe_lst pA) ?_
  refine hs X _ g hc ρ _ h1 σ H0 H r _ fun vs H1 H01 x1 r1 => ?_
  refine ⟨by rw [r1.len]; exact hl, fun p hp => ?_⟩
  have hp0 : H01 p = none := x1.s.back hp
  exact q p vs _ H01 ⟨x1.i, x1.o.trans (Ex.new hp), x1.s.trans (Ex.new hp), x1.f⟩ (x1.o.back hp) upd_same hp0 r1
theorem lst_list {es : Es} : ∀ ρ d, evE T (.lst es) ρ = some d → ∃ ds, d = .list ds := by
  intro ρ d he
  simp only [evE, Option.bind_eq_some_iff] at he
  obtain ⟨xs, h1, h2⟩ := he
  split at h2 <;> cases h2
  exact ⟨_, rfl⟩
end
end Fx

namespace Fx
open PySem PySem.Spec PyProof.Rows L2 RZ
section
variable {T : Tab} {G : Sig} {k : Nat}
def tyV : Ty → String
  | .int => "int"
  | .bool => "bool"
  | .tuple => "tuple"
  | .list => "list"
  | .str => "str"
def kindS : D → String
  | .none => "NoneType"
  | .bool _ => "bool"
  | .int _ => "int"
  | .str _ => "str"
  | .list _ => "list"
  | .tuple _ => "tuple"
  | .dict _ => "dict"
theorem kind_of {K : PySem.W.Frag} {H0 H : Hp} {v : V} {d : D} (e : Ex H0 H) (r : Rp K H0 v d) (hd : ¬ isDict d = true) : TyX K H v (.type (kindS d)) := by
  cases r with
  | non => exact .base .non
  | bl b => exact .base (.bl b)
  | int i => exact .base (.int i)
  | str x => exact .base (.str x)
  | lst h _ =>
    rcases e.rd h with h | ⟨o, h⟩
    · exact .base (.lst h)
    · exact .base (.frz h)
  | tup h _ =>
    rcases e.sqt h with (h | ⟨o, h⟩) | ⟨o, its, n, h1, h2, _⟩
    · exact .base (.tup h)
    · exact .fTuple h
    · exact .kTuple h1 h2
  | scr h => exact absurd rfl hd
theorem kit_of {K : PySem.W.Frag} (d : D) (t : Ty) (h : ∀ kvs, d ≠ .dict kvs) : PySem.W.kitOne K (.type (kindS d)) (.type (tyV t)) = some (isiD t d) := by
  apply kit_ty
  cases d <;> cases t <;> first | exact absurd rfl (h _) | (simp only [kindS, tyV, isiD]; decide +kernel)
theorem ty_boot (t : Ty) : bootBuiltins (tyName t) = some (.type (tyV t)) := by
  cases t <;> decide +kernel
theorem ty_mem (t : Ty) : tyName t ∈ bNames := by
  cases t <;> decide +kernel
theorem soE_isi {a : E} {t : Ty} (ha : SoE T G k a) : SoE T G k (.isi a t) := by
  intro X e g hc ρ d he σ H0 H r Q q
  cases e <;> first | (simp [chk] at hc; done) | skip
  case Call fe as kws pos =>
    cases fe <;> first | (simp [chk] at hc; done) | skip
    cases kws <;> first | (simp [chk] at hc; done) | skip
    case Name.nil x p =>
    match as, hc with
    | [], hc => simp [chk] at hc
    | [_], hc => simp [chk] at hc
    | _ :: _ :: _ :: _, hc => simp [chk] at hc
    | [e1, e2], hc =>
      cases e2 <;> first | (simp [chk] at hc; done) | skip
      rename_i y py
      simp only [chk, Bool.and_eq_true, decide_eq_true_eq] at hc
      obtain ⟨⟨⟨⟨rfl, h2⟩, rfl⟩, h4⟩, h5⟩ := hc
      simp only [evE, Option.bind_eq_some_iff] at he
      obtain ⟨z, h6, h7⟩ := he
      split at h7 <;> cases h7
      rename_i hnd
      have gg := gl_of h2
      have gy := gl_of h4
      have mI : X.mg "isinstance" = none := g.bt _ (by decide +kernel)
      have pt : PE X (.Name (tyName t) py) (tC (.ty (tyV t))) := pe_bltn (gl_X h4) (g.bt _ (ty_mem t)) (ty_boot t) rfl gy.2.2 gy.2.1
      refine gE (pe_callB call_isi (gl_X h2) mI (by decide +kernel) (pa_cons pE (pa_cons pt pa_nil (star1 rfl)) (star1 (chk_star h5))) gg.2.2 gg.2.1 (star1 (chk_star h5)) (starB rfl)) ?_
      refine ha X e1 g h5 ρ z h6 σ H0 H r _ fun vx H1 H01 x1 r1 => ?_
      refine ⟨vx, _, _, _, _, rfl, .ty _, kind_of x1.s r1 hnd, kit_of z t (fun kvs hz => by subst hz; exact hnd rfl), q _ H1 H01 x1 (.bl _)⟩
/-! ### 10. what is walked -/
def Walks (K : PySem.W.Frag) (J : L2.It) (ds : List D) (H0 H : Hp) : Prop := ∀ H0' H', Ex H0 H0' → Ex H0' H' → ∀ i : Nat,
  (∀ d, ds[i]? = some d → J.go i H' ∧ ∀ x H'', J.yld i H' x H'' → ∃ H0'', Xt H0' H' H0'' H'' ∧ Rp K H0'' x d) ∧ (ds.length ≤ i → J.stop i H')
def SoI (T : Tab) (G : Sig) (k : Nat) (it : Wk) : Prop := ∀ (X : Cx) (tg e : Expr), Gd T G k X → chkI G it X.env.scope tg e = true → ∀ ρ ds, evI T it ρ = some ds → ∀ σ H0 H, Rl X.K ρ σ H0 H → ∀ R : L2.It → Hp → Prop, (∀ J H' H0', Xt H0 H H0' H' → Walks X.K J ds H0' H' → R J H') → wI X tg e σ H R
theorem walk_list {K : PySem.W.Frag} {H0 H : Hp} {a : Addr} {vs : List V} {ds : List D} (h : Rd H0 a (.lst vs)) (r : RpAll K H0 vs ds) : Walks K (Itl K a) ds H0 H := by
  intro H0' H' e1 e2 i
  have hq : SqL K H' a vs := Or.inl (e2.rd (e1.rd h))
  refine ⟨fun d hd => ?_, fun hl => ⟨vs, hq, by rw [r.len]; exact hl⟩⟩
  obtain ⟨v, hv, rv⟩ := r.get i hd
  refine ⟨⟨vs, v, hq, hv⟩, fun x H'' hy => ?_⟩
  obtain ⟨rfl, hx⟩ := hy
  have := hx vs hq
  rw [hv] at this
  cases this
  exact ⟨H0', Xt.refl e2, rv.mono e1⟩
theorem walk_tup {K : PySem.W.Frag} {H0 H : Hp} {a : Addr} {vs : List V} {ds : List D} (h : SqT K H0 a vs) (r : RpAll K H0 vs ds) : Walks K (Itt K a) ds H0 H := by
  intro H0' H' e1 e2 i
  have hq : SqT K H' a vs := e2.sqt (e1.sqt h)
  refine ⟨fun d hd => ?_, fun hl => ⟨vs, hq, by rw [r.len]; exact hl⟩⟩
  obtain ⟨v, hv, rv⟩ := r.get i hd
  refine ⟨⟨vs, v, hq, hv⟩, fun x H'' hy => ?_⟩
  obtain ⟨rfl, hx⟩ := hy
  have := hx vs hq
  rw [hv] at this
  cases this
  exact ⟨H0', Xt.refl e2, rv.mono e1⟩
theorem rngD_len : ∀ (n : Nat) (lo : Int), (rngD lo n).length = n
  | 0, _ => rfl
  | n + 1, lo => congrArg (· + 1) (rngD_len n (lo + 1))
theorem rngD_get : ∀ (n i : Nat) (lo : Int) (d : D), (rngD lo n)[i]? = some d → d = .int (lo + i)
  | 0, _, _, _, h => by simp [rngD] at h
  | n + 1, 0, lo, d, h => by
    have : (PyData.int lo) = d := Option.some.inj h
    rw [← this]
    show PyData.int lo = PyData.int (lo + 0)
    rw [Int.add_zero]
  | n + 1, i + 1, lo, d, h => by
    have := rngD_get n i (lo + 1) d h
    rw [this]
    have e : lo + 1 + (i : Int) = lo + ((i + 1 : Nat) : Int) := by omega
    rw [e]
theorem walk_rng {K : PySem.W.Frag} {H0 H : Hp} {lo : Int} {n : Nat} : Walks K (Itr lo n) (rngD lo n) H0 H := by
  intro H0' H' e1 e2 i
  refine ⟨fun d hd => ?_, fun hl => by rw [rngD_len] at hl; exact hl⟩
  have hi : i < n := by
    have := (List.getElem?_eq_some_iff.mp hd).1
    rwa [rngD_len] at this
  have ed := rngD_get n i lo d hd
  subst ed
  refine ⟨hi, fun x H'' hy => ?_⟩
  obtain ⟨rfl, rfl⟩ := hy
  exact ⟨H0', Xt.refl e2, .int _⟩
theorem walk_rev {K : PySem.W.Frag} {H0 H : Hp} {a : Addr} {vs : List V} {ds : List D} (h : Rd H0 a (.lst vs)) (r : RpAll K H0 vs ds) : Walks K (Itv K a vs.length) ds.reverse H0 H := by
  intro H0' H' e1 e2 i
  have hq : SqL K H' a vs := Or.inl (e2.rd (e1.rd h))
  have hl := r.len
  refine ⟨fun d hd => ?_, fun hl' => ?_⟩
  · have hi : i < ds.length := by
      have := (List.getElem?_eq_some_iff.mp hd).1
      rwa [List.length_reverse] at this
    rw [List.getElem?_reverse hi] at hd
    obtain ⟨v, hv, rv⟩ := r.get _ hd
    rw [← hl] at hv
    refine ⟨⟨by rw [hl]; exact hi, vs, v, hq, hv⟩, fun x H'' hy => ?_⟩
    obtain ⟨rfl, hx⟩ := hy
    have := hx vs hq
    rw [hv] at this
    cases this
    exact ⟨H0', Xt.refl e2, rv.mono e1⟩
  · rw [List.length_reverse, ← hl] at hl'
    exact hl'
theorem zipD_get : ∀ (xs ys : List D) (i : Nat) (d : D), (zipD xs ys)[i]? = some d → ∃ x y, xs[i]? = some x ∧ ys[i]? = some y ∧ d = .tuple [x, y]
  | [], ys, i, d, h => by cases ys <;> simp [zipD] at h
  | _ :: _, [], i, d, h => by simp [zipD] at h
  | x :: xs, y :: ys, 0, d, h => ⟨x, y, rfl, rfl, (Option.some.inj h).symm⟩
  | x :: xs, y :: ys, i + 1, d, h => zipD_get xs ys i d h
theorem zipD_len : ∀ (xs ys : List D), (zipD xs ys).length = min xs.length ys.length
  | [], ys => by cases ys <;> simp [zipD]
  | _ :: _, [] => by simp [zipD]
  | x :: xs, y :: ys => by
    show (zipD xs ys).length + 1 = _
    rw [zipD_len xs ys, List.length_cons, List.length_cons]
    omega
theorem walk_zipL {K : PySem.W.Frag} {H0 H : Hp} {a b : Addr} {vs ws : List V} {ds es : List D} (h : Rd H0 a (.lst vs)) (r : RpAll K H0 vs ds) (h2 : Rd H0 b (.lst ws)) (r2 : RpAll K H0 ws es) : Walks K (Itz K a b) (zipD ds es) H0 H := by
  intro H0' H' e1 e2 i
  have hq : SqL K H' a vs := Or.inl (e2.rd (e1.rd h))
  have hq2 : SqL K H' b ws := Or.inl (e2.rd (e1.rd h2))
  refine ⟨fun d hd => ?_, fun hl => ⟨vs, ws, hq, hq2, ?_⟩⟩
  · obtain ⟨x, y, hx, hy, rfl⟩ := zipD_get _ _ _ _ hd
    obtain ⟨v, hv, rv⟩ := r.get i hx
    obtain ⟨w, hw, rw'⟩ := r2.get i hy
    refine ⟨⟨vs, ws, v, w, hq, hq2, hv, hw⟩, fun x H'' hy => ?_⟩
    obtain ⟨t, x1, y1, rfl, ht, rfl, f1, f2⟩ := hy
    have z1 := f1 vs hq
    have z2 := f2 ws hq2
    rw [hv] at z1
    rw [hw] at z2
    cases z1
    cases z2
    have X1 := Xt.new e2 ht (o := .tup [v, w])
    exact ⟨_, X1, .tup (Or.inl (Or.inl upd_same)) (.cons (rv.mono (e1.trans X1.i)) (.cons (rw'.mono (e1.trans X1.i)) .nil))⟩
  · rw [zipD_len] at hl
    have := r.len
    have := r2.len
    omega
theorem walk_zipT {K : PySem.W.Frag} {H0 H : Hp} {a b : Addr} {vs ws : List V} {ds es : List D} (h : SqT K H0 a vs) (r : RpAll K H0 vs ds) (h2 : SqT K H0 b ws) (r2 : RpAll K H0 ws es) : Walks K (ItzT K a b) (zipD ds es) H0 H := by
  intro H0' H' e1 e2 i
  have hq : SqT K H' a vs := e2.sqt (e1.sqt h)
  have hq2 : SqT K H' b ws := e2.sqt (e1.sqt h2)
  refine ⟨fun d hd => ?_, fun hl => ⟨vs, ws, hq, hq2, ?_⟩⟩
  · obtain ⟨x, y, hx, hy, rfl⟩ := zipD_get _ _ _ _ hd
    obtain ⟨v, hv, rv⟩ := r.get i hx
    obtain ⟨w, hw, rw'⟩ := r2.get i hy
    refine ⟨⟨vs, ws, v, w, hq, hq2, hv, hw⟩, fun x H'' hy => ?_⟩
    obtain ⟨t, x1, y1, rfl, ht, rfl, f1, f2⟩ := hy
    have z1 := f1 vs hq
    have z2 := f2 ws hq2
    rw [hv] at z1
    rw [hw] at z2
    cases z1
    cases z2
    have X1 := Xt.new e2 ht (o := .tup [v, w])
    exact ⟨_, X1, .tup (Or.inl (Or.inl upd_same)) (.cons (rv.mono (e1.trans X1.i)) (.cons (rw'.mono (e1.trans X1.i)) .nil))⟩
  · rw [zipD_len] at hl
    have := r.len
    have := r2.len
    omega
theorem soI_seq {a : E} (ha : SoE T G k a) : SoI T G k (.seq a) := by
  intro X tg e g hc ρ ds he σ H0 H r R q
  simp only [evI, Option.bind_eq_some_iff] at he
  obtain ⟨x, h1, h2⟩ := he
  simp only [chkI] at hc
  cases x <;> first | (simp [seqD] at h2; done) | skip
  case list xs =>
    cases h2
    refine gI (pi_list pE) ?_
    refine ha X e g hc ρ _ h1 σ H0 H r _ fun vx H1 H01 x1 r1 => ?_
    cases r1 with
    | lst h3 r3 => exact ⟨_, rfl, ⟨_, Or.inl (x1.s.rd h3)⟩, q _ H1 H01 x1 (walk_list h3 r3)⟩
  case tuple xs =>
    cases h2
    refine gI (pi_tup pE) ?_
    refine ha X e g hc ρ _ h1 σ H0 H r _ fun vx H1 H01 x1 r1 => ?_
    cases r1 with
    | tup h3 r3 => exact ⟨_, rfl, ⟨_, x1.s.sqt h3⟩, q _ H1 H01 x1 (walk_tup h3 r3)⟩
theorem inLine_of {i : Int} (h : inLine i = true) : -(2 ^ 62) ≤ i ∧ i < 2 ^ 62 := by
  unfold inLine at h
  simp only [Bool.and_eq_true, decide_eq_true_eq] at h
  exact h
theorem soI_rng {es : Es} (hs : SoA T G k es) : SoI T G k (.rng es) := by
  intro X tg e g hc ρ ds he σ H0 H r R q
  cases e <;> first | (simp [chkI] at hc; done) | skip
  case Call fe as kws pos =>
    cases fe <;> first | (simp [chkI] at hc; done) | skip
    cases kws <;> first | (simp [chkI] at hc; done) | skip
    simp only [chkI, Bool.and_eq_true, decide_eq_true_eq] at hc
    obtain ⟨⟨rfl, h2⟩, h3⟩ := hc
    simp only [evI, Option.bind_eq_some_iff] at he
    obtain ⟨xs, h4, h5⟩ := he
    have mR : X.mg "range" = none := g.bt _ (by decide +kernel)
    have ln := chks_cons h3 h4
    have st := chks_star h3
    match xs, h5 with
    | [.int j], h5 =>
      simp only [rngs] at h5
      split at h5 <;> cases h5
      rename_i hj
      match as, ln with
      | [a], _ =>
        refine gI (pi_range1 (gl_X h2) mR pA (by
          rw [List.all_cons, Bool.and_eq_true] at st
          rw [star1 st.1] <;> rfl)) ?_
        refine hs X _ g h3 ρ _ h4 σ H0 H r _ fun vs H1 H01 x1 r1 => ?_
        obtain ⟨v, rfl, rv⟩ := r1.one
        cases rv
        exact ⟨j, rfl, (inLine_of hj).1, (inLine_of hj).2, q _ H1 H01 x1 walk_rng⟩
    | [.int i, .int j], h5 =>
      simp only [rngs] at h5
      split at h5 <;> cases h5
      rename_i hj
      rw [Bool.and_eq_true] at hj
      match as, ln with
      | [a, b], _ =>
        refine gI (pi_range2 (gl_X h2) mR pA (by
          rw [List.all_cons, List.all_cons, Bool.and_eq_true, Bool.and_eq_true] at st
          rw [star1 st.1, star1 st.2.1] <;> rfl) (by
          rw [List.all_cons, List.all_cons, Bool.and_eq_true, Bool.and_eq_true] at st
          rw [star1 st.2.1] <;> rfl)) ?_
        refine hs X _ g h3 ρ _ h4 σ H0 H r _ fun vs H1 H01 x1 r1 => ?_
        obtain ⟨v, w, rfl, rv, rw'⟩ := r1.two
        cases rv
        cases rw'
        exact ⟨i, j, rfl, ⟨(inLine_of hj.1).1, (inLine_of hj.1).2, (inLine_of hj.2).1, (inLine_of hj.2).2⟩, q _ H1 H01 x1 walk_rng⟩
theorem rev_form {a : E} {sc : Scope} {tg e : Expr} (h : chkI G (.rev a) sc tg e = true) : ∃ p e1 pos, e = .Call (.Name "reversed" p) [e1] [] pos ∧ isGl sc "reversed" = true ∧ chk G a sc e1 = true := by
  unfold chkI at h
  split at h
  · contradiction
  · next e sc x x1 p a1 pos heq =>
    cases heq
    simp only [Bool.and_eq_true, decide_eq_true_eq] at h
    obtain ⟨⟨rfl, h2⟩, h3⟩ := h
    exact ⟨_, _, _, rfl, h2, h3⟩
  · contradiction
  · contradiction
  · cases h
theorem zip_form {a b : E} {sc : Scope} {tg e : Expr} (h : chkI G (.zip a b) sc tg e = true) : ∃ els kk tp p e1 e2 pos, tg = .Tuple els kk tp ∧ e = .Call (.Name "zip" p) [e1, e2] [] pos ∧ isGl sc "zip" = true ∧ chk G a sc e1 = true ∧ chk G b sc e2 = true := by
  unfold chkI at h
  split at h
  · contradiction
  · contradiction
  · next heq =>
    cases heq
    simp only [Bool.and_eq_true, decide_eq_true_eq] at h
    obtain ⟨⟨⟨rfl, h2⟩, h3⟩, h4⟩ := h
    exact ⟨_, _, _, _, _, _, _, rfl, rfl, h2, h3, h4⟩
  · contradiction
  · cases h
theorem soI_rev {a : E} (ha : SoE T G k a) : SoI T G k (.rev a) := by
  intro X tg e g hc ρ ds he σ H0 H r R q
  obtain ⟨p, e1, pos, rfl, h2, h3⟩ := rev_form hc
  simp only [evI] at he
  split at he <;> cases he
  rename_i xs h4
  have mR : X.mg "reversed" = none := g.bt _ (by decide +kernel)
  refine gI (pi_reversed (gl_X h2) mR (pa_cons pE pa_nil (star1 (chk_star h3))) (star1 (chk_star h3))) ?_
  refine ha X e1 g h3 ρ _ h4 σ H0 H r _ fun vx H1 H01 x1 r1 => ?_
  cases r1 with
  | lst h5 r5 => exact ⟨_, _, rfl, Or.inl (x1.s.rd h5), q _ H1 H01 x1 (walk_rev h5 r5)⟩
theorem soI_zip {a b : E} (ha : SoE T G k a) (hb : SoE T G k b) : SoI T G k (.zip a b) := by
  intro X tg e g hc ρ ds he σ H0 H r R q
  obtain ⟨els, kk, tp, p, e1, e2, pos, rfl, rfl, h2, h3, h4⟩ := zip_form hc
  simp only [evI, Option.bind_eq_some_iff] at he
  obtain ⟨x, h5, y, h6, h7⟩ := he
  have mR : X.mg "zip" = none := g.bt _ (by decide +kernel)
  cases x <;> cases y <;> first | (simp [zipV] at h7; done) | skip
  case list.list xs ys =>
    cases h7
    refine gI (pi_zip (gl_X h2) mR (pa_cons pE (pa_cons pE pa_nil (star1 (chk_star h4))) (star1 (chk_star h3))) (star1 (chk_star h3)) (starB (by rw [List.all_cons, chk_star h4] <;> rfl))) ?_
    refine ha X e1 g h3 ρ _ h5 σ H0 H r _ fun vx H1 H01 x1 r1 => ?_
    refine hb X e2 g h4 ρ _ h6 σ H01 H1 (r.grow x1) _ fun vy H2 H02 x2 r2 => ?_
    cases r1 with
    | lst h10 r10 =>
      cases r2 with
      | lst h11 r11 =>
        exact ⟨_, _, _, _, rfl, Or.inl (x2.s.rd (x2.i.rd h10)), Or.inl (x2.s.rd h11), q _ H2 H02 (x1.trans x2) (walk_zipL (x2.i.rd h10) (r10.mono x2.i) h11 r11)⟩
  case tuple.tuple xs ys =>
    cases h7
    refine gI (pi_zipA (gl_X h2) mR (pa_cons pE (pa_cons pE pa_nil (star1 (chk_star h4))) (star1 (chk_star h3))) (star1 (chk_star h3)) (starB (by rw [List.all_cons, chk_star h4] <;> rfl))) ?_
    refine ha X e1 g h3 ρ _ h5 σ H0 H r _ fun vx H1 H01 x1 r1 => ?_
    refine hb X e2 g h4 ρ _ h6 σ H01 H1 (r.grow x1) _ fun vy H2 H02 x2 r2 => ?_
    cases r1 with
    | tup h10 r10 =>
      cases r2 with
      | tup h11 r11 =>
        exact ⟨_, _, _, _, rfl, Or.inr ⟨x2.s.sqt (x2.i.sqt h10), x2.s.sqt h11, q _ H2 H02 (x1.trans x2) (walk_zipT (x2.i.sqt h10) (r10.mono x2.i) h11 r11)⟩⟩
end
end Fx

namespace Fx
open PySem PySem.Spec PyProof.Rows L2
section
variable {T : Tab} {G : Sig} {k : Nat}
/-! ### 11. comprehensions -/
theorem Rl.set {K : PySem.W.Frag} {ρ : Rho} {σ : L2.St} {H0 H : Hp} (r : Rl K ρ σ H0 H) (i : Nat) {x : V} {d : D} (h : Rp K H0 x d) : Rl K (ρ.set i (.v d)) (σ.set i (some x)) H0 H := by
  have self : ∀ j c, (ρ.set i (.v d))[j]? = some c → (j = i ∧ i < σ.length ∧ c = .v d) ∨ (j ≠ i ∧ ρ[j]? = some c) := by
    intro j c hc
    by_cases z : i = j
    · subst z
      have hl : i < ρ.length := by
        have := (List.getElem?_eq_some_iff.mp hc).1
        rwa [List.length_set] at this
      rw [List.getElem?_set_self hl] at hc
      exact Or.inl ⟨rfl, by rw [← r.ln]; exact hl, (Option.some.inj hc).symm⟩
    · rw [List.getElem?_set_ne z] at hc
      exact Or.inr ⟨fun q => z q.symm, hc⟩
  have other : ∀ j, j ≠ i → (σ.set i (some x))[j]? = σ[j]? := fun j z => List.getElem?_set_ne (fun q => z q.symm)
  refine ⟨r.ex, fun j e he => ?_, fun j ds he => ?_, fun j l ds es p h1 h2 h3 h4 => ?_, by rw [List.length_set, List.length_set, r.ln]⟩
  · rcases self j _ he with ⟨rfl, hl, e1⟩ | ⟨z, e1⟩
    · cases e1
      exact ⟨x, List.getElem?_set_self hl, h⟩
    · obtain ⟨y, a, b⟩ := r.v j e e1
      exact ⟨y, by rw [other j z]; exact a, b⟩
  · rcases self j _ he with ⟨rfl, hl, e1⟩ | ⟨z, e1⟩
    · cases e1
    · obtain ⟨p, xs, a, b, c, e⟩ := r.o j ds e1
      exact ⟨p, xs, by rw [other j z]; exact a, b, c, e⟩
  · rcases self j _ h1 with ⟨_, _, e1⟩ | ⟨z1, e1⟩
    · cases e1
    · rcases self l _ h2 with ⟨_, _, e2⟩ | ⟨z2, e2⟩
      · cases e2
      · rw [other j z1] at h3
        rw [other l z2] at h4
        exact r.a j l ds es p e1 e2 h3 h4
def wEb (X : Cx) (scope : Scope) (e : Expr) : TE := fun σ H Q => ∀ s0 H0 C cl fp, wE (X.blk s0 H0 scope (compEnvC scope cl C X.env) fp) e σ H Q
def wTb (X : Cx) (scope : Scope) (e : Expr) : TT := fun σ H Q => ∀ s0 H0 C cl fp, wT (X.blk s0 H0 scope (compEnvC scope cl C X.env) fp) e σ H Q
theorem blk_scope {X : Cx} {s0 : Shared} {H0 : Hp} {scope : Scope} {C : Addr} {cl : List (Str × Addr)} {fp : List Addr} : (X.blk s0 H0 scope (compEnvC scope cl C X.env) fp).env.scope = relS scope X.env.scope := rfl
theorem gd_blk {X : Cx} (g : Gd T G k X) {s0 : Shared} {H0 : Hp} {scope : Scope} {C : Addr} {cl : List (Str × Addr)} {fp : List Addr} : Gd T G k (X.blk s0 H0 scope (compEnvC scope cl C X.env) fp) :=
  ⟨g.calm, g.room, g.un, g.nd, g.nN, g.fn, g.cn, g.bt⟩
theorem gEb {X : Cx} {scope : Scope} {e : Expr} {σ : L2.St} {H : Hp} {Q : VK} (h : ∀ s0 H0 C cl fp, wE (X.blk s0 H0 scope (compEnvC scope cl C X.env) fp) e σ H Q) : wEb X scope e σ H Q := h
theorem wipe1 (σ : L2.St) (i : Nat) (v : Option V) : (wipe σ [i]).set i v = σ.set i v := by
  show (σ.set i none).set i v = σ.set i v
  rw [List.set_set]
theorem wipe_set1 (σ : L2.St) (i : Nat) (v : Option V) : wipe ((wipe σ [i]).set i v) [i] = wipe σ [i] := by
  show (((σ.set i none).set i v).set i none) = σ.set i none
  rw [List.set_set, List.set_set]
theorem wipe_set2 (σ : L2.St) (i j : Nat) (v w : Option V) : wipe (((wipe σ [i, j]).set i v).set j w) [i, j] = wipe σ [i, j] := by
  show (((((σ.set j none).set i none).set i v).set j w).set j none).set i none = (σ.set j none).set i none
  apply List.ext_getElem?
  intro n
  simp only [List.getElem?_set, List.length_set]
  split <;> split <;> simp_all
theorem wipe2 (σ : L2.St) (i j : Nat) (v w : Option V) (h : i ≠ j) : (((wipe σ [i, j]).set i v).set j w) = (σ.set i v).set j w := by
  show (((σ.set j none).set i none).set i v).set j w = (σ.set i v).set j w
  apply List.ext_getElem?
  intro n
  simp only [List.getElem?_set, List.length_set]
  split <;> split <;> simp_all
/-- a comprehension's target -/
theorem tgt_ok {X : Cx} (g : Gd T G k X) (hcm : G.cm = true) {scope : Scope} {xs : List Nat} {tg : Expr} (hb : cells scope (ownOf G xs) = true) (hc : chkT1 G (relS scope X.env.scope) xs tg = true) :
    ∃ gt : TG, (∀ s0 H0 C cl fp, PG (X.blk s0 H0 scope (compEnvC scope cl C X.env) fp) tg gt) ∧
      ∀ {ρ ρ' : Rho} {d : D} {σ : L2.St} {H0 H : Hp} {v : V} {Q : L2.St → Hp → Prop}, setX ρ xs d = some ρ' → Rl X.K ρ σ H0 H → Rp X.K H0 v d →
        (∀ σ2, wipe σ2 xs = wipe σ xs → Rl X.K ρ' σ2 H0 H → Q σ2 H) → gt v (wipe σ xs) H Q := by
  match xs, tg, hc with
  | [i], .Name x p, hc =>
    simp only [chkT1, Bool.and_eq_true, decide_eq_true_eq] at hc
    have hl : scope.names.lookup x = some .local := by
      simp only [cells, ownOf, List.map_cons, List.map_nil, List.all_cons, List.all_nil, Bool.and_true, hc.1, Option.getD_some] at hb
      exact local_of hb
    refine ⟨gName i, fun s0 H0 C cl fp => pg_name (i := i) g.nd (by show X.N[i]? = _; rw [g.nN]; exact hc.1) (loc_of hc.2) (Or.inr (lookup_relabel_local hl)), ?_⟩
    intro ρ ρ' d σ H0 H v Q h1 r rv q
    simp only [setX, Option.some.injEq] at h1
    subst h1
    refine q _ (wipe_set1 σ i (some v)) ?_
    rw [wipe1]
    exact r.set i rv
  | [i, j], .Tuple [.Name x px, .Name y py] kk pt, hc =>
    simp only [chkT1, Bool.and_eq_true, decide_eq_true_eq] at hc
    obtain ⟨⟨⟨h1, h2⟩, h3⟩, h4⟩ := hc
    simp only [cells, ownOf, List.map_cons, List.map_nil, List.all_cons, List.all_nil, Bool.and_true, h1, h3, Option.getD_some, Bool.and_eq_true] at hb
    have hx := local_of hb.1
    have hy := local_of hb.2
    refine ⟨gTup X.K 2 (gCons (gName i) (gCons (gName j) gNil)), fun s0 H0 C cl fp => pg_tup (g.calm hcm) (pgs_cons (pg_name (i := i) g.nd (by show X.N[i]? = _; rw [g.nN]; exact h1) (loc_of h2) (Or.inr (lookup_relabel_local hx)))
      (pgs_cons (pg_name (i := j) g.nd (by show X.N[j]? = _; rw [g.nN]; exact h3) (loc_of h4) (Or.inr (lookup_relabel_local hy))) pgs_nil)), ?_⟩
    intro ρ ρ' d σ H0 H v Q e1 r rv q
    match d, e1 with
    | .tuple [dx, dy], e1 =>
      simp only [setX, Option.some.injEq] at e1
      subst e1
      cases rv with
      | tup h5 r5 =>
        obtain ⟨vx, vy, rfl, rx, ry⟩ := r5.two
        refine ⟨_, _, rfl, r.ex.sqt h5, rfl, vx, [vy], rfl, vy, [], rfl, rfl, ?_⟩
        refine q _ (wipe_set2 σ i j _ _) ?_
        have r2 := (r.set i rx).set j ry
        by_cases z : i = j
        · subst z
          rw [List.set_set] at r2
          have e2 : (((wipe σ [i, i]).set i (some vx)).set i (some vy)) = σ.set i (some vy) := by
            show ((((σ.set i none).set i none).set i (some vx)).set i (some vy)) = _
            rw [List.set_set, List.set_set, List.set_set]
          rw [e2]
          rw [List.set_set] at r2 ⊢
          exact r2
        · rw [wipe2 σ i j _ _ z]
          exact r2
theorem Xt.mut {H0 H H0' H' : Hp} (x : Xt H0 H H0' H') {p : Addr} {o : HO} (h : H p = none) (h' : H0' p = none) : Xt H0 H H0' (upd H' p o) where
  i := x.i
  o := fun a u e => by
    rw [upd_ne (ne_of_none e h)]
    exact x.o a u e
  s := fun a u e => by
    rw [upd_ne (ne_of_none e h')]
    exact x.s a u e
  f := x.f
theorem Xt.keep_none {H0 H H0' H' : Hp} (x : Xt H0 H H0' H') {p : Addr} {u : HO} (h : H p = some u) (h0 : H0 p = none) : H0' p = none := by
  cases e : H0' p with
  | none => rfl
  | some w =>
    rcases x.f p w e with z | z
    · rw [h0] at z
      cases z
    · rw [h] at z
      cases z
theorem mapO_snoc (f : D → Option (Option D)) : ∀ (l : List D) (d : D) (o : Option D) (ys : List D), mapO f l = some ys → f d = some o → mapO f (l ++ [d]) = some (ys ++ o.toList)
  | [], d, o, ys, h, hd => by
    cases h
    show ((f d).bind fun o => (mapO f []).bind fun l => _) = _
    rw [hd]
    cases o <;> rfl
  | a :: l, d, o, ys, h, hd => by
    simp only [mapO, Option.bind_eq_some_iff] at h
    obtain ⟨oa, h1, zs, h2, h3⟩ := h
    have ih := mapO_snoc f l d o zs h2 hd
    show ((f a).bind fun o => (mapO f (l ++ [d])).bind fun l => _) = _
    rw [h1, ih]
    cases oa with
    | none =>
      cases h3
      rfl
    | some y =>
      cases h3
      rfl
theorem mapO_take {f : D → Option (Option D)} : ∀ {l : List D} {zs : List D} (i : Nat), mapO f l = some zs → ∃ ys, mapO f (l.take i) = some ys
  | l, _, 0, _ => ⟨[], rfl⟩
  | [], _, i + 1, _ => ⟨[], rfl⟩
  | a :: l, zs, i + 1, h => by
    simp only [mapO, Option.bind_eq_some_iff] at h
    obtain ⟨oa, h1, ws, h2, h3⟩ := h
    obtain ⟨ys, e⟩ := mapO_take i h2
    exact ⟨_, by
      show ((f a).bind fun o => (mapO f (l.take i)).bind fun l => _) = _
      rw [h1, e]
      rfl⟩
theorem mapO_at {f : D → Option (Option D)} : ∀ {l : List D} {zs : List D} (i : Nat) {d : D}, mapO f l = some zs → l[i]? = some d → ∃ o, f d = some o
  | [], _, i, _, _, hi => by simp at hi
  | a :: l, zs, i, d, h, hi => by
    simp only [mapO, Option.bind_eq_some_iff] at h
    obtain ⟨oa, h1, ws, h2, h3⟩ := h
    cases i with
    | zero =>
      have : a = d := Option.some.inj hi
      subst this
      exact ⟨oa, h1⟩
    | succ i => exact mapO_at i h2 hi
theorem mapO_len {f : D → Option (Option D)} : ∀ {l : List D} {zs : List D}, mapO f l = some zs → zs.length ≤ l.length
  | [], _, h => by
    cases h
    exact Nat.le_refl _
  | a :: l, zs, h => by
    simp only [mapO, Option.bind_eq_some_iff] at h
    obtain ⟨oa, h1, ws, h2, h3⟩ := h
    have := mapO_len h2
    cases oa <;> cases h3 <;> simp only [List.length_cons] <;> omega
theorem comp_run {X : Cx} {xs : List Nat} {tg iter : Expr} {gt : TG} {tt : TT} {te : TE} {it : Wk} (g : Gd T G k X) (hi : SoI T G k it) (hci : chkI G it X.env.scope tg iter = true) {ρ : Rho} {ds zs : List D} {f : D → Option (Option D)}
    (he : evI T it ρ = some ds) (hl : ds.length ≤ sizeLine) (hm : mapO f ds = some zs) {σ : L2.St} {H0 H : Hp} (r : Rl X.K ρ σ H0 H) {Q : VK}
    (q : ∀ p vs H' H0', Xt H0 H H0' H' → H p = none → H' p = some (.lst vs) → H0' p = none → RpAll X.K H0' vs zs → Q (.ref p) H')
    (turn : ∀ d o H1 H01 v (Nx : Hp → Prop) Dd acc, f d = some o → Rl X.K ρ σ H01 H1 → Rp X.K H01 v d → H1 Dd = some (.lst acc) → acc.length < sizeLine → (∀ H2 H02, Xt H01 H1 H02 H2 → (match o with
      | some y => ∀ vy, Rp X.K H02 vy y → Nx (upd H2 Dd (.lst (acc ++ [vy])))
      | none => Nx H2)) →
      gt v (wipe σ xs) H1 fun σ2 H2 => wipe σ2 xs = wipe σ xs ∧ tt σ2 H2 fun b H3 => if b = true then te σ2 H3 fun y H4 => ∃ acc, H4 Dd = some (.lst acc) ∧ acc.length < sizeLine ∧ Nx (upd H4 Dd (.lst (acc ++ [y]))) else Nx H3) :
    tLc (wI X tg iter) gt tt te xs σ H Q := by
  refine hi X tg iter g hci ρ ds he σ H0 H r _ fun J H1 H01 x1 wk => ?_
  intro Dd hD
  have hD0 : H01 Dd = none := x1.s.back hD
  refine ⟨fun i m Hc => m = ds.length - i ∧ i ≤ ds.length ∧ ∃ H0c acc ys, Xt H01 H1 H0c Hc ∧ H0c Dd = none ∧ Hc Dd = some (.lst acc) ∧ RpAll X.K H0c acc ys ∧ mapO f (ds.take i) = some ys, ?_, ?_⟩
  · exact ⟨_, rfl, Nat.zero_le _, H01, [], [], (Xt.refl x1.s).mut hD hD0, hD0, upd_same, .nil, rfl⟩
  · rintro i m Hc ⟨rfl, hil, H0c, acc, ys, xc, hn, hc, ra, hy⟩
    have wki := wk H0c Hc xc.i xc.s i
    by_cases hlt : i < ds.length
    · refine .inr ?_
      have hd : ds[i]? = some ds[i] := List.getElem?_eq_getElem hlt
      obtain ⟨go, yl⟩ := wki.1 _ hd
      obtain ⟨o, ho⟩ := mapO_at i hm hd
      have nxt : mapO f (ds.take (i + 1)) = some (ys ++ o.toList) := by
        rw [List.take_add_one, hd]
        exact mapO_snoc f _ _ _ _ hy ho
      have hacc : acc.length < sizeLine := by
        rw [ra.len]
        have := mapO_len hy
        rw [List.length_take] at this
        omega
      refine ⟨go, fun H' => ∃ H0c acc ys, Xt H01 H1 H0c H' ∧ H0c Dd = none ∧ H' Dd = some (.lst acc) ∧ RpAll X.K H0c acc ys ∧ mapO f (ds.take (i + 1)) = some ys, fun H' ⟨a, b, c, z⟩ => ⟨_, by omega, rfl, hlt, a, b, c, z⟩, fun x H'' hyl => ?_⟩
      obtain ⟨H0'', x2, rx⟩ := yl x H'' hyl
      have hc2 : H'' Dd = some (.lst acc) := x2.o _ _ hc
      have hn2 : H0'' Dd = none := x2.keep_none hc hn
      refine turn _ o H'' H0'' x _ Dd acc ho (r.grow (x1.trans (xc.trans x2))) rx hc2 hacc fun H2 H02 x3 => ?_
      have hc3 : H2 Dd = some (.lst acc) := x3.o _ _ hc2
      have hn3 : H02 Dd = none := x3.keep_none hc2 hn2
      have xx := xc.trans (x2.trans x3)
      cases o with
      | none =>
        refine ⟨H02, acc, ys, xx, hn3, hc3, ra.mono (x2.i.trans x3.i), ?_⟩
        rw [nxt]
        exact congrArg some (List.append_nil ys)
      | some y => exact fun vy ry => ⟨H02, acc ++ [vy], ys ++ [y], xx.mut hD hn3, hn3, upd_same, (ra.mono (x2.i.trans x3.i)).append (.cons ry .nil), nxt⟩
    · refine .inl ⟨wki.2 (by omega), ?_⟩
      have e : ds.take i = ds := List.take_of_length_le (by omega)
      rw [e, hm] at hy
      cases hy
      exact q Dd acc Hc H0c (x1.trans xc) (x1.o.back hD) hc hn ra
end
end Fx

namespace Fx
open PySem PySem.Spec PyProof.Rows L2
/-! ### special forms -/
section
variable {T : Tab} {G : Sig} {k : Nat}
theorem strs_eq : ∀ {ds : List D} {bs : List Str}, strsD ds = some bs → ds = bs.map PyData.str
  | [], _, h => by
    cases h
    rfl
  | d :: r, bs, h => by
    cases d <;> first | (simp [strsD] at h; done) | skip
    simp only [strsD, Option.map_eq_some_iff] at h
    obtain ⟨cs, h1, rfl⟩ := h
    rw [strs_eq h1] <;> rfl
theorem RpAll.strs {K : PySem.W.Frag} {H : Hp} : ∀ {ns : List Str}, RpAll K H (ns.map V.str) (ns.map PyData.str)
  | [] => .nil
  | n :: ns => .cons (.str n) RpAll.strs
theorem RpAll.strsV {K : PySem.W.Frag} {H : Hp} : ∀ {vs : List V} {ns : List Str}, RpAll K H vs (ns.map PyData.str) → vs = ns.map V.str
  | _, [], .nil => rfl
  | _, b :: bs, .cons h r => by
    cases h
    rw [RpAll.strsV r] <;> rfl
theorem attr_plain {f : Expr} {m : Str} {env : PySem.Env} {w : Sem Value} (h : notCall f = true) : attributeBase f m env w = w := by
  cases f <;> first | rfl | (simp [notCall] at h)
theorem cstr_of {f : Expr} {s : Str} (h : isCStr f s = true) : ∃ k p, f = .Constant (.str s) k p := by
  unfold isCStr at h
  split at h
  · rw [decide_eq_true_eq] at h
    subst h
    exact ⟨_, _, rfl⟩
  · cases h
theorem fm_inv {e e1 : Expr} (h : fm1 .inv e = some e1) : ∃ p, e = .UnaryOp .Invert e1 p := by
  unfold fm1 at h
  split at h <;> first | contradiction | skip
  next q1 =>
    cases h
    exact ⟨_, rfl⟩
theorem fm_join {s : Str} {e e1 : Expr} (h : fm1 (.join s) e = some e1) : ∃ k p ap cp, e = .Call (.Attribute (.Constant (.str s) k p) "join" ap) [e1] [] cp ∧ (ap.endLine == cp.line) = true := by
  unfold fm1 at h
  split at h <;> first | contradiction | skip
  next q1 =>
    cases q1
    split at h <;> cases h
    rename_i h1
    simp only [Bool.and_eq_true, decide_eq_true_eq] at h1
    obtain ⟨⟨h2, rfl⟩, h3⟩ := h1
    obtain ⟨k, p, rfl⟩ := cstr_of h2
    exact ⟨_, _, _, _, rfl, h3⟩
theorem fm_split {s : Str} {e e1 : Expr} (h : fm1 (.split s) e = some e1) : ∃ k p ap cp, e = .Call (.Attribute e1 "split" ap) [.Constant (.str s) k p] [] cp ∧ notCall e1 = true ∧ (ap.endLine == cp.line) = true := by
  unfold fm1 at h
  split at h <;> first | contradiction | skip
  next q1 =>
    cases q1
    split at h <;> cases h
    rename_i h1
    simp only [Bool.and_eq_true, decide_eq_true_eq] at h1
    obtain ⟨⟨⟨h2, rfl⟩, h4⟩, h3⟩ := h1
    obtain ⟨k, p, rfl⟩ := cstr_of h2
    exact ⟨_, _, _, _, rfl, h4, h3⟩
theorem fm_rmp {s : Str} {e e1 : Expr} (h : fm1 (.rmp s) e = some e1) : ∃ k p ap cp, e = .Call (.Attribute e1 "removeprefix" ap) [.Constant (.str s) k p] [] cp ∧ notCall e1 = true ∧ (ap.endLine == cp.line) = true := by
  unfold fm1 at h
  split at h <;> first | contradiction | skip
  next q1 =>
    cases q1
    split at h <;> cases h
    rename_i h1
    simp only [Bool.and_eq_true, decide_eq_true_eq] at h1
    obtain ⟨⟨⟨h2, rfl⟩, h4⟩, h3⟩ := h1
    obtain ⟨k, p, rfl⟩ := cstr_of h2
    exact ⟨_, _, _, _, rfl, h4, h3⟩
theorem len_add (a b : Nat) : a + 2 ≤ b → a ≤ b := by omega
theorem soE_x1 {o : X1} {a : E} (ha : SoE T G k a) : SoE T G k (.x1 o a) := by
  intro X e g hc ρ d he σ H0 H r Q q
  simp only [evE, Option.bind_eq_some_iff] at he
  obtain ⟨x, hx, hz⟩ := he
  have hc' : ∃ e1, fm1 o e = some e1 ∧ chk G a X.env.scope e1 = true := by
    simp only [chk] at hc
    split at hc
    · next e1 h1 => exact ⟨e1, h1, hc⟩
    · cases hc
  obtain ⟨e1, h1, h2⟩ := hc'
  cases o with
  | inv =>
    obtain ⟨p, rfl⟩ := fm_inv h1
    cases x <;> first | (simp [x1D] at hz; done) | skip
    cases hz
    refine gE (pe_un un_inv pE) ?_
    refine ha X e1 g h2 ρ _ hx σ H0 H r _ fun vx H1 H01 x1 r1 => ?_
    cases r1
    exact ⟨_, rfl, q _ H1 H01 x1 (.int _)⟩
  | join s =>
    obtain ⟨kk, p, ap, cp, rfl, hl⟩ := fm_join h1
    have ns := chk_star h2
    refine gE (pe_bm PySem.F.plainAttrs_str PySem.F.slot_str_join PySem.F.type_str_join mt_join pe_str (pa_cons pE pa_nil (star1 ns)) rfl (by rw [star1 ns] <;> rfl) hl (star1 ns) rfl) ?_
    refine ⟨rfl, ?_⟩
    refine ha X e1 g h2 ρ _ hx σ H0 H r _ fun vx H1 H01 x1 r1 => ?_
    have go : ∀ {c : Addr} {vs : List V} {ds : List D}, RpAll X.K H01 vs ds → (SqL X.K H1 c vs ∨ SqT X.K H1 c vs) → (strsD ds).bind (joinL s) = some d → ∃ a p, ∃ ys : List Str, (V.str s) = .str a ∧ [V.ref c] = [.ref p] ∧ (SqL X.K H1 p (ys.map V.str) ∨ SqT X.K H1 p (ys.map V.str)) ∧ (ys.map (·.length)).sum + ys.length * a.length ≤ 16777216 ∧ Q (.str (Txt.join a ys)) H1 := by
      intro c vs ds r2 hs hj
      rw [Option.bind_eq_some_iff] at hj
      obtain ⟨ys, h5, h6⟩ := hj
      unfold joinL at h6
      split at h6 <;> cases h6
      rename_i h7
      rw [strs_eq h5] at r2
      rw [r2.strsV] at hs
      exact ⟨s, c, ys, rfl, rfl, hs, h7, q _ H1 H01 x1 (.str _)⟩
    cases x <;> first | (simp [x1D] at hz; done) | skip
    · cases r1 with
      | lst h5 r5 => exact go r5 (Or.inl (Or.inl (x1.s.rd h5))) hz
    · cases r1 with
      | tup h5 r5 => exact go r5 (Or.inr (x1.s.sqt h5)) hz
  | split s =>
    obtain ⟨kk, p, ap, cp, rfl, hn, hl⟩ := fm_split h1
    cases x <;> first | (simp [x1D] at hz; done) | skip
    rename_i y
    simp only [x1D] at hz
    split at hz <;> try cases hz
    rename_i h5
    split at hz <;> cases hz
    rename_i h6
    refine gE (pe_bm PySem.F.plainAttrs_str PySem.F.slot_str_split PySem.F.type_str_split mt_split pE (pa_cons pe_str pa_nil (star1 rfl)) (attr_plain hn) (by rw [star1 rfl] <;> rfl) hl (star1 rfl) rfl) ?_
    refine ha X e1 g h2 ρ _ hx σ H0 H r _ fun vx H1 H01 x1 r1 => ?_
    cases r1
    refine ⟨rfl, _, s, rfl, rfl, by simpa using h5, h6, fun p hp => ?_⟩
    have X1 := Xt.new x1.s hp (o := .lst ((Txt.split y s).map V.str))
    exact q _ _ _ (x1.trans X1) (.lst (Or.inl upd_same) RpAll.strs)
  | rmp s =>
    obtain ⟨kk, p, ap, cp, rfl, hn, hl⟩ := fm_rmp h1
    cases x <;> first | (simp [x1D] at hz; done) | skip
    simp only [x1D] at hz
    split at hz <;> cases hz
    rename_i h6
    refine gE (pe_bm PySem.F.plainAttrs_str PySem.F.slot_str_removeprefix PySem.F.type_str_removeprefix mt_removeprefix pE (pa_cons pe_str pa_nil (star1 rfl)) (attr_plain hn) (by rw [star1 rfl] <;> rfl) hl (star1 rfl) rfl) ?_
    refine ha X e1 g h2 ρ _ hx σ H0 H r _ fun vx H1 H01 x1 r1 => ?_
    cases r1
    exact ⟨rfl, _, s, rfl, rfl, h6, q _ H1 H01 x1 (.str _)⟩
/-! two parts -/
theorem fm_mxd {sc : Scope} {e : Expr} {z : Expr × Expr} (h : fm2 sc .mxd e = some z) : ∃ p kp pos, e = .Call (.Name "max" p) [z.1] [⟨some "default", z.2, kp⟩] pos ∧ isGl sc "max" = true := by
  unfold fm2 at h
  split at h <;> first | contradiction | skip
  next q1 =>
    split at h <;> cases h
    rename_i h1
    simp only [Bool.and_eq_true, decide_eq_true_eq] at h1
    obtain ⟨⟨rfl, h2⟩, rfl⟩ := h1
    exact ⟨_, _, _, rfl, h2⟩
theorem fm_idx {sc : Scope} {e : Expr} {z : Expr × Expr} (h : fm2 sc .idx e = some z) : ∃ ap cp, e = .Call (.Attribute z.1 "index" ap) [z.2] [] cp ∧ notCall z.1 = true ∧ (ap.endLine == cp.line) = true := by
  unfold fm2 at h
  split at h <;> first | contradiction | skip
  next q1 =>
    split at h <;> cases h
    rename_i h1
    simp only [Bool.and_eq_true, decide_eq_true_eq] at h1
    obtain ⟨⟨rfl, h2⟩, h3⟩ := h1
    exact ⟨_, _, rfl, h2, h3⟩
theorem fm_spl2 {sc : Scope} {e : Expr} {z : Expr × Expr} (h : fm2 sc .spl2 e = some z) : ∃ p1 p2 pos, e = .List [.Starred z.1 p1, .Starred z.2 p2] pos := by
  unfold fm2 at h
  split at h <;> first | contradiction | skip
  next q1 =>
    cases h
    exact ⟨_, _, _, rfl⟩
theorem dpInts {K : PySem.W.Frag} {H : Hp} : ∀ ns : List Int, DpAll K H (ns.map V.int) (ns.map PyData.int)
  | [] => .nil
  | n :: ns => .cons (.int n) (dpInts ns)
theorem alikeInts (ns : List Int) : PySem.W.AlikeAll (ns.map PyData.int) := by
  refine ⟨fun x hx y hy => ?_, fun x hx => ?_⟩
  · obtain ⟨i, _, rfl⟩ := List.mem_map.mp hx
    obtain ⟨j, _, rfl⟩ := List.mem_map.mp hy
    rfl
  · obtain ⟨i, _, rfl⟩ := List.mem_map.mp hx
    exact fun z => by cases z
theorem depthInts : ∀ ns : List Int, PyData.depthAll (ns.map PyData.int) = 0
  | [] => rfl
  | n :: ns => by
    show max 0 (PyData.depthAll (ns.map PyData.int)) = 0
    rw [depthInts ns] <;> rfl
def rMaxDef (K : PySem.W.Frag) : List V → List V → Hp → VK → Prop := fun xs zs H Q => ∃ a ns z, xs = [.ref a] ∧ zs = [z] ∧ (SqL K H a (ns.map V.int) ∨ SqT K H a (ns.map V.int)) ∧ (ns = [] → Q z H) ∧ ∀ m, maxL ns = some m → Q (.int m) H
theorem cr_maxDef {X : Cx} (hc : X.calm = true) (hu : X.A.units + 65 < cLine) : CallRK X (.builtin "max") [Str.ofString "default"] (rMaxDef X.K) := by
  intro pins s σ H xs zs us ws Q I rx rz h
  obtain ⟨a, ns, z, rfl, rfl, hs, q0, q1⟩ := h
  rw [Vals.ref1 rx]
  obtain ⟨w, rfl, rw'⟩ : ∃ w, ws = [w] ∧ RelV z w := by
    cases rz with
    | cons h1 h2 =>
      cases h2
      exact ⟨_, rfl, h1⟩
  have hd : X.A.units + 1 + PyData.depthAll (ns.map PyData.int) < cLine := by
    rw [depthInts]
    omega
  have f0 : (ns.map PyData.int) = [] → ∀ h' tk, (∀ b o, s.heap.get? b = some o → h'.get? b = some o) → EP X pins σ Q w { s with heap := h', toks := tk } := fun e h' tk hk => by
    refine ⟨z, H, I.kept hk, rw', q0 (by simpa using e)⟩
  have f1 : ∀ (y : PyData) (ys : List PyData) (i : Nat) (v : Value) h' tk bs, (ns.map PyData.int) = y :: ys → (true = true) → Reads h' v (PySem.W.maxD y ys) bs → (∀ b o, s.heap.get? b = some o → h'.get? b = some o) → EP X pins σ Q v { s with heap := h', toks := tk } := fun y ys i v h' tk bs e _ rd hk => by
    cases ns with
    | nil => cases e
    | cons n r =>
      rw [List.map_cons] at e
      injection e with e1 e2
      subst e1
      subst e2
      rw [PySem.W.maxD_ints] at rd
      cases rd
      exact ⟨.int _, H, I.kept hk, ⟨_, rfl⟩, q1 _ rfl⟩
  rcases hs with hs | hs
  · obtain ⟨its, rv, hl, _⟩ := I.list hs
    obtain ⟨as, h4⟩ := Dp.readsAll I _ _ its (dpInts ns) rv
    exact PySem.W.max_list_default (I.ok.hd hc) hl.isList (by rw [List.toList_toArray]; exact h4) (alikeInts ns) hd f0 fun y ys i v h' tk bs e _ rd hk => f1 y ys i v h' tk bs e rfl rd hk
  · obtain ⟨its, rv, hl, _⟩ := I.tuple hs
    obtain ⟨as, h4⟩ := Dp.readsAll I _ _ its (dpInts ns) rv
    exact PySem.W.max_tuple_default (I.ok.hd hc) hl (by rw [List.toList_toArray]; exact h4) (alikeInts ns) hd f0 fun y ys i v h' tk bs e _ rd hk => f1 y ys i v h' tk bs e rfl rd hk

theorem boot_max : bootBuiltins "max" = some (.builtin "max") := by decide +kernel
/-- the items of a list, of a tuple -/
theorem seq_rp {K : PySem.W.Frag} {H0 H : Hp} {v : V} {x : D} {ds : List D} (e : Ex H0 H) (r : Rp K H0 v x) (h : seqD x = some ds) : ∃ p vs, v = .ref p ∧ (SqT K H p vs ∨ SqL K H p vs) ∧ RpAll K H0 vs ds := by
  cases x <;> first | (simp [seqD] at h; done) | skip
  · cases h
    cases r with
    | lst h5 r5 => exact ⟨_, _, rfl, Or.inr (Or.inl (e.rd h5)), r5⟩
  · cases h
    cases r with
    | tup h5 r5 => exact ⟨_, _, rfl, Or.inl (e.sqt h5), r5⟩
theorem soE_x2 {o : X2} {a b : E} (ha : SoE T G k a) (hb : SoE T G k b) : SoE T G k (.x2 o a b) := by
  intro X e g hc ρ d he σ H0 H r Q q
  simp only [evE, Option.bind_eq_some_iff] at he
  obtain ⟨x, hx, y, hy, hz⟩ := he
  have hc' : ∃ z, fm2 X.env.scope o e = some z ∧ G.cm = true ∧ chk G a X.env.scope z.1 = true ∧ chk G b X.env.scope z.2 = true := by
    simp only [chk] at hc
    split at hc
    · next e1 e2 h1 =>
      simp only [Bool.and_eq_true, decide_eq_true_eq] at hc
      exact ⟨(e1, e2), h1, hc.1.1, hc.1.2, hc.2⟩
    · cases hc
  obtain ⟨z, h1, hm, h2, h3⟩ := hc'
  have n1 := chk_star h2
  have n2 := chk_star h3
  cases o with
  | mxd =>
    obtain ⟨p, kp, pos, rfl, hg⟩ := fm_mxd h1
    have gg := gl_of hg
    refine gE (pe_callBK (ks := [Str.ofString "default"]) (cr_maxDef (g.calm hm) g.un) (gl_X hg) (g.bt _ (by decide +kernel)) boot_max (pa_cons pE pa_nil (star1 n1)) (pk_cons pE pk_nil) gg.2.2 gg.2.1 (by rw [star1 n1] <;> rfl) (by rw [star1 n1] <;> rfl) rfl rfl rfl) ?_
    refine ha X z.1 g h2 ρ _ hx σ H0 H r _ fun vx H1 H01 x1 r1 => ?_
    refine hb X z.2 g h3 ρ _ hy σ H01 H1 (r.grow x1) _ fun vy H2 H02 x2 r2 => ?_
    have r1' := r1.mono x2.i
    have x12 := x1.trans x2
    have fin : ∀ {c : Addr} {vs : List V} {ds : List D} {i : Int}, RpAll X.K H02 vs ds → (SqL X.K H2 c vs ∨ SqT X.K H2 c vs) → vy = .int i → (intsD ds).map (fun ns => PyData.int ((maxL ns).getD i)) = some d → rMaxDef X.K [V.ref c] [vy] H2 Q := by
      intro c vs ds i r5 hs ey hj
      rw [Option.map_eq_some_iff] at hj
      obtain ⟨ns, h5, rfl⟩ := hj
      rw [ints_eq h5] at r5
      rw [r5.intsV] at hs
      subst ey
      refine ⟨c, ns, _, rfl, rfl, hs, fun e0 => ?_, fun m e0 => ?_⟩
      · subst e0
        exact q _ H2 H02 x12 (.int _)
      · rw [e0] at q
        exact q _ H2 H02 x12 (.int _)
    cases x <;> first | (simp [x2D] at hz; done) | skip
    · cases y <;> first | (simp [x2D] at hz; done) | skip
      cases r2
      cases r1' with
      | lst h5 r5 => exact fin r5 (Or.inl (Or.inl (x2.s.rd h5))) rfl hz
    · cases y <;> first | (simp [x2D] at hz; done) | skip
      cases r2
      cases r1' with
      | tup h5 r5 => exact fin r5 (Or.inr (x2.s.sqt h5)) rfl hz
  | idx =>
    obtain ⟨ap, cp, rfl, hn, hl⟩ := fm_idx h1
    cases x <;> first | (simp [x2D] at hz; done) | skip
    simp only [x2D] at hz
    split at hz <;> try cases hz
    rename_i ds hs
    rw [Bool.and_eq_true] at hs
    rw [Option.map_eq_some_iff] at hz
    obtain ⟨j, hj, rfl⟩ := hz
    rw [List.findIdx?_eq_some_iff_getElem] at hj
    obtain ⟨j1, j2, j3⟩ := hj
    refine gE (pe_bm PySem.F.plainAttrs_list PySem.F.slot_list_index PySem.F.type_list_index (mt_indexD g.un) pE (pa_cons pE pa_nil (star1 n2)) (attr_plain hn) (by rw [star1 n2] <;> rfl) hl (star1 n2) rfl) ?_
    refine ha X z.1 g h2 ρ _ hx σ H0 H r _ fun vx H1 H01 x1 r1 => ?_
    cases r1 with
    | lst h5 r5 =>
      refine ⟨Or.inl ⟨rfl, _, Or.inl (x1.s.rd h5)⟩, ?_⟩
      refine hb X z.2 g h3 ρ _ hy σ H01 H1 (r.grow x1) _ fun vy H2 H02 x2 r2 => ?_
      have dl : Rp X.K H2 _ (.list ds) := (Rp.lst h5 r5).mono (x2.i.trans x2.s)
      refine ⟨_, _, y, ds, j, ds[j], rfl, rfl, dl.dp (SeqAt.canLay_of_shaped hs.1), (r2.mono x2.s).dp (SeqAt.canLay_of_shaped hs.2), hs.1, hs.2, List.getElem?_eq_getElem j1, j2, fun m z' hm2 hz' => ?_, q _ H2 H02 (x1.trans x2) (.int _)⟩
      obtain ⟨hm3, hm4⟩ := List.getElem?_eq_some_iff.mp hz'
      have := j3 m hm2
      rw [hm4] at this
      simpa using this
  | spl2 =>
    obtain ⟨p1, p2, pos, rfl⟩ := fm_spl2 h1
    simp only [x2D, Option.bind_eq_some_iff] at hz
    obtain ⟨as, ea, bs, eb, h6⟩ := hz
    split at h6 <;> cases h6
    rename_i hlen
    refine gE (pe_lst (StX.pa_star pE (StX.pa_star pE pa_nil rfl) rfl)) ?_
    refine ha X z.1 g h2 ρ _ hx σ H0 H r _ fun vx H1 H01 x1 r1 => ?_
    obtain ⟨c1, vs1, rfl, s1, r5⟩ := seq_rp x1.s r1 ea
    refine ⟨c1, vs1, rfl, s1, ?_⟩
    refine hb X z.2 g h3 ρ _ hy σ H01 H1 (r.grow x1) _ fun vy H2 H02 x2 r2 => ?_
    obtain ⟨c2, vs2, rfl, s2, r6⟩ := seq_rp x2.s r2 eb
    refine ⟨c2, vs2, rfl, s2, ?_⟩
    have ra : RpAll X.K H02 (vs1 ++ (vs2 ++ [])) (as ++ bs) := by
      rw [List.append_nil]
      exact (r5.mono x2.i).append r6
    refine ⟨by rw [ra.len]; exact hlen, fun p hp => ?_⟩
    have x12 := x1.trans x2
    have X1 := Xt.new x2.s hp (o := .lst (vs1 ++ (vs2 ++ [])))
    exact q _ _ _ (x12.trans X1) (.lst (Or.inl upd_same) (ra.mono X1.i))
theorem soE_spl {t : Bool} {a : E} {es : Es} (ha : SoE T G k a) (hs : SoA T G k es) : SoE T G k (.spl t a es) := by
  intro X e g hc ρ d he σ H0 H r Q q
  simp only [evE, Option.bind_eq_some_iff] at he
  obtain ⟨x, hx, xs, hxs, ys, hys, hz⟩ := he
  split at hz <;> cases hz
  rename_i hlen
  unfold chk at hc
  split at hc <;> first | contradiction | skip
  · next q1 =>
    cases q1
    rename_i p0 e1 p1 as pos
    simp only [Bool.and_eq_true, Bool.not_eq_true'] at hc
    obtain ⟨⟨ht, h2⟩, h3⟩ := hc
    subst ht
    refine gE (pe_lst (StX.pa_star pE pA rfl)) ?_
    refine ha X e1 g h2 ρ _ hx σ H0 H r _ fun vx H1 H01 x1 r1 => ?_
    obtain ⟨c1, vs1, rfl, s1, r5⟩ := seq_rp x1.s r1 hys
    refine ⟨c1, vs1, rfl, s1, ?_⟩
    refine hs X as g h3 ρ _ hxs σ H01 H1 (r.grow x1) _ fun vs2 H2 H02 x2 r2 => ?_
    have ra : RpAll X.K H02 (vs1 ++ vs2) (ys ++ xs) := (r5.mono x2.i).append r2
    refine ⟨by rw [ra.len]; exact hlen, fun p hp => ?_⟩
    have x12 := x1.trans x2
    have X1 := Xt.new x2.s hp (o := .lst (vs1 ++ vs2))
    exact q _ _ _ (x12.trans X1) (.lst (Or.inl upd_same) (ra.mono X1.i))
  · next q1 =>
    cases q1
    rename_i p0 e1 p1 as c0 pos
    simp only [Bool.and_eq_true] at hc
    obtain ⟨⟨ht, h2⟩, h3⟩ := hc
    subst ht
    refine gE (pe_tup (StX.pa_star pE pA rfl)) ?_
    refine ha X e1 g h2 ρ _ hx σ H0 H r _ fun vx H1 H01 x1 r1 => ?_
    obtain ⟨c1, vs1, rfl, s1, r5⟩ := seq_rp x1.s r1 hys
    refine ⟨c1, vs1, rfl, s1, ?_⟩
    refine hs X as g h3 ρ _ hxs σ H01 H1 (r.grow x1) _ fun vs2 H2 H02 x2 r2 => ?_
    have ra : RpAll X.K H02 (vs1 ++ vs2) (ys ++ xs) := (r5.mono x2.i).append r2
    refine ⟨by rw [ra.len]; exact hlen, fun p hp => ?_⟩
    have x12 := x1.trans x2
    have X1 := Xt.new x2.s hp (o := .tup (vs1 ++ vs2))
    exact q _ _ _ (x12.trans X1) (.tup (Or.inl (Or.inl upd_same)) (ra.mono X1.i))
end
end Fx

namespace Fx
open PySem PySem.Spec PyProof.Rows L2
section
variable {T : Tab} {G : Sig} {k : Nat}
theorem own_map (xs : List Nat) : (ownOf G xs).map (·.2) = xs := by
  unfold ownOf
  rw [List.map_map]
  exact (List.map_congr_left (fun _ _ => rfl)).trans (List.map_id _)
theorem comp_form {elt : E} {xs : List Nat} {it : Wk} {sc : Scope} {e : Expr} (h : chk G (.comp elt xs it) sc e = true) : ∃ e1 tg iter scope pos, e = .ListComp e1 [⟨tg, iter, [], 0⟩] scope pos ∧ notSet iter = true ∧ blkC G.N sc scope (ownOf G xs) = true ∧ cells scope (ownOf G xs) = true ∧
    chkT1 G (relS scope sc) xs tg = true ∧ chkI G it sc tg iter = true ∧ chk G elt (relS scope sc) e1 = true ∧ G.cm = true := by
  cases e <;> first | (simp [chk] at h; done) | skip
  case ListComp e1 gs scope pos =>
    match gs, h with
    | [], h => simp [chk] at h
    | _ :: _ :: _, h => simp [chk] at h
    | [⟨tg, iter, ifs, kk⟩], h =>
      simp only [chk, Bool.and_eq_true, decide_eq_true_eq] at h
      obtain ⟨⟨⟨⟨⟨⟨⟨⟨rfl, hcm⟩, h2⟩, h3⟩, h4⟩, h5⟩, h6⟩, h7⟩, h8⟩ := h
      cases ifs with
      | cons => simp at h2
      | nil => exact ⟨e1, tg, iter, scope, pos, rfl, h3, h4, h5, h6, h7, h8, hcm⟩
theorem compIf_form {elt c : E} {xs : List Nat} {it : Wk} {sc : Scope} {e : Expr} (h : chk G (.compIf elt xs it c) sc e = true) : ∃ e1 tg iter cd scope pos, e = .ListComp e1 [⟨tg, iter, [cd], 0⟩] scope pos ∧ notSet iter = true ∧ blkC G.N sc scope (ownOf G xs) = true ∧ cells scope (ownOf G xs) = true ∧
    chkT1 G (relS scope sc) xs tg = true ∧ chkI G it sc tg iter = true ∧ chk G elt (relS scope sc) e1 = true ∧ chkT G c (relS scope sc) cd = true ∧ G.cm = true := by
  cases e <;> first | (simp [chk] at h; done) | skip
  case ListComp e1 gs scope pos =>
    match gs, h with
    | [], h => simp [chk] at h
    | _ :: _ :: _, h => simp [chk] at h
    | [⟨tg, iter, [], kk⟩], h => simp [chk] at h
    | [⟨tg, iter, _ :: _ :: _, kk⟩], h => simp [chk] at h
    | [⟨tg, iter, [cd], kk⟩], h =>
      simp only [chk, Bool.and_eq_true, decide_eq_true_eq] at h
      obtain ⟨⟨⟨⟨⟨⟨⟨⟨rfl, hcm⟩, h3⟩, h4⟩, h5⟩, h6⟩, h7⟩, h8⟩, h9⟩ := h
      exact ⟨e1, tg, iter, cd, scope, pos, rfl, h3, h4, h5, h6, h7, h8, h9, hcm⟩
/-- the reading of a comprehension -/
def CompT (X : Cx) (a : E) (e : Expr) (σ : L2.St) (H : Hp) (Q : VK) : Prop := ∀ e1 tg iter ifs scope pos, e = .ListComp e1 [⟨tg, iter, ifs, 0⟩] scope pos →
  ∃ gt tt te, PI X tg iter (wI X tg iter) ∧ BlkOk X.N X.env.scope scope (ownOf G (match a with | .comp _ xs _ => xs | .compIf _ xs _ _ => xs | _ => [])) ∧
    (∀ (s : Shared) (H : Hp) (C : Addr) (cl : List (Str × Addr)) (fp : List Addr), PG (X.blk s H scope (compEnvC scope cl C X.env) fp) tg gt) ∧ (∀ (s : Shared) (H : Hp) (C : Addr) (cl : List (Str × Addr)) (fp : List Addr), PTs (X.blk s H scope (compEnvC scope cl C X.env) fp) ifs tt) ∧
    (∀ (s : Shared) (H : Hp) (C : Addr) (cl : List (Str × Addr)) (fp : List Addr), PE (X.blk s H scope (compEnvC scope cl C X.env) fp) e1 te) ∧ (∀ x, foldedSetIterable iter X.env x = pure x) ∧ tLc (wI X tg iter) gt tt te (match a with | .comp _ xs _ => xs | .compIf _ xs _ _ => xs | _ => []) σ H Q
theorem comp_read {elt : E} {xs : List Nat} {it : Wk} (h1 : SoE T G k elt) (hi : SoI T G k it) {X : Cx} {e : Expr} (g : Gd T G k X) (hc : chk G (.comp elt xs it) X.env.scope e = true) {ρ : Rho} {zs : List D} (he : evE T (.comp elt xs it) ρ = some (.list zs)) {σ : L2.St} {H0 H : Hp} (r : Rl X.K ρ σ H0 H) {Q : VK}
    (q : ∀ p vs H' H0', Xt H0 H H0' H' → H p = none → H' p = some (.lst vs) → H0' p = none → RpAll X.K H0' vs zs → Q (.ref p) H') : CompT (G := G) X (.comp elt xs it) e σ H Q := by
  intro e1 tg iter ifs scope pos hform
  obtain ⟨e1', tg', iter', scope', pos', rfl, h3, h4, h5, h6, h7, h8, hcm⟩ := comp_form hc
  cases hform
  simp only [evE, Option.bind_eq_some_iff] at he
  obtain ⟨ds, h9, h10⟩ := he
  split at h10 <;> try cases h10
  rename_i hl
  rw [Option.map_eq_some_iff] at h10
  obtain ⟨zs', hm, hz⟩ := h10
  cases hz
  obtain ⟨gt, pg, st⟩ := tgt_ok g hcm h5 h6
  refine ⟨gt, tYes, wEb X scope e1, pI, ?_, pg, fun s0 H0 C cl fp => pts_nil, fun s0 H0 C cl fp => ⟨fun pins s σ H Q I h => h s0 H0 C cl fp pins s I⟩, set0 h3, ?_⟩
  · rw [g.nN]
    exact blkOk_by h4
  · refine comp_run g hi h7 h9 hl hm r q ?_
    intro d o H1 H01 v Nx Dd acc ho r1 rv hD hacc nx
    simp only [Option.bind_eq_some_iff, Option.map_eq_some_iff] at ho
    obtain ⟨ρ', h11, y, h12, rfl⟩ := ho
    refine st h11 r1 rv fun σ2 hw r2 => ⟨hw, ?_⟩
    unfold tYes
    dsimp only
    rw [if_pos rfl]
    refine gEb fun s0 Hs C cl fp => ?_
    refine h1 _ e1 (gd_blk g) h8 ρ' y h12 σ2 H01 H1 r2 _ fun vy H2 H02 x2 ry => ?_
    exact ⟨acc, x2.o _ _ hD, hacc, nx H2 H02 x2 vy ry⟩
theorem compIf_read {elt c : E} {xs : List Nat} {it : Wk} (h1 : SoE T G k elt) (hcd : SoT T G k c) (hi : SoI T G k it) {X : Cx} {e : Expr} (g : Gd T G k X) (hc : chk G (.compIf elt xs it c) X.env.scope e = true) {ρ : Rho} {zs : List D} (he : evE T (.compIf elt xs it c) ρ = some (.list zs)) {σ : L2.St} {H0 H : Hp} (r : Rl X.K ρ σ H0 H) {Q : VK}
    (q : ∀ p vs H' H0', Xt H0 H H0' H' → H p = none → H' p = some (.lst vs) → H0' p = none → RpAll X.K H0' vs zs → Q (.ref p) H') : CompT (G := G) X (.compIf elt xs it c) e σ H Q := by
  intro e1 tg iter ifs scope pos hform
  obtain ⟨e1', tg', iter', cd, scope', pos', rfl, h3, h4, h5, h6, h7, h8, hcc, hcm⟩ := compIf_form hc
  cases hform
  simp only [evE, Option.bind_eq_some_iff] at he
  obtain ⟨ds, h9, h10⟩ := he
  split at h10 <;> try cases h10
  rename_i hl
  rw [Option.map_eq_some_iff] at h10
  obtain ⟨zs', hm, hz⟩ := h10
  cases hz
  obtain ⟨gt, pg, st⟩ := tgt_ok g hcm h5 h6
  refine ⟨gt, wTb X scope cd, wEb X scope e1, pI, ?_, pg, fun s0 H0 C cl fp => pts_one ⟨fun pins s σ H Q I h => h s0 H0 C cl fp pins s I⟩, fun s0 H0 C cl fp => ⟨fun pins s σ H Q I h => h s0 H0 C cl fp pins s I⟩, set0 h3, ?_⟩
  · rw [g.nN]
    exact blkOk_by h4
  · refine comp_run g hi h7 h9 hl hm r q ?_
    intro d o H1 H01 v Nx Dd acc ho r1 rv hD hacc nx
    simp only [Option.bind_eq_some_iff] at ho
    obtain ⟨ρ', h11, h12⟩ := ho
    refine st h11 r1 rv fun σ2 hw r2 => ⟨hw, ?_⟩
    intro s0 Hs C cl fp
    split at h12
    · rename_i hb
      rw [Option.map_eq_some_iff] at h12
      obtain ⟨y, h13, rfl⟩ := h12
      refine hcd _ cd (gd_blk g) hcc ρ' _ hb σ2 H01 H1 r2 _ fun H2 H02 x2 => ?_
      refine iteT ?_
      refine gEb fun s0 Hs C cl fp => ?_
      refine h1 _ e1 (gd_blk g) h8 ρ' y h13 σ2 H02 H2 (r2.grow x2) _ fun vy H3 H03 x3 ry => ?_
      exact ⟨acc, x3.o _ _ (x2.o _ _ hD), hacc, nx H3 H03 (x2.trans x3) vy ry⟩
    · rename_i hb
      cases h12
      refine hcd _ cd (gd_blk g) hcc ρ' _ hb σ2 H01 H1 r2 _ fun H2 H02 x2 => ?_
      exact iteF (nx H2 H02 x2)
    · cases h12
theorem soN_comp {elt : E} {xs : List Nat} {it : Wk} (h1 : SoE T G k elt) (hi : SoI T G k it) : SoN T G k (.comp elt xs it) := by
  intro X e g hc ρ zs he σ H0 H r Q q
  have rd := comp_read h1 hi g hc he r q
  obtain ⟨e1', tg', iter', scope', pos', rfl, _, _, _, _, _, _, hcm⟩ := comp_form hc
  obtain ⟨gt, tt, te, p1, p2, p3, p4, p5, p6, p7⟩ := rd _ _ _ _ _ _ rfl
  have z := pe_lc (pos := pos') (g.calm hcm) g.nd p1 p2 p3 p4 p5 p6
  refine gE z ?_
  rw [own_map]
  exact p7
theorem soN_compIf {elt c : E} {xs : List Nat} {it : Wk} (h1 : SoE T G k elt) (hcd : SoT T G k c) (hi : SoI T G k it) : SoN T G k (.compIf elt xs it c) := by
  intro X e g hc ρ zs he σ H0 H r Q q
  have rd := compIf_read h1 hcd hi g hc he r q
  obtain ⟨e1', tg', iter', cd', scope', pos', rfl, _, _, _, _, _, _, _, hcm⟩ := compIf_form hc
  obtain ⟨gt, tt, te, p1, p2, p3, p4, p5, p6, p7⟩ := rd _ _ _ _ _ _ rfl
  have z := pe_lc (pos := pos') (g.calm hcm) g.nd p1 p2 p3 p4 p5 p6
  refine gE z ?_
  rw [own_map]
  exact p7
theorem comp_list {elt : E} {xs : List Nat} {it : Wk} : ∀ ρ d, evE T (.comp elt xs it) ρ = some d → ∃ ds, d = .list ds := by
  intro ρ d he
  simp only [evE, Option.bind_eq_some_iff] at he
  obtain ⟨ds, h9, h10⟩ := he
  split at h10 <;> try cases h10
  rw [Option.map_eq_some_iff] at h10
  obtain ⟨zs', hm, hz⟩ := h10
  exact ⟨_, hz.symm⟩
theorem compIf_list {elt c : E} {xs : List Nat} {it : Wk} : ∀ ρ d, evE T (.compIf elt xs it c) ρ = some d → ∃ ds, d = .list ds := by
  intro ρ d he
  simp only [evE, Option.bind_eq_some_iff] at he
  obtain ⟨ds, h9, h10⟩ := he
  split at h10 <;> try cases h10
  rw [Option.map_eq_some_iff] at h10
  obtain ⟨zs', hm, hz⟩ := h10
  exact ⟨_, hz.symm⟩
/-! ### 12. all expressions -/
theorem soE_no : SoE T G k .no := by
  intro X e g hc
  cases e <;> simp [chk] at hc
theorem soE_tru {a : E} : SoE T G k (.tru a) := by
  intro X e g hc
  cases e <;> simp [chk] at hc
theorem plain_name {x : Str} {p : Pos} : plainT (.Name x p) = true := rfl
theorem soT_any {a : E} (ha : SoE T G k a) (h : ∀ sc e, chkT G a sc e = true → chk G a sc e = true ∧ plainT e = true) : SoT T G k a := by
  intro X e g hc ρ d he σ H0 H r Q q
  obtain ⟨h1, h2⟩ := h _ _ hc
  exact soT_val ha g h1 h2 he r q
theorem soT_none {a : E} (h : ∀ sc e, chkT G a sc e = false) : SoT T G k a := by
  intro X e g hc
  rw [h] at hc
  cases hc
mutual
theorem soE : ∀ a : E, SoE T G k a
  | .var i => soE_var
  | .lit d => soE_lit
  | .con i => soE_con
  | .no => soE_no
  | .op o a b => soE_op (soE a) (soE b)
  | .neg a => soE_neg (soE a)
  | .chain o p a b c => soE_chain (soE a) (soE b) (soE c)
  | .and a b => soE_and (soE a) (soE b)
  | .or a b => soE_or (soE a) (soE b)
  | .not a => soE_not (soE a)
  | .tru a => soE_tru
  | .ite c a b => soE_ite (soT c) (soE a) (soE b)
  | .call f es => soE_call (soA es)
  | .bc b es => soE_bc (soA es)
  | .isi a t => soE_isi (soE a)
  | .ix a i => soE_ix (soE a) (soE i)
  | .sl a lo hi => soE_sl (soE a)
  | .tup es => soE_tup (soA es)
  | .lst es => soE_new (soN_lst (soA es)) lst_list
  | .comp elt xs it => soE_new (soN_comp (soE elt) (soI it)) comp_list
  | .compIf elt xs it c => soE_new (soN_compIf (soE elt) (soT c) (soI it)) compIf_list
  | .x1 o a => soE_x1 (soE a)
  | .x2 o a b => soE_x2 (soE a) (soE b)
  | .spl t a es => soE_spl (soE a) (soA es)
theorem soT : ∀ a : E, SoT T G k a
  | .var i => soT_any soE_var fun sc e h => by
    cases e <;> first | (simp [chkT] at h; done) | (simp only [chkT] at h; exact ⟨h, rfl⟩)
  | .lit d => soT_any soE_lit fun sc e h => by
    cases e <;> first | (cases d <;> simp [chkT] at h; done) | skip
    rename_i c _ _
    cases d <;> cases c <;> first | (simp [chkT] at h; done) | (simp only [chkT] at h; exact ⟨h, rfl⟩)
  | .con i => soT_none fun sc e => by cases e <;> rfl
  | .no => soT_none fun sc e => by cases e <;> rfl
  | .op o a b => soT_op (soE a) (soE b)
  | .neg a => soT_none fun sc e => by cases e <;> rfl
  | .chain o p a b c => soT_chain (soE a) (soE b) (soE c)
  | .and a b => soT_and (soT a) (soT b)
  | .or a b => soT_or (soT a) (soT b)
  | .not a => soT_not (soT a)
  | .tru a => soT_tru (soE a)
  | .ite c a b => soT_none fun sc e => by cases e <;> rfl
  | .call f es => soT_any (soE_call (soA es)) fun sc e h => by
    unfold chkT at h
    split at h <;> first | contradiction | (next heq => cases heq; exact ⟨h, rfl⟩) | cases h
  | .bc b es => soT_any (soE_bc (soA es)) fun sc e h => by
    unfold chkT at h
    split at h <;> first | contradiction | (next heq => cases heq; exact ⟨h, rfl⟩) | cases h
  | .isi a t => soT_any (soE_isi (soE a)) fun sc e h => by
    unfold chkT at h
    split at h <;> first | contradiction | (next heq => cases heq; exact ⟨h, rfl⟩) | cases h
  | .ix a i => soT_any (soE_ix (soE a) (soE i)) fun sc e h => by
    unfold chkT at h
    split at h <;> first | contradiction | (next heq => cases heq; exact ⟨h, rfl⟩) | cases h
  | .sl a lo hi => soT_none fun sc e => by cases e <;> rfl
  | .tup es => soT_none fun sc e => by cases e <;> rfl
  | .lst es => soT_none fun sc e => by cases e <;> rfl
  | .comp elt xs it => soT_none fun sc e => by cases e <;> rfl
  | .compIf elt xs it c => soT_none fun sc e => by cases e <;> rfl
  | .x1 o a => soT_none fun sc e => by cases e <;> rfl
  | .x2 o a b => soT_none fun sc e => by cases e <;> rfl
  | .spl t a es => soT_none fun sc e => by cases e <;> rfl
theorem soA : ∀ a : Es, SoA T G k a
  | .nil => soA_nil
  | .cons e es => soA_cons (soE e) (soA es)
theorem soI : ∀ a : Wk, SoI T G k a
  | .seq e => soI_seq (soE e)
  | .rng es => soI_rng (soA es)
  | .rev e => soI_rev (soE e)
  | .zip a b => soI_zip (soE a) (soE b)
end
theorem soN : ∀ a : E, isNew a = true → SoN T G k a
  | .lst es, _ => soN_lst (soA es)
  | .comp elt xs it, _ => soN_comp (soE elt) (soI it)
  | .compIf elt xs it c, _ => soN_compIf (soE elt) (soT c) (soI it)
end
end Fx

namespace Fx
open PySem PySem.Spec PyProof.Rows L2
/-! ### 13. statements -/
structure Gs (T : Tab) (G : Sig) (k : Nat) (X : Cx) : Prop extends Gd T G k X where
  cm : G.cm = true
  fnT : ∀ x, X.fn x = true
  po : PassesOwn (model X.prog X.w) X.A X.env X.xe
/-- what holds between two statements; He0, He: as the def was entered -/
structure Rs (K : PySem.W.Frag) (ρ : Rho) (σ : L2.St) (He0 He H0 H : Hp) : Prop where
  r : Rl K ρ σ H0 H
  x : Xt He0 He H0 H
  n : ∀ (i : Nat) (ds : List D) (p : Addr), ρ[i]? = some (.own ds) → σ[i]? = some (some (.ref p)) → He p = none
section
variable {K : PySem.W.Frag} {ρ : Rho} {σ : L2.St} {He0 He H0 H H0' H' : Hp}
theorem Rs.grow (r : Rs K ρ σ He0 He H0 H) (x : Xt H0 H H0' H') : Rs K ρ σ He0 He H0' H' := ⟨r.r.grow x, r.x.trans x, r.n⟩
theorem Rs.set (r : Rs K ρ σ He0 He H0 H) (i : Nat) {x : V} {d : D} (h : Rp K H0 x d) : Rs K (ρ.set i (.v d)) (σ.set i (some x)) He0 He H0 H := by
  refine ⟨r.r.set i h, r.x, fun j ds p h1 h2 => ?_⟩
  by_cases z : i = j
  · subst z
    have hl : i < ρ.length := by
      have := (List.getElem?_eq_some_iff.mp h1).1
      rwa [List.length_set] at this
    rw [List.getElem?_set_self hl] at h1
    cases h1
  · rw [List.getElem?_set_ne z] at h1 h2
    exact r.n j ds p h1 h2
theorem Rs.down (r : Rs K ρ σ He0 He H0 H) : Rs K ρ σ H0 He H0 H := ⟨r.r, ⟨Ex.refl _, r.x.o, r.x.s, fun _ _ e => Or.inl e⟩, r.n⟩
/-- the same from a later entry -/
theorem Rs.from {H01 : Hp} (r : Rs K ρ σ He0 He H0 H) (a : Ex He0 H01) (b : Ex H01 H0) : Rs K ρ σ H01 He H0 H := ⟨r.r, ⟨b, r.x.o, r.x.s, fun p u e => by
  rcases r.x.f p u e with z | z
  · exact Or.inl (a p u z)
  · exact Or.inr z⟩, r.n⟩
theorem Rs.up {H01 H1 : Hp} (x : Xt He0 He H01 H1) (r : Rs K ρ σ H01 He H0 H) : Rs K ρ σ He0 He H0 H := ⟨r.r, ⟨x.i.trans r.x.i, r.x.o, r.x.s, fun p u e => by
  rcases r.x.f p u e with z | z
  · exact x.f p u z
  · exact Or.inr z⟩, r.n⟩
theorem Xt.up {H01 H1 : Hp} (x : Xt He0 He H01 H1) (y : Xt H01 He H0 H) : Xt He0 He H0 H := ⟨x.i.trans y.i, y.o, y.s, fun p u e => by
  rcases y.f p u e with z | z
  · exact x.f p u z
  · exact Or.inr z⟩
theorem set_same {α : Type} (l : List α) (i : Nat) (x : α) (h : l[i]? = some x) : l.set i x = l := by
  apply List.ext_getElem?
  intro n
  rw [List.getElem?_set]
  split
  · rename_i e
    subst e
    split
    · exact h.symm
    · rename_i hn
      rw [List.getElem?_eq_none (by omega)] at h
      cases h
  · rfl
/-- a list of its own comes to rest -/
theorem Rs.fz1 (r : Rs K ρ σ He0 He H0 H) (i : Nat) : ∃ H0', Ex H0 H0' ∧ Rs K (ρ.set i (fzC (ρ[i]?.getD .no))) σ He0 He H0' H := by
  cases h : ρ[i]? with
  | none =>
    refine ⟨H0, Ex.refl _, ?_⟩
    have : ρ.set i (fzC (Option.getD none .no)) = ρ := List.set_eq_of_length_le (by
      have := List.getElem?_eq_none_iff.mp h
      exact this)
    rw [this]
    exact r
  | some c =>
    cases c with
    | no =>
      refine ⟨H0, Ex.refl _, ?_⟩
      show Rs K (ρ.set i .no) σ He0 He H0 H
      rw [set_same _ _ _ h]
      exact r
    | v d =>
      refine ⟨H0, Ex.refl _, ?_⟩
      show Rs K (ρ.set i (.v d)) σ He0 He H0 H
      rw [set_same _ _ _ h]
      exact r
    | own ds =>
      obtain ⟨p, xs, h1, h2, h3, h4⟩ := r.r.o i ds h
      have hp := r.n i ds p h h1
      have e1 : Ex H0 (upd H0 p (.lst xs)) := Ex.new h3
      refine ⟨upd H0 p (.lst xs), e1, ?_⟩
      show Rs K (ρ.set i (.v (.list ds))) σ He0 He (upd H0 p (.lst xs)) H
      have self : ∀ j c, (ρ.set i (.v (.list ds)))[j]? = some c → (j = i ∧ c = .v (.list ds)) ∨ (j ≠ i ∧ ρ[j]? = some c) := by
        intro j c hc
        by_cases z : i = j
        · subst z
          have hl : i < ρ.length := by
            have := (List.getElem?_eq_some_iff.mp hc).1
            rwa [List.length_set] at this
          rw [List.getElem?_set_self hl] at hc
          exact Or.inl ⟨rfl, (Option.some.inj hc).symm⟩
        · rw [List.getElem?_set_ne z] at hc
          exact Or.inr ⟨fun q => z q.symm, hc⟩
      refine ⟨⟨?_, fun j e he => ?_, fun j es he => ?_, fun j l ds es q a1 a2 a3 a4 => ?_, by rw [List.length_set]; exact r.r.ln⟩, r.x.fz hp h2, fun j es q he hs => ?_⟩
      · intro a u e
        by_cases z : a = p
        · subst z
          rw [upd_same] at e
          rw [← e]
          exact h2
        · rw [upd_ne z] at e
          exact r.r.ex a u e
      · rcases self j _ he with ⟨rfl, e2⟩ | ⟨z, e2⟩
        · cases e2
          exact ⟨.ref p, h1, .lst (Or.inl upd_same) (h4.mono e1)⟩
        · obtain ⟨y, a, b⟩ := r.r.v j e e2
          exact ⟨y, a, b.mono e1⟩
      · rcases self j _ he with ⟨rfl, e2⟩ | ⟨z, e2⟩
        · cases e2
        · obtain ⟨q, ys, a, b, c, e⟩ := r.r.o j es e2
          refine ⟨q, ys, a, b, ?_, e.mono e1⟩
          have hq : q ≠ p := fun e => by
            subst e
            exact z (r.r.a j i es ds q e2 h a h1)
          rw [upd_ne hq]
          exact c
      · rcases self j _ a1 with ⟨_, e2⟩ | ⟨z, e2⟩
        · cases e2
        · rcases self l _ a2 with ⟨_, e3⟩ | ⟨z3, e3⟩
          · cases e3
          · exact r.r.a j l _ _ q e2 e3 a3 a4
      · rcases self j _ he with ⟨rfl, e2⟩ | ⟨z, e2⟩
        · cases e2
        · exact r.n j es q e2 hs
theorem Rs.fz : ∀ (is : List Nat) {ρ : Rho} {H0 : Hp}, Rs K ρ σ He0 He H0 H → ∃ H0', Ex H0 H0' ∧ Rs K (fzE ρ is) σ He0 He H0' H
  | [], _, H0, r => ⟨H0, Ex.refl _, r⟩
  | i :: is, ρ, H0, r => by
    obtain ⟨H1, e1, r1⟩ := r.fz1 i
    obtain ⟨H2, e2, r2⟩ := Rs.fz is r1
    exact ⟨H2, e1.trans e2, r2⟩
/-- a name takes a new list -/
theorem Rs.own (r : Rs K ρ σ He0 He H0 H) (i : Nat) {p : Addr} {vs : List V} {ds : List D} (x : Xt H0 H H0' H') (h : H p = none) (h' : H' p = some (.lst vs)) (h0 : H0' p = none) (ra : RpAll K H0' vs ds) :
    Rs K (ρ.set i (.own ds)) (σ.set i (some (.ref p))) He0 He H0' H' := by
  have rg := r.grow x
  have self : ∀ j c, (ρ.set i (.own ds))[j]? = some c → (j = i ∧ i < σ.length ∧ c = .own ds) ∨ (j ≠ i ∧ ρ[j]? = some c) := by
    intro j c hc
    by_cases z : i = j
    · subst z
      have hl : i < ρ.length := by
        have := (List.getElem?_eq_some_iff.mp hc).1
        rwa [List.length_set] at this
      rw [List.getElem?_set_self hl] at hc
      exact Or.inl ⟨rfl, by rw [← r.r.ln]; exact hl, (Option.some.inj hc).symm⟩
    · rw [List.getElem?_set_ne z] at hc
      exact Or.inr ⟨fun q => z q.symm, hc⟩
  have other : ∀ j, j ≠ i → (σ.set i (some (V.ref p)))[j]? = σ[j]? := fun j z => List.getElem?_set_ne (fun q => z q.symm)
  have fresh : ∀ (j : Nat) (es : List D) (q : Addr), ρ[j]? = some (.own es) → σ[j]? = some (some (.ref q)) → q ≠ p := by
    intro j es q h1 h2 e
    subst e
    obtain ⟨q', ys, a, b, _⟩ := r.r.o j es h1
    rw [h2] at a
    cases a
    rw [h] at b
    cases b
  refine ⟨⟨rg.r.ex, fun j e he => ?_, fun j es he => ?_, fun j l es fs q a1 a2 a3 a4 => ?_, by rw [List.length_set, List.length_set, r.r.ln]⟩, rg.x, fun j es q he hs => ?_⟩
  · rcases self j _ he with ⟨_, _, e2⟩ | ⟨z, e2⟩
    · cases e2
    · obtain ⟨y, a, b⟩ := rg.r.v j e e2
      exact ⟨y, by rw [other j z]; exact a, b⟩
  · rcases self j _ he with ⟨rfl, hl, e2⟩ | ⟨z, e2⟩
    · cases e2
      exact ⟨p, vs, List.getElem?_set_self hl, h', h0, ra⟩
    · obtain ⟨q, ys, a, b, c, e⟩ := rg.r.o j es e2
      exact ⟨q, ys, by rw [other j z]; exact a, b, c, e⟩
  · rcases self j _ a1 with ⟨rfl, hl, e2⟩ | ⟨z, e2⟩
    · rcases self l _ a2 with ⟨rfl, _, _⟩ | ⟨z3, e3⟩
      · rfl
      · rw [other l z3] at a4
        rw [List.getElem?_set_self hl] at a3
        cases a3
        exact absurd rfl (fresh l _ _ e3 a4)
    · rcases self l _ a2 with ⟨rfl, hl, e3⟩ | ⟨z3, e3⟩
      · rw [other j z] at a3
        rw [List.getElem?_set_self hl] at a4
        cases a4
        exact absurd rfl (fresh j _ _ e2 a3)
      · rw [other j z] at a3
        rw [other l z3] at a4
        exact r.r.a j l _ _ q e2 e3 a3 a4
  · rcases self j _ he with ⟨rfl, hl, e2⟩ | ⟨z, e2⟩
    · rw [List.getElem?_set_self hl] at hs
      cases hs
      exact r.x.o.back h
    · rw [other j z] at hs
      exact r.n j es q e2 hs
/-- a list of its own grows -/
theorem Rs.app (r : Rs K ρ σ He0 He H0 H) {i : Nat} {p : Addr} {vs : List V} {ds : List D} {v : V} {d : D} (ho : ρ[i]? = some (.own ds)) (hs : σ[i]? = some (some (.ref p))) (hv : H p = some (.lst vs)) (h0 : H0 p = none) (ra : RpAll K H0 vs ds) (rv : Rp K H0 v d) :
    Rs K (ρ.set i (.own (ds ++ [d]))) σ He0 He H0 (upd H p (.lst (vs ++ [v]))) := by
  have hp := r.n i ds p ho hs
  have self : ∀ j c, (ρ.set i (.own (ds ++ [d])))[j]? = some c → (j = i ∧ c = .own (ds ++ [d])) ∨ (j ≠ i ∧ ρ[j]? = some c) := by
    intro j c hc
    by_cases z : i = j
    · subst z
      have hl : i < ρ.length := by
        have := (List.getElem?_eq_some_iff.mp hc).1
        rwa [List.length_set] at this
      rw [List.getElem?_set_self hl] at hc
      exact Or.inl ⟨rfl, (Option.some.inj hc).symm⟩
    · rw [List.getElem?_set_ne z] at hc
      exact Or.inr ⟨fun q => z q.symm, hc⟩
  have xm := r.x.mut (o := .lst (vs ++ [v])) hp h0
  refine ⟨⟨xm.s, fun j e he => ?_, fun j es he => ?_, fun j l es fs q a1 a2 a3 a4 => ?_, by rw [List.length_set]; exact r.r.ln⟩, xm, fun j es q he hq => ?_⟩
  · rcases self j _ he with ⟨_, e2⟩ | ⟨z, e2⟩
    · cases e2
    · exact r.r.v j e e2
  · rcases self j _ he with ⟨rfl, e2⟩ | ⟨z, e2⟩
    · cases e2
      exact ⟨p, _, hs, upd_same, h0, ra.append (.cons rv .nil)⟩
    · obtain ⟨q, ys, a, b, c, e⟩ := r.r.o j es e2
      have hq : q ≠ p := fun e => by
        subst e
        exact z (r.r.a j i es ds q e2 ho a hs)
      exact ⟨q, ys, a, by rw [upd_ne hq]; exact b, c, e⟩
  · rcases self j _ a1 with ⟨rfl, e2⟩ | ⟨z, e2⟩
    · rcases self l _ a2 with ⟨rfl, _⟩ | ⟨z3, e3⟩
      · rfl
      · exact r.r.a _ _ _ _ q ho e3 a3 a4
    · rcases self l _ a2 with ⟨rfl, _⟩ | ⟨z3, e3⟩
      · exact r.r.a _ _ _ _ q e2 ho a3 a4
      · exact r.r.a j l _ _ q e2 e3 a3 a4
  · rcases self j _ he with ⟨rfl, e2⟩ | ⟨z, e2⟩
    · exact r.n _ ds q ho hq
    · exact r.n j es q e2 hq
end
/-- the wish behind a statement's end -/
def Post (K : PySem.W.Frag) (He0 He : Hp) (D : Ends) : Out → Prop
  | .nx ρ => ∀ σ H0 H, Rs K ρ σ He0 He H0 H → D.nx σ H
  | .bk ρ => ∀ σ H0 H, Rs K ρ σ He0 He H0 H → D.bk σ H
  | .ct ρ => ∀ σ H0 H, Rs K ρ σ He0 He H0 H → D.ct σ H
  | .rt d => ∀ x H0 H, Xt He0 He H0 H → Rp K H0 x d → D.rt x H
section
variable {T : Tab} {G : Sig} {k : Nat}
def SoS (T : Tab) (G : Sig) (k : Nat) (s : S) : Prop := ∀ (X : Cx) (st : Stmt), Gs T G k X → chkS G X.env.scope s st = true → ∀ ρ o, evS T s ρ = some o → ∀ σ He0 He H0 H, Rs X.K ρ σ He0 He H0 H → ∀ Dn : Ends, Post X.K He0 He Dn o → wS X st Dn σ H
def SoB (T : Tab) (G : Sig) (k : Nat) (s : S) : Prop := ∀ (X : Cx) (st : List Stmt), Gs T G k X → chkB G X.env.scope s st = true → ∀ ρ o, evS T s ρ = some o → ∀ σ He0 He H0 H, Rs X.K ρ σ He0 He H0 H → ∀ Dn : Ends, Post X.K He0 He Dn o → wSs X st Dn σ H
theorem soS_ret {e : E} : SoS T G k (.ret e) := by
  intro X st g hc ρ o he σ He0 He H0 H r Dn q
  cases st <;> first | (simp [chkS] at hc; done) | skip
  rename_i v pos
  cases v <;> first | (simp [chkS] at hc; done) | skip
  simp only [chkS] at hc
  simp only [evS, Option.map_eq_some_iff] at he
  obtain ⟨d, h1, rfl⟩ := he
  refine gS (ps_ret pE) ?_
  exact soE e X _ g.toGd hc ρ d h1 σ H0 H r.r _ fun x H' H0' x1 r1 => q x H0' H' (r.x.trans x1) r1
theorem soS_retN : SoS T G k .retN := by
  intro X st g hc ρ o he σ He0 He H0 H r Dn q
  cases st <;> first | (simp [chkS] at hc; done) | skip
  rename_i v pos
  cases v <;> first | (simp [chkS] at hc; done) | skip
  cases he
  exact gS ps_retN (q .non H0 H r.x .non)
theorem soS_pass : SoS T G k .pass := by
  intro X st g hc ρ o he σ He0 He H0 H r Dn q
  cases st <;> first | (simp [chkS] at hc; done) | skip
  cases he
  exact gS ps_pass (q σ H0 H r)
theorem soS_brk : SoS T G k .brk := by
  intro X st g hc ρ o he σ He0 He H0 H r Dn q
  cases st <;> first | (simp [chkS] at hc; done) | skip
  cases he
  exact gS ps_break (q σ H0 H r)
theorem soS_cont : SoS T G k .cont := by
  intro X st g hc ρ o he σ He0 He H0 H r Dn q
  cases st <;> first | (simp [chkS] at hc; done) | skip
  cases he
  exact gS ps_continue (q σ H0 H r)
theorem soS_ifs {c : E} {a b : S} (ha : SoB T G k a) (hb : SoB T G k b) : SoS T G k (.ifs c a b) := by
  intro X st g hc ρ o he σ He0 He H0 H r Dn q
  cases st <;> first | (simp [chkS] at hc; done) | skip
  simp only [chkS, Bool.and_eq_true] at hc
  refine gS (ps_if pT pSs pSs) ?_
  simp only [evS] at he
  split at he
  · rename_i h1
    refine soT c X _ g.toGd hc.1.1 ρ _ h1 σ H0 H r.r _ fun H' H0' x1 => ?_
    exact iteT (ha X _ g hc.1.2 ρ o he σ He0 He H0' H' (r.grow x1) Dn q)
  · rename_i h1
    refine soT c X _ g.toGd hc.1.1 ρ _ h1 σ H0 H r.r _ fun H' H0' x1 => ?_
    exact iteF (hb X _ g hc.2 ρ o he σ He0 He H0' H' (r.grow x1) Dn q)
  · cases he
theorem soS_wh {n : Nat} {c : E} {b : S} (hb : SoB T G k b) : SoS T G k (.wh n c b) := by
  intro X st g hc ρ o he σ He0 He H0 H r Dn q
  cases st <;> first | (simp [chkS] at hc; done) | skip
  case While t body els pos =>
  cases els with
  | cons => simp [chkS] at hc
  | nil =>
    simp only [chkS, Bool.and_eq_true] at hc
    refine gS (ps_while g.po pT pSs) ?_
    simp only [evS] at he
    refine ⟨fun m σ H => ∃ ρ H0, Rs X.K ρ σ He0 He H0 H ∧ whE (evE T c) (evS T b) m ρ = some o, ⟨n, ρ, H0, r, he⟩, ?_⟩
    rintro m σ1 H1 ⟨ρ1, H01, r1, h1⟩
    cases m with
    | zero => cases h1
    | succ m =>
      simp only [whE] at h1
      split at h1
      · rename_i hcT
        refine soT c X _ g.toGd hc.1 ρ1 _ hcT σ1 H01 H1 r1.r _ fun H2 H02 x2 => ?_
        refine iteT ⟨fun σ' H' => ∃ ρ' H0', Rs X.K ρ' σ' He0 He H0' H' ∧ whE (evE T c) (evS T b) m ρ' = some o, fun σ' H' ⟨ρ', H0', z1, z2⟩ => ⟨m, Nat.lt_succ_self m, ρ', H0', z1, z2⟩, ?_⟩
        split at h1
        · rename_i hbo
          exact hb X _ g hc.2 ρ1 _ hbo σ1 He0 He H02 H2 (r1.grow x2) _ fun σ' H0' H' z => ⟨_, _, z, h1⟩
        · rename_i hbo
          exact hb X _ g hc.2 ρ1 _ hbo σ1 He0 He H02 H2 (r1.grow x2) _ fun σ' H0' H' z => ⟨_, _, z, h1⟩
        · rename_i hbo
          cases h1
          exact hb X _ g hc.2 ρ1 _ hbo σ1 He0 He H02 H2 (r1.grow x2) _ fun σ' H0' H' z => q σ' H0' H' z
        · rename_i hbo
          cases h1
          exact hb X _ g hc.2 ρ1 _ hbo σ1 He0 He H02 H2 (r1.grow x2) _ fun x H0' H' z z2 => q x H0' H' z z2
        · cases h1
      · rename_i hcF
        cases h1
        refine soT c X _ g.toGd hc.1 ρ1 _ hcF σ1 H01 H1 r1.r _ fun H2 H02 x2 => ?_
        exact iteF (q σ1 H02 H2 (r1.grow x2))
      · cases h1
end
end Fx

namespace Fx
open PySem PySem.Spec PyProof.Rows L2
section
variable {T : Tab} {G : Sig} {k : Nat}
theorem pg_at {X : Cx} (g : Gs T G k X) {i : Nat} {x : Str} {p : Pos} (h : G.N[i]? = some x) (hl : isLoc X.env.scope x = true) : PG X (.Name x p) (gName i) :=
  pg_name (i := i) g.nd (by rw [g.nN]; exact h) (loc_of hl) (Or.inl (g.fnT x))
/-- the target of a for -/
theorem tgt_st {X : Cx} (g : Gs T G k X) {xs : List Nat} {tg : Expr} (hc : chkT1 G X.env.scope xs tg = true) :
    ∃ gt : TG, PG X tg gt ∧ ∀ {ρ ρ' : Rho} {d : D} {σ : L2.St} {He0 He H0 H : Hp} {v : V} {Q : L2.St → Hp → Prop}, setX ρ xs d = some ρ' → Rs X.K ρ σ He0 He H0 H → Rp X.K H0 v d →
        (∀ σ2, Rs X.K ρ' σ2 He0 He H0 H → Q σ2 H) → gt v σ H Q := by
  match xs, tg, hc with
  | [i], .Name x p, hc =>
    simp only [chkT1, Bool.and_eq_true, decide_eq_true_eq] at hc
    refine ⟨gName i, pg_at g hc.1 hc.2, ?_⟩
    intro ρ ρ' d σ He0 He H0 H v Q h1 r rv q
    simp only [setX, Option.some.injEq] at h1
    subst h1
    exact q _ (r.set i rv)
  | [i, j], .Tuple [.Name x px, .Name y py] kk pt, hc =>
    simp only [chkT1, Bool.and_eq_true, decide_eq_true_eq] at hc
    obtain ⟨⟨⟨h1, h2⟩, h3⟩, h4⟩ := hc
    refine ⟨gTup X.K 2 (gCons (gName i) (gCons (gName j) gNil)), pg_tup (g.calm g.cm) (pgs_cons (pg_at g h1 h2) (pgs_cons (pg_at g h3 h4) pgs_nil)), ?_⟩
    intro ρ ρ' d σ He0 He H0 H v Q e1 r rv q
    match d, e1 with
    | .tuple [dx, dy], e1 =>
      simp only [setX, Option.some.injEq] at e1
      subst e1
      cases rv with
      | tup h5 r5 =>
        obtain ⟨vx, vy, rfl, rx, ry⟩ := r5.two
        exact ⟨_, _, rfl, r.r.ex.sqt h5, rfl, vx, [vy], rfl, vy, [], rfl, rfl, q _ ((r.set i rx).set j ry)⟩
theorem soS_fr {xs : List Nat} {it : Wk} {b : S} (hb : SoB T G k b) : SoS T G k (.fr xs it b) := by
  intro X st g hc ρ o he σ He0 He H0 H r Dn q
  cases st <;> first | (simp [chkS] at hc; done) | skip
  case For tg iter body els pos =>
  cases els with
  | cons => simp [chkS] at hc
  | nil =>
    simp only [chkS, Bool.and_eq_true] at hc
    obtain ⟨⟨⟨h1, h2⟩, h3⟩, h4⟩ := hc
    obtain ⟨gt, pg, st⟩ := tgt_st g h1
    refine gS (ps_for g.po (g.calm g.cm) pI pg pSs (set0 h2)) ?_
    simp only [evS, Option.bind_eq_some_iff] at he
    obtain ⟨ds, h5, h6⟩ := he
    refine soI it X tg iter g.toGd h3 ρ ds h5 σ H0 H r.r _ fun J H1 H01 x1 wk => ?_
    have r1 := r.grow x1
    refine ⟨fun i m σ Hc => m = ds.length - i ∧ i ≤ ds.length ∧ ∃ ρ' H0', Rs X.K ρ' σ H01 He H0' Hc ∧ frE xs (evS T b) (ds.drop i) ρ' = some o, ⟨_, rfl, Nat.zero_le _, ρ, H01, r1.down, h6⟩, ?_⟩
    rintro i m σc Hc ⟨rfl, hil, ρc, H0c, rc, hf⟩
    have wki := wk H0c Hc rc.x.i rc.r.ex i
    by_cases hlt : i < ds.length
    · refine .inr ?_
      have hd : ds[i]? = some ds[i] := List.getElem?_eq_getElem hlt
      obtain ⟨go, yl⟩ := wki.1 _ hd
      rw [List.drop_eq_getElem_cons hlt] at hf
      simp only [frE, Option.bind_eq_some_iff] at hf
      obtain ⟨ρ1, h7, h8⟩ := hf
      refine ⟨go, fun σ' H' => ∃ ρ' H0', Rs X.K ρ' σ' H01 He H0' H' ∧ frE xs (evS T b) (ds.drop (i + 1)) ρ' = some o, fun σ' H' ⟨a, b, c, z⟩ => ⟨_, by omega, rfl, hlt, a, b, c, z⟩, fun x H'' hyl => ?_⟩
      obtain ⟨H0'', x2, rx⟩ := yl x H'' hyl
      refine st h7 (rc.grow x2) rx fun σ2 r2 => ?_
      split at h8
      · rename_i hbo
        exact hb X _ g h4 ρ1 _ hbo σ2 H01 He H0'' H'' r2 _ fun σ' H0' H' z => ⟨_, _, z, h8⟩
      · rename_i hbo
        exact hb X _ g h4 ρ1 _ hbo σ2 H01 He H0'' H'' r2 _ fun σ' H0' H' z => ⟨_, _, z, h8⟩
      · rename_i hbo
        cases h8
        exact hb X _ g h4 ρ1 _ hbo σ2 H01 He H0'' H'' r2 _ fun σ' H0' H' z => q σ' H0' H' (z.up r1.x)
      · rename_i hbo
        cases h8
        exact hb X _ g h4 ρ1 _ hbo σ2 H01 He H0'' H'' r2 _ fun x H0' H' z z2 => q x H0' H' (Xt.up r1.x z) z2
      · cases h8
    · refine .inl ⟨wki.2 (by omega), ?_⟩
      rw [List.drop_eq_nil_of_le (by omega)] at hf
      cases hf
      exact q σc H0c Hc (rc.up r1.x)
theorem aug_form {i : Nat} {o : O2} {e : E} {sc : Scope} {st : Stmt} (h : chkS G sc (.aug i o e) st = true) : ∃ x p op v pos, st = .AugAssign (.Name x p) op v pos ∧ G.N[i]? = some x ∧ isLoc sc x = true ∧ ((o = .add ∧ op = .Add) ∨ (o = .sub ∧ op = .Sub)) ∧ chk G e sc v = true := by
  cases st <;> first | (simp [chkS] at h; done) | skip
  case AugAssign t op v pos =>
    cases t <;> first | (simp [chkS] at h; done) | skip
    simp only [chkS, Bool.and_eq_true, Bool.or_eq_true, decide_eq_true_eq, beq_iff_eq] at h
    obtain ⟨⟨⟨h1, h2⟩, h3⟩, h4⟩ := h
    exact ⟨_, _, _, _, _, rfl, h1, h2, h3, h4⟩
theorem soS_aug {i : Nat} {o : O2} {e : E} : SoS T G k (.aug i o e) := by
  intro X st g hc ρ out he σ He0 He H0 H r Dn q
  obtain ⟨x, p, op, v, pos, rfl, h1, h2, h3, h4⟩ := aug_form hc
  simp only [evS] at he
  split at he
  · rename_i a b ha hb
    obtain ⟨y, sy, ry⟩ := r.r.v _ _ ha
    cases ry
    have go : ∀ (f : Int → Int → Int), out = .nx (ρ.set i (.v (.int (f a b)))) → tAug i (wE X v) (ipI f) Dn σ H := by
      intro f hz
      subst hz
      refine ⟨_, sy, ?_⟩
      refine soE e X _ g.toGd h4 ρ _ hb σ H0 H r.r _ fun z H1 H01 x1 r1 => ?_
      cases r1
      exact ⟨a, b, rfl, rfl, q _ H01 H1 ((r.grow x1).set i (.int _))⟩
    rcases h3 with ⟨rfl, rfl⟩ | ⟨rfl, rfl⟩
    · refine gS (ps_aug (i := i) g.nd (by rw [g.nN]; exact h1) (loc_of h2) pE ip_add (Or.inl (g.fnT x))) (go _ ?_)
      exact (Option.some.inj he).symm
    · refine gS (ps_aug (i := i) g.nd (by rw [g.nN]; exact h1) (loc_of h2) pE ip_sub (Or.inl (g.fnT x))) (go _ ?_)
      exact (Option.some.inj he).symm
  · cases he
theorem app_form {i : Nat} {e : E} {sc : Scope} {st : Stmt} (h : chkS G sc (.app i e) st = true) : ∃ x p ap v cp pos, st = .Expr (.Call (.Attribute (.Name x p) "append" ap) [v] [] cp) pos ∧ isVar G i sc x = true ∧ (ap.endLine == cp.line) = true ∧ chk G e sc v = true := by
  unfold chkS at h
  split at h <;> first | contradiction | skip
  · next heq =>
    cases heq
    simp only [Bool.and_eq_true, decide_eq_true_eq] at h
    obtain ⟨⟨⟨h1, rfl⟩, h3⟩, h4⟩ := h
    exact ⟨_, _, _, _, _, _, rfl, h1, h3, h4⟩
theorem soS_app {i : Nat} {e : E} : SoS T G k (.app i e) := by
  intro X st g hc ρ out he σ He0 He H0 H r Dn q
  obtain ⟨x, p, ap, v, cp, pos, rfl, h1, h2, h4⟩ := app_form hc
  simp only [isVar, Bool.and_eq_true, decide_eq_true_eq, Bool.not_eq_true'] at h1
  obtain ⟨⟨⟨h5, h6⟩, h7⟩, h8⟩ := h1
  simp only [evS] at he
  split at he
  · rename_i ds hd
    split at he <;> try cases he
    rename_i hl
    rw [Option.map_eq_some_iff] at he
    obtain ⟨d, h9, rfl⟩ := he
    obtain ⟨l, vs, sl, hv, h0, ra⟩ := r.r.o i ds hd
    have ns := chk_star h4
    refine gS (ps_expr (pe_bm PySem.F.plainAttrs_list PySem.F.slot_list_append PySem.F.type_list_append mt_append (pe_var (i := i) (by rw [g.nN]; exact h5) (vis_of h6) h7 h8) (pa_cons pE pa_nil (star1 ns)) rfl (by rw [star1 ns] <;> rfl) h2 (star1 ns) rfl)) ?_
    refine ⟨_, sl, Or.inl ⟨rfl, _, Or.inl (Or.inl hv)⟩, ?_⟩
    refine soE e X _ g.toGd h4 ρ _ h9 σ H0 H r.r _ fun z H1 H01 x1 r1 => ?_
    have hv1 : H1 l = some (.lst vs) := x1.o _ _ hv
    have h01 : H01 l = none := x1.keep_none hv h0
    refine ⟨l, vs, z, rfl, rfl, hv1, by rw [ra.len]; exact hl, ?_⟩
    exact q _ H01 _ ((r.grow x1).app hd sl hv1 h01 (ra.mono x1.i) r1)
  · cases he
theorem swaps_lc {e1 : Expr} {gs : List Comprehension} {scope : Scope} {vp px : Pos} {x : Str} {n : Nat} {env : PySem.Env} (h1 : (env.scope.kind == .function) = true) (h2 : env.scope.names.lookup x = some .local) (h3 : (px.line == vp.line) = true) (h4 : (!(scope.names.any fun p => p.1 == x && (p.2 == .local || p.2 == .cell))) = true) :
    swapsWith (.ListComp e1 gs scope vp) (some (.Name x px)) n env = pure true := by
  have hk : env.scope.kind = .function := by simpa using h1
  have b1 : (env.blockKind == .function) = true := by
    unfold Env.blockKind
    rw [hk]
    rfl
  have b2 : (env.kindOf x == some .local) = true := by
    unfold Env.kindOf
    rw [h2]
    rfl
  show (pure (env.blockKind == .function && env.kindOf x == some .local && px.line == vp.line && !(scope.names.any fun (n, k) => n == x && (k == .local || k == .cell))) : Sem Bool) = pure true
  rw [b1, b2, h3]
  have h5 : (!(scope.names.any fun (n, k) => n == x && (k == .local || k == .cell))) = true := h4
  rw [h5]
  rfl
theorem asg_end {X : Cx} {i : Nat} {e : E} {v : Expr} (g : Gs T G k X) (h2 : chk G e X.env.scope v = true) {ρ : Rho} {o : Out} (he : evS T (.asg i e) ρ = some o) {σ : L2.St} {He0 He H0 H : Hp} (r : Rs X.K ρ σ He0 He H0 H) {Dn : Ends} (q : Post X.K He0 He Dn o) : tAsg (wE X v) (gName i) Dn σ H := by
  simp only [evS] at he
  split at he
  · rename_i ds hd
    cases he
    by_cases hn : isNew e = true
    · refine soN e hn X v g.toGd h2 ρ _ hd σ H0 H r.r _ fun p vs H' H0' x1 a1 a2 a3 a4 => ?_
      rw [if_pos hn] at q
      exact q _ H0' H' (r.own i x1 a1 a2 a3 a4)
    · rw [if_neg hn] at q
      exact soE e X v g.toGd h2 ρ _ hd σ H0 H r.r _ fun x H' H0' x1 r1 => q _ H0' H' ((r.grow x1).set i r1)
  · rename_i d hnl hd
    cases he
    exact soE e X v g.toGd h2 ρ _ hd σ H0 H r.r _ fun x H' H0' x1 r1 => q _ H0' H' ((r.grow x1).set i r1)
  · cases he
theorem asg_form {i : Nat} {e : E} {sc : Scope} {st : Stmt} (h : chkS G sc (.asg i e) st = true) : ∃ x px v pos, st = .Assign [.Name x px] v pos ∧ G.N[i]? = some x ∧ chk G e sc v = true ∧
    ((∃ e1 gs scope vp, v = .ListComp e1 gs scope vp ∧ isC e = true ∧ isLocal sc x = true ∧ (sc.kind == .function) = true ∧ (px.line == vp.line) = true ∧ (!(scope.names.any fun p => p.1 == x && (p.2 == .local || p.2 == .cell))) = true) ∨ (notComp v = true ∧ isLoc sc x = true)) := by
  unfold chkS at h
  split at h <;> first | contradiction | skip
  next heq =>
    cases heq
    rw [Bool.and_eq_true, Bool.and_eq_true, decide_eq_true_eq] at h
    obtain ⟨⟨h1, h2⟩, h3⟩ := h
    refine ⟨_, _, _, _, rfl, h1, h2, ?_⟩
    split at h3
    · simp only [Bool.and_eq_true] at h3
      exact Or.inl ⟨_, _, _, _, rfl, h3.1.1.1.1, h3.1.1.1.2, h3.1.1.2, h3.1.2, h3.2⟩
    · simp only [Bool.and_eq_true] at h3
      exact Or.inr ⟨h3.1.2, h3.2⟩
theorem soS_asg {i : Nat} {e : E} : SoS T G k (.asg i e) := by
  intro X st g hc ρ o he σ He0 He H0 H r Dn q
  obtain ⟨x, px, v, pos, rfl, h1, h2, hh⟩ := asg_form hc
  rcases hh with ⟨e1, gs, scope, vp, rfl, h3, h4, h5, h6, h7⟩ | ⟨hv, hl⟩
  case inr => exact gS (ps_set (i := i) g.nd (by rw [g.nN]; exact h1) (loc_of hl) pE (sw0 hv) (Or.inl (g.fnT x))) (asg_end g h2 he r q)
  case inl =>
          have hsw : swapsWith (.ListComp e1 gs scope vp) (some (.Name x px)) pos.line X.env = pure true := swaps_lc h5 (local_of h4) h6 h7
          cases e <;> first | (simp [isC] at h3; done) | skip
          case comp elt xs it =>
            have hfm := comp_form h2
            obtain ⟨e1', tg', iter', scope', pos', hf, _⟩ := hfm
            cases hf
            simp only [evS] at he
            split at he
            · rename_i ds hd
              cases he
              have key : ∃ gt tt te, PI X tg' iter' (wI X tg' iter') ∧ BlkOk X.N X.env.scope scope (ownOf G xs) ∧
                  (∀ (s : Shared) (H : Hp) (C : Addr) (cl : List (Str × Addr)) (fp : List Addr), PG (X.blk s H scope (compEnvC scope cl C X.env) fp) tg' gt) ∧ (∀ (s : Shared) (H : Hp) (C : Addr) (cl : List (Str × Addr)) (fp : List Addr), PTs (X.blk s H scope (compEnvC scope cl C X.env) fp) [] tt) ∧
                  (∀ (s : Shared) (H : Hp) (C : Addr) (cl : List (Str × Addr)) (fp : List Addr), PE (X.blk s H scope (compEnvC scope cl C X.env) fp) e1 te) ∧ (∀ x, foldedSetIterable iter' X.env x = pure x) ∧ tLc (wI X tg' iter') gt tt te xs σ H (fun x H' => Dn.nx (σ.set i (some x)) H') :=
                comp_read (soE elt) (soI it) g.toGd h2 hd r.r (fun p vs H' H0' x1 a1 a2 a3 a4 => q _ H0' H' (r.own i x1 a1 a2 a3 a4)) _ _ _ _ _ _ rfl
              obtain ⟨gt, tt, te, p1, p2, p3, p4, p5, p6, p7⟩ := key
              refine gS (ps_setLc (i := i) (own := ownOf G xs) (g.calm g.cm) g.nd (by rw [g.nN]; exact h1) (local_of h4) hsw p1 p2 p3 p4 p5 p6) ?_
              rw [own_map]
              exact p7
            · rename_i d hnl hd
              obtain ⟨ds, rfl⟩ := comp_list _ _ hd
              exact absurd rfl (hnl ds)
            · cases he
          case compIf elt xs it cc =>
            have hfm := compIf_form h2
            obtain ⟨e1', tg', iter', cd', scope', pos', hf, _⟩ := hfm
            cases hf
            simp only [evS] at he
            split at he
            · rename_i ds hd
              cases he
              have key : ∃ gt tt te, PI X tg' iter' (wI X tg' iter') ∧ BlkOk X.N X.env.scope scope (ownOf G xs) ∧
                  (∀ (s : Shared) (H : Hp) (C : Addr) (cl : List (Str × Addr)) (fp : List Addr), PG (X.blk s H scope (compEnvC scope cl C X.env) fp) tg' gt) ∧ (∀ (s : Shared) (H : Hp) (C : Addr) (cl : List (Str × Addr)) (fp : List Addr), PTs (X.blk s H scope (compEnvC scope cl C X.env) fp) [cd'] tt) ∧
                  (∀ (s : Shared) (H : Hp) (C : Addr) (cl : List (Str × Addr)) (fp : List Addr), PE (X.blk s H scope (compEnvC scope cl C X.env) fp) e1 te) ∧ (∀ x, foldedSetIterable iter' X.env x = pure x) ∧ tLc (wI X tg' iter') gt tt te xs σ H (fun x H' => Dn.nx (σ.set i (some x)) H') :=
                compIf_read (soE elt) (soT cc) (soI it) g.toGd h2 hd r.r (fun p vs H' H0' x1 a1 a2 a3 a4 => q _ H0' H' (r.own i x1 a1 a2 a3 a4)) _ _ _ _ _ _ rfl
              obtain ⟨gt, tt, te, p1, p2, p3, p4, p5, p6, p7⟩ := key
              refine gS (ps_setLc (i := i) (own := ownOf G xs) (g.calm g.cm) g.nd (by rw [g.nN]; exact h1) (local_of h4) hsw p1 p2 p3 p4 p5 p6) ?_
              rw [own_map]
              exact p7
            · rename_i d hnl hd
              obtain ⟨ds, rfl⟩ := compIf_list _ _ hd
              exact absurd rfl (hnl ds)
            · cases he
/-- the targets a, b, .. = -/
theorem names_ok {X : Cx} (g : Gs T G k X) : ∀ {is : List Nat} {ts : List Expr}, namesOk G X.env.scope is ts = true →
    ∃ t : TGs, PGs X ts t ∧ (assignEach ts X.env).length = is.length ∧ (assignEach ts X.env).findIdx? (·.1) = none ∧ ∀ {ρ ρ' : Rho} {ds : List D} {vs : List V} {σ : L2.St} {He0 He H0 H : Hp} {Q : L2.St → Hp → Prop}, setXs ρ is ds = some ρ' → Rs X.K ρ σ He0 He H0 H → RpAll X.K H0 vs ds →
        (∀ σ2, Rs X.K ρ' σ2 He0 He H0 H → Q σ2 H) → t vs σ H Q
  | [], [], _ => ⟨gNil, pgs_nil, rfl, rfl, fun {ρ ρ' ds vs σ He0 He H0 H Q} h r ra q => by
    cases ds with
    | nil =>
      cases h
      cases ra
      exact ⟨rfl, q σ r⟩
    | cons => cases h⟩
  | [], _ :: _, h => by simp [namesOk] at h
  | _ :: _, [], h => by simp [namesOk] at h
  | i :: is, t :: ts, h => by
    cases t <;> first | (simp [namesOk] at h; done) | skip
    rename_i x p
    simp only [namesOk, Bool.and_eq_true, decide_eq_true_eq] at h
    obtain ⟨t2, p2, l2, f2, q2⟩ := names_ok g h.2
    have ea : assignEach (Expr.Name x p :: ts) X.env = (false, assign (.Name x p) X.env) :: assignEach ts X.env := rfl
    refine ⟨gCons (gName i) t2, pgs_cons (pg_at g h.1.1 h.1.2) p2, ?_, ?_, ?_⟩
    · rw [ea, List.length_cons, l2, List.length_cons]
    · rw [ea, List.findIdx?_cons, f2] <;> rfl
    · intro ρ ρ' ds vs σ He0 He H0 H Q hs r ra q
      cases ra with
      | nil => cases hs
      | cons r1 rr =>
        exact ⟨_, _, rfl, q2 hs (r.set i r1) rr q⟩
theorem setXs_len : ∀ {is : List Nat} {ρ ρ' : Rho} {ds : List D}, setXs ρ is ds = some ρ' → ds.length = is.length
  | [], _, _, [], _ => rfl
  | [], _, _, _ :: _, h => by cases h
  | _ :: _, _, _, [], h => by cases h
  | i :: is, ρ, ρ', d :: ds, h => congrArg (· + 1) (setXs_len (is := is) h)
theorem sws0 {t e : Expr} {n : Nat} {env : PySem.Env} (h : notComp e = true) : swapsWithSole [t] e n env = pure false := by
  cases e <;> first | rfl | (simp [notComp] at h)
theorem unp_form {is : List Nat} {e : E} {sc : Scope} {st : Stmt} (h : chkS G sc (.unp is e) st = true) : ∃ ts kk tp v pos, st = .Assign [.Tuple ts kk tp] v pos ∧ chk G e sc v = true ∧ namesOk G sc is ts = true ∧ notComp v = true ∧ notDisp v = true := by
  unfold chkS at h
  split at h <;> first | contradiction | skip
  · next heq =>
    cases heq
    simp only [Bool.and_eq_true] at h
    exact ⟨_, _, _, _, _, rfl, h.1.1.1, h.1.1.2, h.1.2, h.2⟩
theorem soS_unp {is : List Nat} {e : E} : SoS T G k (.unp is e) := by
  intro X st g hc ρ o he σ He0 He H0 H r Dn q
  obtain ⟨ts, kk, tp, v, pos, rfl, h1, h2, h3, h4⟩ := unp_form hc
  simp only [evS] at he
  split at he
  · rename_i ds hd
    rw [Option.map_eq_some_iff] at he
    obtain ⟨ρ', h5, rfl⟩ := he
    obtain ⟨t, p1, l1, f1, q1⟩ := names_ok g h2
    refine gS (ps_asg (pos := pos) pE (pg_tup (g.calm g.cm) p1 rfl f1) (sws0 h3) (stores0 h4) rfl) ?_
    refine soE e X _ g.toGd h1 ρ _ hd σ H0 H r.r _ fun x H' H0' x1 r1 => ?_
    cases r1 with
    | tup h6 r6 =>
      refine ⟨_, _, rfl, x1.s.sqt h6, ?_, q1 h5 (r.grow x1) r6 fun σ2 r2 => q σ2 H0' H' r2⟩
      rw [l1, r6.len, setXs_len h5]
  · cases he
theorem soS_nev : SoS T G k .nev := by
  intro X st g hc ρ o he
  cases he
theorem soS_no {s : S} (h : ∀ sc st, chkS G sc s st = false) : SoS T G k s := by
  intro X st g hc
  rw [h] at hc
  cases hc
theorem soB_no {s : S} (h : ∀ sc st, chkB G sc s st = false) : SoB T G k s := by
  intro X st g hc
  rw [h] at hc
  cases hc
theorem soB_pass : SoB T G k .pass := by
  intro X st g hc ρ o he σ He0 He H0 H r Dn q
  match st, hc with
  | [], hc =>
    cases he
    exact gSs pss_nil (q σ H0 H r)
  | _ :: _, hc => simp [chkB] at hc
theorem soB_fz0 {is : List Nat} : SoB T G k (.fz is) := by
  intro X st g hc ρ o he σ He0 He H0 H r Dn q
  match st, hc with
  | [], hc =>
    cases he
    obtain ⟨H0', e1, r1⟩ := r.fz is
    exact gSs pss_nil (q σ H0' H r1)
  | _ :: _, hc => simp [chkB] at hc
theorem soB_fz {is : List Nat} {b : S} (hb : SoB T G k b) : SoB T G k (.seq (.fz is) b) := by
  intro X st g hc ρ o he σ He0 He H0 H r Dn q
  simp only [chkB] at hc
  simp only [evS] at he
  obtain ⟨H0', e1, r1⟩ := r.fz is
  exact hb X st g hc _ o he σ He0 He H0' H r1 Dn q
theorem soB_seq {a b : S} (ha : SoS T G k a) (hb : SoB T G k b) (hn : ∀ is, a ≠ .fz is) : SoB T G k (.seq a b) := by
  intro X st g hc ρ o he σ He0 He H0 H r Dn q
  match st, hc with
  | [], hc => cases a <;> first | exact absurd rfl (hn _) | simp [chkB] at hc
  | s :: st, hc =>
    have hc' : chkS G X.env.scope a s = true ∧ chkB G X.env.scope b st = true := by
      cases a <;> first | exact absurd rfl (hn _) | (simp only [chkB, Bool.and_eq_true] at hc; exact hc)
    refine gSs (pss_cons pS pSs) ?_
    simp only [evS] at he
    split at he
    · rename_i ρ' h1
      refine ha X s g hc'.1 ρ _ h1 σ He0 He H0 H r _ fun σ' H0' H' r1 => ?_
      exact hb X st g hc'.2 ρ' o he σ' He0 He H0' H' r1 Dn q
    · rename_i h1
      refine ha X s g hc'.1 ρ _ he σ He0 He H0 H r _ ?_
      cases o with
      | nx ρ' => exact absurd he (h1 ρ')
      | rt d => exact q
      | bk ρ' => exact q
      | ct ρ' => exact q
end
end Fx

namespace Fx
open PySem PySem.Spec PyProof.Rows L2
theorem room65 {k : Nat} {A : Around} (r : Room k A) : A.units + 65 < cLine := by
  have := r.un
  omega
section
variable {T : Tab} {G : Sig} {k : Nat}
mutual
theorem soS : ∀ s : S, SoS T G k s
  | .asg i e => soS_asg
  | .unp is e => soS_unp
  | .par i j a b => soS_no fun sc st => by cases st <;> rfl
  | .aug i o e => soS_aug
  | .app i e => soS_app
  | .ifs c a b => soS_ifs (soB a) (soB b)
  | .wh n c b => soS_wh (soB b)
  | .fr xs it b => soS_fr (soB b)
  | .ret e => soS_ret
  | .retN => soS_retN
  | .pass => soS_pass
  | .brk => soS_brk
  | .cont => soS_cont
  | .fz is => soS_no fun sc st => by cases st <;> rfl
  | .nev => soS_nev
  | .seq a b => soS_no fun sc st => by cases st <;> rfl
theorem soB : ∀ s : S, SoB T G k s
  | .asg i e => soB_no fun sc st => by cases st <;> rfl
  | .unp is e => soB_no fun sc st => by cases st <;> rfl
  | .par i j a b => soB_no fun sc st => by cases st <;> rfl
  | .aug i o e => soB_no fun sc st => by cases st <;> rfl
  | .app i e => soB_no fun sc st => by cases st <;> rfl
  | .ifs c a b => soB_no fun sc st => by cases st <;> rfl
  | .wh n c b => soB_no fun sc st => by cases st <;> rfl
  | .fr xs it b => soB_no fun sc st => by cases st <;> rfl
  | .ret e => soB_no fun sc st => by cases st <;> rfl
  | .retN => soB_no fun sc st => by cases st <;> rfl
  | .brk => soB_no fun sc st => by cases st <;> rfl
  | .cont => soB_no fun sc st => by cases st <;> rfl
  | .nev => soB_no fun sc st => by cases st <;> rfl
  | .pass => soB_pass
  | .fz is => soB_fz0
  | .seq (.fz is) b => soB_fz (soB b)
  | .seq (.asg i e) b => soB_seq soS_asg (soB b) (by simp)
  | .seq (.unp is e) b => soB_seq soS_unp (soB b) (by simp)
  | .seq (.par i j x y) b => soB_seq (soS_no fun sc st => by cases st <;> rfl) (soB b) (by simp)
  | .seq (.aug i o e) b => soB_seq soS_aug (soB b) (by simp)
  | .seq (.app i e) b => soB_seq soS_app (soB b) (by simp)
  | .seq (.ifs c x y) b => soB_seq (soS_ifs (soB x) (soB y)) (soB b) (by simp)
  | .seq (.wh n c x) b => soB_seq (soS_wh (soB x)) (soB b) (by simp)
  | .seq (.fr xs it x) b => soB_seq (soS_fr (soB x)) (soB b) (by simp)
  | .seq (.ret e) b => soB_seq soS_ret (soB b) (by simp)
  | .seq .retN b => soB_seq soS_retN (soB b) (by simp)
  | .seq .pass b => soB_seq soS_pass (soB b) (by simp)
  | .seq .brk b => soB_seq soS_brk (soB b) (by simp)
  | .seq .cont b => soB_seq soS_cont (soB b) (by simp)
  | .seq .nev b => soB_seq soS_nev (soB b) (by simp)
  | .seq (.seq x y) b => soB_seq (soS_no fun sc st => by cases st <;> rfl) (soB b) (by simp)
end
end
/-! ### 14. a def -/
theorem run_len {T : Tab} {np nn : Nat} {b : S} {xs : List D} {d : D} (h : run T np nn b xs = some d) : xs.length = np := by
  unfold run at h
  split at h
  · assumption
  · cases h
theorem start_rl {K : PySem.W.Frag} {N : List Str} {vs : List V} {ds : List D} {H0 H : Hp} (e : Ex H0 H) (r : RpAll K H0 vs ds) : Rs K (ds.map Cel.v ++ List.replicate (N.length - ds.length) Cel.no) (L2.start N vs) H0 H H0 H := by
  have hl := r.len
  have noown : ∀ (i : Nat) (es : List D), (ds.map Cel.v ++ List.replicate (N.length - ds.length) Cel.no)[i]? ≠ some (.own es) := by
    intro i es h
    by_cases hi : i < ds.length
    · rw [List.getElem?_append_left (by simpa using hi), List.getElem?_map] at h
      cases q : ds[i]? with
      | none =>
        rw [q] at h
        cases h
      | some d =>
        rw [q] at h
        cases h
    · rw [List.getElem?_append_right (by simpa using hi), List.getElem?_replicate] at h
      split at h <;> cases h
  refine ⟨⟨e, fun i d h => ?_, fun i es h => absurd h (noown i es), fun i j es fs p h => absurd h (noown i es), ?_⟩, Xt.refl e, fun i es p h => absurd h (noown i es)⟩
  · by_cases hi : i < ds.length
    · rw [List.getElem?_append_left (by simpa using hi), List.getElem?_map] at h
      cases q : ds[i]? with
      | none =>
        rw [q] at h
        cases h
      | some d' =>
        rw [q] at h
        cases h
        obtain ⟨v, hv, rv⟩ := r.get i q
        refine ⟨v, ?_, rv⟩
        unfold L2.start
        rw [List.getElem?_append_left (by rw [List.length_map, hl]; exact hi), List.getElem?_map, hv]
        rfl
    · rw [List.getElem?_append_right (by simpa using hi), List.getElem?_replicate] at h
      split at h <;> cases h
  · unfold L2.start
    rw [List.length_append, List.length_append, List.length_map, List.length_map, List.length_replicate, List.length_replicate, hl]
/-- THE RULE for a plain def -/
theorem fn_ok {P : Program} {w : World} {K : PySem.W.Frag} {mg : Str → Option Value} {base : Heap} {x qual : Str} {st : Stmt} {f : Addr} {fd : FuncData} {N ps : List Str} {k : Nat} {T : Tab} {fns cns : List Str} {b : S}
    (F : L2.Fun K x qual st f fd) (Sc : FnScope N ps (defScope st)) (hc : chkB ⟨N, fns, cns, true⟩ (defScope st) b (defBody st) = true)
    (hf : ∀ (i : Nat) (x : Str) (m : List D → Option D), fns[i]? = some x → T.fs[i]? = some m → ∃ f fd ps, FnOk P w K mg base CX0 k f fd ps (spM K m) ∧ mg x = some (.ref f) ∧ PySem.W.keepIn K (.ref f) = true ∧ Binds K fd ps [])
    (hn : ∀ (i : Nat) (x : Str) (d : D), cns[i]? = some x → T.cs[i]? = some d → ∃ v u, mg x = some u ∧ RelV v u ∧ ∀ H, Rp K H v d)
    (hb : ∀ x ∈ bNames, mg x = none) : FnOk P w K mg base CX0 (k + 1) f fd ps (spM K (run T ps.length N.length b)) := by
  refine F.ok Sc (fun vs H Q E h => ?_) (fun cdv A outer s H vs Q E hr h => ?_)
  · obtain ⟨ds, d, H0, _, ra, hm, _⟩ := h
    rw [ra.len]
    exact run_len hm
  · obtain ⟨ds, d, H0, e, ra, hm, q⟩ := h
    have hl := run_len hm
    refine ⟨wSs _ (defBody st), pSs, ?_⟩
    have g : Gs T ⟨N, fns, cns, true⟩ k (cxOf CX0 P w K mg base N qual (defScope st) f cdv A outer s H E).nox :=
      { calm := fun _ => rfl, cm := rfl, room := fun _ => hr, un := room65 hr, nd := Sc.nd, nN := rfl, fn := hf, cn := hn, bt := hb, fnT := fun _ => rfl, po := PassesOwn.never }
    unfold run at hm
    rw [if_pos hl] at hm
    split at hm
    · rename_i d' ho
      cases hm
      exact soB b _ _ g hc _ _ ho _ H0 H H0 H (start_rl e ra) _ fun x H0' H' xt rx => q x H' H0' xt rx
    · rename_i ρ ho
      cases hm
      exact soB b _ _ g hc _ _ ho _ H0 H H0 H (start_rl e ra) _ fun σ' H0' H' r => q .non H' H0' r.x .non
    · cases hm
end Fx

namespace Fx
open PySem PySem.Spec PyProof.Rows L2
/-! ### 15. what the top has written -/
/-- a def of the top -/
def DefAt (K : PySem.W.Frag) (x : Str) (st : Stmt) : Prop := ∃ (f : Addr) (oc : Value) (od : Option Addr) (kV doc pm : Value) (an : Option Addr) (cdv ct : Value) (osl : Array (Option Value)),
  PySem.W.nsIn K mainGlobals x = some (some (.ref f)) ∧ K.lookup f = some ⟨oc, od, .func (PySem.W.fnOf x x (defArgs st) (defBody st) (defScope st) .none kV doc pm an cdv ct), osl⟩ ∧ PySem.W.codeIn K cdv x = true ∧ PySem.W.keepIn K (.ref f) = true
def IntAt (K : PySem.W.Frag) (x : Str) (i : Int) : Prop := ∃ t, PySem.W.nsIn K mainGlobals x = some (some (.int i t))
def TupAt (K : PySem.W.Frag) (x : Str) (xs : List V) : Prop := ∃ (a : Addr) (o : Obj) (its : Array Value) (n : Nat), PySem.W.nsIn K mainGlobals x = some (some (.ref a)) ∧ K.lookup a = some o ∧ o.cls = .type "tuple" ∧ o.data = .seq its n ∧ its.size ≤ sizeLine ∧ Vals xs its.toList
theorem def_at {K : PySem.W.Frag} {x : Str} {st : Stmt} {f : Addr} {oc : Value} {od : Option Addr} {kV doc pm : Value} {an : Option Addr} {cdv ct : Value} {osl : Array (Option Value)}
    (a : PySem.W.nsIn K mainGlobals x = some (some (.ref f))) (l : K.lookup f = some ⟨oc, od, .func (PySem.W.fnOf x x (defArgs st) (defBody st) (defScope st) .none kV doc pm an cdv ct), osl⟩) (c : PySem.W.codeIn K cdv x = true) (k : PySem.W.keepIn K (.ref f) = true) : DefAt K x st :=
  ⟨f, oc, od, kV, doc, pm, an, cdv, ct, osl, a, l, c, k⟩
theorem int_at {K : PySem.W.Frag} {x : Str} {i : Int} {t : Tok} (a : PySem.W.nsIn K mainGlobals x = some (some (.int i t))) : IntAt K x i := ⟨t, a⟩
theorem tup_at {K : PySem.W.Frag} {x : Str} {xs : List V} {a : Addr} {o : Obj} {its : Array Value} {n : Nat} (a1 : PySem.W.nsIn K mainGlobals x = some (some (.ref a))) (l : K.lookup a = some o) (h1 : o.cls = .type "tuple") (h2 : o.data = .seq its n) (h3 : its.size ≤ sizeLine) (h4 : Vals xs its.toList) : TupAt K x xs :=
  ⟨a, o, its, n, a1, l, h1, h2, h3, h4⟩
/-- a constant of the module -/
def CG (mg : Str → Option Value) (K : PySem.W.Frag) (x : Str) (d : D) : Prop := ∃ v u, mg x = some u ∧ RelV v u ∧ ∀ H, Rp K H v d
theorem cg_int {mg : Str → Option Value} {K : PySem.W.Frag} {h : Heap} (X : K.In h) (G : h.Ns mainGlobals mg) {x : Str} {i : Int} (a : IntAt K x i) : CG mg K x (.int i) := by
  obtain ⟨t, e⟩ := a
  exact ⟨.int i, .int i t, PySem.W.mg_of X G e, ⟨_, rfl⟩, fun H => .int i⟩
theorem cg_tup {mg : Str → Option Value} {K : PySem.W.Frag} {h : Heap} (X : K.In h) (G : h.Ns mainGlobals mg) {x : Str} {xs : List V} {ds : List D} (a : TupAt K x xs) (r : ∀ H, RpAll K H xs ds) : CG mg K x (.tuple ds) := by
  obtain ⟨a, o, its, n, e, h1, h2, h3, h4, h5⟩ := a
  exact ⟨.ref a, .ref a, PySem.W.mg_of X G e, rfl, fun H => .tup (Or.inr ⟨o, its, n, h1, h2, h3, h4, h5⟩) (r H)⟩
def FG (P : Program) (w : World) (K : PySem.W.Frag) (mg : Str → Option Value) (base : Heap) (k : Nat) (x : Str) (m : List D → Option D) : Prop :=
  ∃ f fd ps, FnOk P w K mg base CX0 k f fd ps (spM K m) ∧ mg x = some (.ref f) ∧ PySem.W.keepIn K (.ref f) = true ∧ Binds K fd ps []
section
variable {P : Program} {w : World} {K : PySem.W.Frag} {mg : Str → Option Value} {base : Heap} {j k : Nat} {x : Str} {m : List D → Option D}
theorem FG.mono (h : FG P w K mg base j x m) (l : j ≤ k) : FG P w K mg base k x m := by
  obtain ⟨f, fd, ps, F, a, b, c⟩ := h
  exact ⟨f, fd, ps, F.mono l, a, b, c⟩
abbrev FGs (P : Program) (w : World) (K : PySem.W.Frag) (mg : Str → Option Value) (base : Heap) (k : Nat) (fns : List Str) (fs : List (List D → Option D)) : Prop := ∀ (i : Nat) (x : Str) (m : List D → Option D), fns[i]? = some x → fs[i]? = some m → FG P w K mg base k x m
abbrev CGs (mg : Str → Option Value) (K : PySem.W.Frag) (cns : List Str) (cs : List D) : Prop := ∀ (i : Nat) (x : Str) (d : D), cns[i]? = some x → cs[i]? = some d → CG mg K x d
theorem fgs_nil : FGs P w K mg base k [] [] := fun i x m h => by simp at h
theorem fgs_cons {xs : List Str} {ms : List (List D → Option D)} (h : FG P w K mg base k x m) (t : FGs P w K mg base k xs ms) : FGs P w K mg base k (x :: xs) (m :: ms)
  | 0, _, _, h1, h2 => by
    cases h1
    cases h2
    exact h
  | i + 1, _, _, h1, h2 => t i _ _ h1 h2
theorem cgs_nil : CGs mg K [] [] := fun i x m h => by simp at h
theorem cgs_cons {xs : List Str} {d : D} {ds : List D} (h : CG mg K x d) (t : CGs mg K xs ds) : CGs mg K (x :: xs) (d :: ds)
  | 0, _, _, h1, h2 => by
    cases h1
    cases h2
    exact h
  | i + 1, _, _, h1, h2 => t i _ _ h1 h2
/-- a def of the top, by its small text -/
theorem fg_mk {h : Heap} (X : K.In h) (Gm : h.Ns mainGlobals mg) {st : Stmt} {N ps : List Str} {T : Tab} {fns cns : List Str} {b : S}
    (Da : DefAt K x st) (Sc : FnScope N ps (defScope st)) (hc : chkB ⟨N, fns, cns, true⟩ (defScope st) b (defBody st) = true)
    (bi : ∀ (kV doc pm : Value) (an : Option Addr) (cdv ct : Value) (us : List Value), us.length = ps.length → bindArgs (PySem.W.fnOf x x (defArgs st) (defBody st) (defScope st) .none kV doc pm an cdv ct) ⟨us, []⟩ = pure (ps.zip us))
    (hf : FGs P w K mg base k fns T.fs) (hn : CGs mg K cns T.cs) (hb : ∀ x ∈ bNames, mg x = none) : FG P w K mg base (k + 1) x (run T ps.length N.length b) := by
  obtain ⟨f, oc, od, kV, doc, pm, an, cdv, ct, osl, a1, l1, c1, k1⟩ := Da
  have F := fun_mk (st := st) l1 c1 k1
  exact ⟨f, _, ps, fn_ok F Sc hc hf hn hb, PySem.W.mg_of X Gm a1, F.kp, F.binds bi⟩
end
/-! ### 16. running by hand -/
theorem whE_t {c : Rho → Option D} {b : Rho → Option Out} {n : Nat} {ρ ρ' : Rho} (h1 : c ρ = some (.bool true)) (h2 : b ρ = some (.nx ρ')) : whE c b (n + 1) ρ = whE c b n ρ' := by
  show (match c ρ with | some (.bool true) => _ | some (.bool false) => _ | _ => _) = _
  rw [h1]
  show (match b ρ with | some (.nx ρ') => _ | some (.ct ρ') => _ | some (.bk ρ') => _ | some (.rt d) => _ | none => _) = _
  rw [h2]
theorem whE_r {c : Rho → Option D} {b : Rho → Option Out} {n : Nat} {ρ : Rho} {d : D} (h1 : c ρ = some (.bool true)) (h2 : b ρ = some (.rt d)) : whE c b (n + 1) ρ = some (.rt d) := by
  show (match c ρ with | some (.bool true) => _ | some (.bool false) => _ | _ => _) = _
  rw [h1]
  show (match b ρ with | some (.nx ρ') => _ | some (.ct ρ') => _ | some (.bk ρ') => _ | some (.rt d) => _ | none => _) = _
  rw [h2]
theorem whE_f {c : Rho → Option D} {b : Rho → Option Out} {n : Nat} {ρ : Rho} (h1 : c ρ = some (.bool false)) : whE c b (n + 1) ρ = some (.nx ρ) := by
  show (match c ρ with | some (.bool true) => _ | some (.bool false) => _ | _ => _) = _
  rw [h1]
theorem atI_lit {α : Type} (xs : List α) (n : Nat) : atI xs (OfNat.ofNat n : Int) = xs[n]? := by
  show atI xs ((n : Nat) : Int) = xs[n]?
  unfold atI ixN
  rw [if_pos (Int.natCast_nonneg n)]
  by_cases h : n < xs.length
  · rw [if_pos (by omega)]
    rfl
  · rw [if_neg (by omega), List.getElem?_eq_none (by omega)]
    rfl
theorem atI_0 {α : Type} (xs : List α) : atI xs (0 : Int) = xs[0]? := atI_lit xs 0
theorem atI_1 {α : Type} (xs : List α) : atI xs (1 : Int) = xs[1]? := atI_lit xs 1
theorem atI_2 {α : Type} (xs : List α) : atI xs (2 : Int) = xs[2]? := atI_lit xs 2
theorem atI_3 {α : Type} (xs : List α) : atI xs (3 : Int) = xs[3]? := atI_lit xs 3
theorem atI_4 {α : Type} (xs : List α) : atI xs (4 : Int) = xs[4]? := atI_lit xs 4
theorem atI_5 {α : Type} (xs : List α) : atI xs (5 : Int) = xs[5]? := atI_lit xs 5
/-! ### 17. the law -/
def spLaw (K : PySem.W.Frag) : Sp := fun vs H Q _ => ∃ (a : Addr) (ns : List Int), vs = [.ref a] ∧ SqL K H a (ns.map V.int) ∧ ns.length ≤ 63 ∧ ∀ H', Q (.bl true) H'
theorem law_imp {K : PySem.W.Frag} {m : List D → Option D} (hm : ∀ ns : List Int, ns.length ≤ 63 → m [scr ns] = some (.bool true)) : ∀ vs H Q E, spLaw K vs H Q E → spM K m vs H Q E := by
  rintro vs H Q E ⟨a, ns, rfl, hS, hl, q⟩
  refine ⟨[scr ns], .bool true, H, Ex.refl H, .cons (.scr hS) .nil, hm ns hl, fun x H' H0' x1 r => ?_⟩
  cases r
  exact q H'
end Fx

namespace Fx
open PySem PySem.Spec PyProof.Rows L2
/-! ### 18. a body, statement by statement -/
theorem st_nx {T : Tab} {a b : S} {ρ ρ' : Rho} (h : evS T a ρ = some (.nx ρ')) : evS T (.seq a b) ρ = evS T b ρ' := by
  show (match evS T a ρ with | some (.nx ρ') => evS T b ρ' | o => o) = _
  rw [h]
theorem st_rt {T : Tab} {a b : S} {ρ : Rho} {d : D} (h : evS T a ρ = some (.rt d)) : evS T (.seq a b) ρ = some (.rt d) := by
  show (match evS T a ρ with | some (.nx ρ') => evS T b ρ' | o => o) = _
  rw [h]
theorem run_of {T : Tab} {np nn : Nat} {b : S} {xs : List D} {d : D} (hl : xs.length = np) (h : evS T b (xs.map Cel.v ++ List.replicate (nn - xs.length) Cel.no) = some (.rt d)) : run T np nn b xs = some d := by
  unfold run
  rw [if_pos hl, h]
theorem fr_nx {T : Tab} {xs : List Nat} {it : Wk} {b : S} {ρ : Rho} {ds : List D} (h : evI T it ρ = some ds) : evS T (.fr xs it b) ρ = frE xs (evS T b) ds ρ := by
  show ((evI T it ρ).bind fun ds => frE xs (evS T b) ds ρ) = _
  rw [h]
  rfl
theorem frE_cons {xs : List Nat} {b : Rho → Option Out} {d : D} {ds : List D} {ρ ρ1 ρ2 : Rho} (h1 : setX ρ xs d = some ρ1) (h2 : b ρ1 = some (.nx ρ2)) : frE xs b (d :: ds) ρ = frE xs b ds ρ2 := by
  show ((setX ρ xs d).bind fun ρ1 => match b ρ1 with | some (.nx ρ') => _ | some (.ct ρ') => _ | some (.bk ρ') => _ | some (.rt d) => _ | none => _) = _
  rw [h1]
  show (match b ρ1 with | some (.nx ρ') => _ | some (.ct ρ') => _ | some (.bk ρ') => _ | some (.rt d) => _ | none => _) = _
  rw [h2]
theorem frE_rt {xs : List Nat} {b : Rho → Option Out} {d : D} {ds : List D} {ρ ρ1 : Rho} {r : D} (h1 : setX ρ xs d = some ρ1) (h2 : b ρ1 = some (.rt r)) : frE xs b (d :: ds) ρ = some (.rt r) := by
  show ((setX ρ xs d).bind fun ρ1 => match b ρ1 with | some (.nx ρ') => _ | some (.ct ρ') => _ | some (.bk ρ') => _ | some (.rt d) => _ | none => _) = _
  rw [h1]
  show (match b ρ1 with | some (.nx ρ') => _ | some (.ct ρ') => _ | some (.bk ρ') => _ | some (.rt d) => _ | none => _) = _
  rw [h2]
/-! ### 19. lists of ints -/
theorem lay_ints : ∀ L : List Int, PyData.canLayAll0 (L.map PyData.int) = true
  | [] => rfl
  | _ :: L => lay_ints L
theorem dep_ints : ∀ L : List Int, PyData.depthAll (L.map PyData.int) = 0
  | [] => rfl
  | z :: L => by
    show max 0 (PyData.depthAll (L.map PyData.int)) = 0
    rw [dep_ints L] <;> rfl
theorem shaped_lints (L : List Int) : SeqAt.shaped (.list (L.map PyData.int)) = true := by
  unfold SeqAt.shaped
  have h1 : PyData.canLay0 (.list (L.map PyData.int)) = true := by
    unfold PyData.canLay0
    exact lay_ints L
  have h2 : PyData.depth (.list (L.map PyData.int)) = 1 := by
    unfold PyData.depth
    rw [dep_ints]
  rw [h1, h2] <;> rfl
theorem shaped_lnil : SeqAt.shaped (.list []) = true := shaped_lints []
theorem shaped_tints (L : List Int) : SeqAt.shaped (.tuple (L.map PyData.int)) = true := by
  unfold SeqAt.shaped
  have h1 : PyData.canLay0 (.tuple (L.map PyData.int)) = true := by
    unfold PyData.canLay0
    exact lay_ints L
  have h2 : PyData.depth (.tuple (L.map PyData.int)) = 1 := by
    unfold PyData.depth
    rw [dep_ints]
  rw [h1, h2] <;> rfl
theorem eqv_lints : ∀ L M : List Int, PyData.eqvAll (L.map PyData.int) (M.map PyData.int) = decide (L = M)
  | [], [] => by simp [PyData.eqvAll]
  | [], _ :: _ => by simp [PyData.eqvAll]
  | _ :: _, [] => by simp [PyData.eqvAll]
  | a :: L, b :: M => by
    simp only [List.map_cons, PyData.eqvAll, PyData.eqv, eqv_lints L M, List.cons.injEq, Bool.decide_and]
    rfl
theorem eq_lints (L M : List Int) : eqD (.list (L.map PyData.int)) (.list (M.map PyData.int)) = some (decide (L = M)) := by
  show (if SeqAt.shaped (.list (L.map PyData.int)) && SeqAt.shaped (.list (M.map PyData.int)) then some (PyData.eqv (.list (L.map PyData.int)) (.list (M.map PyData.int))) else none) = _
  rw [shaped_lints, shaped_lints]
  have e : PyData.eqv (.list (L.map PyData.int)) (.list (M.map PyData.int)) = decide (L = M) := by
    rw [PyData.eqv]
    exact eqv_lints L M
  rw [e] <;> rfl
theorem eq_lnil (L : List Int) : eqD (.list (L.map PyData.int)) (.list []) = some (decide (L = [])) := eq_lints L []
theorem ne_lnil (L : List Int) : o2 .ne (.list (L.map PyData.int)) (.list []) = some (.bool (!decide (L = []))) := by
  show (eqD (.list (L.map PyData.int)) (.list [])).map (fun b => PyData.bool (!b)) = _
  rw [eq_lnil] <;> rfl
end Fx

namespace k08
open PySem PySem.Spec PyProof.Rows L2 Fx
def ir_is_long : S :=
  (.seq (.ret (.op .eq (.op .mod (.var 0) (.lit (.int 4))) (.lit (.int 0))))
  .pass)
def tb_is_long : Tab := ⟨[], []⟩
def m_is_long : List D → Option D := run tb_is_long 1 1 ir_is_long
def ir_year_length : S :=
  (.seq (.ifs (.call 0 (.cons (.var 0) .nil))
  (.seq (.ret (.op .add (.con 0) (.lit (.int 1))))
  .pass)
  .pass)
  (.seq (.ret (.con 0))
  .pass))
def tb_year_length : Tab := ⟨[m_is_long], [(.int 365)]⟩
def m_year_length : List D → Option D := run tb_year_length 1 1 ir_year_length
def ir_month_length : S :=
  (.seq (.ifs (.and (.op .eq (.var 1) (.lit (.int 2))) (.call 0 (.cons (.var 0) .nil)))
  (.seq (.ret (.op .add (.ix (.con 0) (.op .sub (.var 1) (.lit (.int 1)))) (.lit (.int 1))))
  .pass)
  .pass)
  (.seq (.ret (.ix (.con 0) (.op .sub (.var 1) (.lit (.int 1)))))
  .pass))
def tb_month_length : Tab := ⟨[m_is_long], [(.tuple [(.int 31), (.int 28), (.int 31), (.int 30), (.int 31), (.int 30), (.int 31), (.int 31), (.int 30), (.int 31), (.int 30), (.int 31)])]⟩
def m_month_length : List D → Option D := run tb_month_length 2 2 ir_month_length
def c_date_of_w2 : E := (.op .ge (.var 2) (.call 0 (.cons (.var 3) (.cons (.var 4) .nil))))
def b_date_of_w2 : S :=
  (.seq (.asg 2 (.op .sub (.var 2) (.call 0 (.cons (.var 3) (.cons (.var 4) .nil)))))
  (.seq (.asg 4 (.op .add (.var 4) (.lit (.int 1))))
  .pass))
def c_date_of_w1 : E := (.op .ge (.var 2) (.call 1 (.cons (.var 3) .nil)))
def b_date_of_w1 : S :=
  (.seq (.asg 2 (.op .sub (.var 2) (.call 1 (.cons (.var 3) .nil))))
  (.seq (.asg 3 (.op .add (.var 3) (.lit (.int 1))))
  .pass))
def ir_date_of : S :=
  (.seq (.unp [1, 2] (.bc .divmod (.cons (.var 0) (.cons (.con 0) .nil))))
  (.seq (.asg 3 (.op .mul (.lit (.int 4)) (.var 1)))
  (.seq (.wh 200 c_date_of_w1 b_date_of_w1)
  (.seq (.asg 4 (.lit (.int 1)))
  (.seq (.wh 200 c_date_of_w2 b_date_of_w2)
  (.seq (.ret (.tup (.cons (.var 3) (.cons (.var 4) (.cons (.op .add (.var 2) (.lit (.int 1))) .nil)))))
  .pass))))))
def tb_date_of : Tab := ⟨[m_month_length, m_year_length], [(.int 1461)]⟩
def m_date_of : List D → Option D := run tb_date_of 1 5 ir_date_of
def ir_from_end : S :=
  (.seq (.unp [1, 2, 3] (.call 1 (.cons (.var 0) .nil)))
  (.seq (.ret (.op .sub (.op .sub (.var 3) (.call 0 (.cons (.var 1) (.cons (.var 2) .nil)))) (.lit (.int 1))))
  .pass))
def tb_from_end : Tab := ⟨[m_month_length, m_date_of], []⟩
def m_from_end : List D → Option D := run tb_from_end 1 4 ir_from_end
def ir_comes_again : S :=
  (.seq (.ifs (.op .eq (.var 2) (.var 0))
  (.seq (.ret (.lit (.bool true)))
  .pass)
  .pass)
  (.seq (.ret (.and (.op .gt (.var 2) (.var 0)) (.and (.op .gt (.var 1) (.lit (.int 0))) (.op .eq (.op .mod (.op .sub (.var 2) (.var 0)) (.var 1)) (.lit (.int 0))))))
  .pass))
def tb_comes_again : Tab := ⟨[], []⟩
def m_comes_again : List D → Option D := run tb_comes_again 3 3 ir_comes_again
def ir_is_day_of_month : S :=
  (.seq (.ifs (.op .lt (.var 0) (.lit (.int 0)))
  (.seq (.ret (.op .eq (.call 1 (.cons (.var 1) .nil)) (.var 0)))
  .pass)
  .pass)
  (.seq (.ret (.op .eq (.ix (.call 0 (.cons (.var 1) .nil)) (.lit (.int 2))) (.var 0)))
  .pass))
def tb_is_day_of_month : Tab := ⟨[m_date_of, m_from_end], []⟩
def m_is_day_of_month : List D → Option D := run tb_is_day_of_month 2 2 ir_is_day_of_month
def ir_begins_plain : S :=
  (.seq (.asg 2 (.ix (.var 0) (.lit (.int 0))))
  (.seq (.ifs (.op .eq (.var 2) (.lit (.str "once")))
  (.seq (.ret (.op .eq (.var 1) (.ix (.var 0) (.lit (.int 1)))))
  .pass)
  .pass)
  (.seq (.ifs (.op .eq (.var 2) (.lit (.str "every")))
  (.seq (.ret (.call 1 (.cons (.ix (.var 0) (.lit (.int 1))) (.cons (.ix (.var 0) (.lit (.int 3))) (.cons (.var 1) .nil)))))
  .pass)
  .pass)
  (.seq (.ifs (.op .ne (.op .mod (.var 1) (.con 1)) (.ix (.var 0) (.lit (.int 2))))
  (.seq (.ret (.lit (.bool false)))
  .pass)
  .pass)
  (.seq (.asg 3 (.op .fdiv (.var 1) (.con 1)))
  (.seq (.ifs (.op .eq (.var 2) (.lit (.str "week")))
  (.seq (.ret (.op .isin (.op .mod (.var 3) (.con 0)) (.ix (.var 0) (.lit (.int 1)))))
  .pass)
  .pass)
  (.seq (.ret (.call 0 (.cons (.ix (.var 0) (.lit (.int 1))) (.cons (.var 3) .nil))))
  .pass)))))))
def tb_begins_plain : Tab := ⟨[m_is_day_of_month, m_comes_again], [(.int 7), (.int 24)]⟩
def m_begins_plain : List D → Option D := run tb_begins_plain 2 4 ir_begins_plain
def ir_is_cut : S :=
  (.seq (.asg 2 (.ix (.var 0) (.lit (.int 0))))
  (.seq (.ifs (.op .eq (.var 2) (.lit (.str "from")))
  (.seq (.ret (.op .lt (.var 1) (.ix (.var 0) (.lit (.int 1)))))
  .pass)
  .pass)
  (.seq (.ifs (.op .eq (.var 2) (.lit (.str "until")))
  (.seq (.ret (.op .ge (.var 1) (.ix (.var 0) (.lit (.int 1)))))
  .pass)
  .pass)
  (.seq (.ret (.and (.op .eq (.var 2) (.lit (.str "but"))) (.op .isin (.op .fdiv (.var 1) (.con 0)) (.ix (.var 0) (.lit (.int 1))))))
  .pass))))
def tb_is_cut : Tab := ⟨[], [(.int 24)]⟩
def m_is_cut : List D → Option D := run tb_is_cut 2 3 ir_is_cut
def c_begins_w1 : E := (.op .isin (.ix (.var 2) (.lit (.int 0))) (.con 0))
def b_begins_w1 : S :=
  (.seq (.ifs (.call 1 (.cons (.var 2) (.cons (.var 1) .nil)))
  (.seq (.ret (.lit (.bool false)))
  .pass)
  .pass)
  (.seq (.ifs (.and (.op .eq (.ix (.var 2) (.lit (.int 0))) (.lit (.str "also"))) (.op .eq (.var 1) (.ix (.var 2) (.lit (.int 1)))))
  (.seq (.ret (.lit (.bool true)))
  .pass)
  .pass)
  (.seq (.asg 2 (.ix (.var 2) (.lit (.int 2))))
  .pass)))
def ir_begins : S :=
  (.seq (.ifs (.op .lt (.var 1) (.lit (.int 0)))
  (.seq (.ret (.lit (.bool false)))
  .pass)
  .pass)
  (.seq (.asg 2 (.var 0))
  (.seq (.wh 200 c_begins_w1 b_begins_w1)
  (.seq (.ret (.call 0 (.cons (.var 2) (.cons (.var 1) .nil))))
  .pass))))
def tb_begins : Tab := ⟨[m_begins_plain, m_is_cut], [(.tuple [(.str "from"), (.str "until"), (.str "also"), (.str "but")])]⟩
def m_begins : List D → Option D := run tb_begins 2 3 ir_begins
def c_round_of_w1 : E := (.op .isin (.ix (.var 1) (.lit (.int 0))) (.con 3))
def b_round_of_w1 : S :=
  (.seq (.asg 1 (.ix (.var 1) (.lit (.int 2))))
  .pass)
def ir_round_of : S :=
  (.seq (.asg 1 (.var 0))
  (.seq (.wh 200 c_round_of_w1 b_round_of_w1)
  (.seq (.ifs (.op .eq (.ix (.var 1) (.lit (.int 0))) (.lit (.str "once")))
  (.seq (.ret (.con 2))
  .pass)
  .pass)
  (.seq (.ifs (.op .eq (.ix (.var 1) (.lit (.int 0))) (.lit (.str "every")))
  (.seq (.ret (.ix (.var 1) (.lit (.int 3))))
  .pass)
  .pass)
  (.seq (.ifs (.op .eq (.ix (.var 1) (.lit (.int 0))) (.lit (.str "week")))
  (.seq (.ret (.con 1))
  .pass)
  .pass)
  (.seq (.ret (.con 0))
  .pass))))))
def tb_round_of : Tab := ⟨[], [(.int 35064), (.int 168), (.int 1), (.tuple [(.str "from"), (.str "until"), (.str "also"), (.str "but")])]⟩
def m_round_of : List D → Option D := run tb_round_of 1 2 ir_round_of
def ir_settled_plain : S :=
  (.seq (.ifs (.op .eq (.ix (.var 0) (.lit (.int 0))) (.lit (.str "once")))
  (.seq (.ret (.op .add (.ix (.var 0) (.lit (.int 1))) (.lit (.int 1))))
  .pass)
  .pass)
  (.seq (.ifs (.op .eq (.ix (.var 0) (.lit (.int 0))) (.lit (.str "every")))
  (.seq (.ret (.ix (.var 0) (.lit (.int 1))))
  .pass)
  .pass)
  (.seq (.ret (.lit (.int 0)))
  .pass)))
def tb_settled_plain : Tab := ⟨[], []⟩
def m_settled_plain : List D → Option D := run tb_settled_plain 1 1 ir_settled_plain
def ir_settled_around : S :=
  (.seq (.ifs (.op .eq (.ix (.var 0) (.lit (.int 0))) (.lit (.str "also")))
  (.seq (.ret (.op .add (.ix (.var 0) (.lit (.int 1))) (.lit (.int 1))))
  .pass)
  .pass)
  (.seq (.ifs (.op .eq (.ix (.var 0) (.lit (.int 0))) (.lit (.str "but")))
  (.seq (.ret (.op .mulr (.op .add (.x2 .mxd (.ix (.var 0) (.lit (.int 1))) (.neg (.lit (.int 1)))) (.lit (.int 1))) (.con 0)))
  .pass)
  .pass)
  (.seq (.ret (.ix (.var 0) (.lit (.int 1))))
  .pass)))
def tb_settled_around : Tab := ⟨[], [(.int 24)]⟩
def m_settled_around : List D → Option D := run tb_settled_around 1 1 ir_settled_around
def c_settled_w1 : E := (.op .isin (.ix (.var 2) (.lit (.int 0))) (.con 0))
def b_settled_w1 : S :=
  (.seq (.app 1 (.call 1 (.cons (.var 2) .nil)))
  (.seq (.asg 2 (.ix (.var 2) (.lit (.int 2))))
  .pass))
def ir_settled : S :=
  (.seq (.asg 1 (.lst .nil))
  (.seq (.asg 2 (.var 0))
  (.seq (.wh 200 c_settled_w1 b_settled_w1)
  (.seq (.fz [1]) (.seq (.ret (.bc .max (.cons (.spl false (.var 1) (.cons (.call 0 (.cons (.var 2) .nil)) .nil)) .nil)))
  .pass)))))
def tb_settled : Tab := ⟨[m_settled_plain, m_settled_around], [(.tuple [(.str "from"), (.str "until"), (.str "also"), (.str "but")])]⟩
def m_settled : List D → Option D := run tb_settled 1 3 ir_settled
def ir_law_cell_at : S :=
  (.seq (.ifs (.op .lt (.var 1) (.bc .len (.cons (.var 0) .nil)))
  (.seq (.ret (.ix (.var 0) (.var 1)))
  .pass)
  .pass)
  (.seq (.ret (.lit (.int 0)))
  .pass))
def tb_law_cell_at : Tab := ⟨[], []⟩
def m_law_cell_at : List D → Option D := run tb_law_cell_at 2 2 ir_law_cell_at
def ir_law_whole : S :=
  (.seq (.ret (.and (.isi (.var 0) .int) (.not (.isi (.var 0) .bool))))
  .pass)
def tb_law_whole : Tab := ⟨[], []⟩
def m_law_whole : List D → Option D := run tb_law_whole 1 1 ir_law_whole
def i_law_weekdays_w1 : Wk := (.rng (.cons (.lit (.int 7)) .nil))
def b_law_weekdays_w1 : S :=
  (.seq (.ifs (.op .eq (.op .mod (.var 0) (.lit (.int 2))) (.lit (.int 1)))
  (.seq (.app 1 (.var 2))
  .pass)
  .pass)
  (.seq (.asg 0 (.op .fdiv (.var 0) (.lit (.int 2))))
  .pass))
def ir_law_weekdays : S :=
  (.seq (.asg 1 (.lst .nil))
  (.seq (.fr [2] i_law_weekdays_w1 b_law_weekdays_w1)
  (.seq (.fz [1]) (.seq (.ret (.bc .tuple (.cons (.var 1) .nil)))
  .pass))))
def tb_law_weekdays : Tab := ⟨[], []⟩
def m_law_weekdays : List D → Option D := run tb_law_weekdays 1 3 ir_law_weekdays
def ir_law_plain_by : S :=
  (.seq (.asg 3 (.op .mod (.ix (.var 0) (.lit (.int 0))) (.lit (.int 4))))
  (.seq (.asg 4 (.op .add (.lit (.int 1)) (.op .mod (.op .fdiv (.ix (.var 0) (.lit (.int 0))) (.lit (.int 4))) (.var 2))))
  (.seq (.asg 5 (.op .add (.var 1) (.op .mod (.ix (.var 0) (.lit (.int 1))) (.lit (.int 60)))))
  (.seq (.ifs (.op .eq (.var 3) (.lit (.int 0)))
  (.seq (.ret (.tup (.cons (.lit (.str "once")) (.cons (.var 5) (.cons (.var 4) .nil)))))
  .pass)
  .pass)
  (.seq (.ifs (.op .eq (.var 3) (.lit (.int 1)))
  (.seq (.ret (.tup (.cons (.lit (.str "every")) (.cons (.var 5) (.cons (.var 4) (.cons (.op .add (.lit (.int 1)) (.op .mod (.ix (.var 0) (.lit (.int 2))) (.lit (.int 30)))) .nil))))))
  .pass)
  .pass)
  (.seq (.ifs (.op .eq (.var 3) (.lit (.int 2)))
  (.seq (.ret (.tup (.cons (.lit (.str "week")) (.cons (.call 0 (.cons (.op .add (.lit (.int 1)) (.op .mod (.ix (.var 0) (.lit (.int 2))) (.lit (.int 127)))) .nil)) (.cons (.op .mod (.ix (.var 0) (.lit (.int 1))) (.lit (.int 24))) (.cons (.var 4) .nil))))))
  .pass)
  .pass)
  (.seq (.asg 6 (.op .sub (.op .mod (.ix (.var 0) (.lit (.int 2))) (.lit (.int 62))) (.lit (.int 31))))
  (.seq (.ifs (.op .eq (.op .mod (.op .fdiv (.ix (.var 0) (.lit (.int 2))) (.lit (.int 62))) (.lit (.int 2))) (.lit (.int 1)))
  (.seq (.asg 6 (.ix (.lst (.cons (.neg (.lit (.int 1))) (.cons (.lit (.int 0)) (.cons (.lit (.int 30)) (.cons (.lit (.int 29)) (.cons (.lit (.int 28)) (.cons (.neg (.lit (.int 31))) (.cons (.neg (.lit (.int 30))) (.cons (.neg (.lit (.int 29))) (.cons (.neg (.lit (.int 28))) (.cons (.lit (.int 27)) .nil))))))))))) (.op .mod (.op .fdiv (.ix (.var 0) (.lit (.int 2))) (.lit (.int 124))) (.lit (.int 10)))))
  .pass)
  .pass)
  (.seq (.ret (.tup (.cons (.lit (.str "month")) (.cons (.op .add (.var 6) (.bc .int (.cons (.op .ge (.var 6) (.lit (.int 0))) .nil))) (.cons (.op .mod (.ix (.var 0) (.lit (.int 1))) (.lit (.int 24))) (.cons (.var 4) .nil))))))
  .pass)))))))))
def tb_law_plain_by : Tab := ⟨[m_law_weekdays], []⟩
def m_law_plain_by : List D → Option D := run tb_law_plain_by 3 7 ir_law_plain_by
def ir_law_bearing : S :=
  (.seq (.ret (.lst (.cons (.lit (.str "from")) (.cons (.lit (.str "until")) (.cons (.lit (.str "also")) (.cons (.lit (.str "but")) .nil))))))
  .pass)
def tb_law_bearing : Tab := ⟨[], []⟩
def m_law_bearing : List D → Option D := run tb_law_bearing 0 0 ir_law_bearing
def c_law_heads_w1 : E := (.op .isin (.ix (.var 0) (.lit (.int 0))) (.call 0 .nil))
def b_law_heads_w1 : S :=
  (.seq (.app 1 (.var 0))
  (.seq (.asg 0 (.ix (.var 0) (.lit (.int 2))))
  .pass))
def ir_law_heads : S :=
  (.seq (.asg 1 (.lst .nil))
  (.seq (.wh 200 c_law_heads_w1 b_law_heads_w1)
  (.seq (.fz [1]) (.seq (.ret (.op .add (.var 1) (.lst (.cons (.var 0) .nil))))
  .pass))))
def tb_law_heads : Tab := ⟨[m_law_bearing], []⟩
def m_law_heads : List D → Option D := run tb_law_heads 1 2 ir_law_heads
def el_law_head_by_c1 : E := (.op .add (.op .fdiv (.var 4) (.lit (.int 24))) (.op .mulr (.var 6) (.op .add (.lit (.int 1)) (.op .mod (.op .fdiv (.var 0) (.lit (.int 1120))) (.lit (.int 3))))))
def it_law_head_by_c1 : Wk := (.rng (.cons (.var 5) .nil))
def cp_law_head_by_c1 : E := .comp el_law_head_by_c1 [6] it_law_head_by_c1
@[simp] theorem nw_law_head_by_c1 : isNew cp_law_head_by_c1 = true := rfl
def ir_law_head_by : S :=
  (.seq (.asg 3 (.ix (.lst (.cons (.lit (.str "from")) (.cons (.lit (.str "until")) (.cons (.lit (.str "also")) (.cons (.lit (.str "but")) .nil))))) (.op .mod (.var 0) (.lit (.int 4)))))
  (.seq (.asg 4 (.op .add (.var 1) (.op .mod (.op .fdiv (.var 0) (.lit (.int 4))) (.lit (.int 70)))))
  (.seq (.ifs (.op .ne (.var 3) (.lit (.str "but")))
  (.seq (.ret (.tup (.cons (.var 3) (.cons (.var 4) (.cons (.var 2) .nil)))))
  .pass)
  .pass)
  (.seq (.asg 5 (.ix (.lst (.cons (.lit (.int 1)) (.cons (.lit (.int 2)) (.cons (.lit (.int 5)) (.cons (.lit (.int 20)) .nil))))) (.op .mod (.op .fdiv (.var 0) (.lit (.int 280))) (.lit (.int 4)))))
  (.seq (.ret (.tup (.cons (.var 3) (.cons (.bc .tuple (.cons cp_law_head_by_c1 .nil)) (.cons (.var 2) .nil)))))
  .pass)))))
def tb_law_head_by : Tab := ⟨[], []⟩
def m_law_head_by : List D → Option D := run tb_law_head_by 3 7 ir_law_head_by
def ir_law_days : S :=
  (.seq (.asg 2 (.lst (.cons (.lit (.int 31)) (.cons (.lit (.int 28)) (.cons (.lit (.int 31)) (.cons (.lit (.int 30)) (.cons (.lit (.int 31)) (.cons (.lit (.int 30)) (.cons (.lit (.int 31)) (.cons (.lit (.int 31)) (.cons (.lit (.int 30)) (.cons (.lit (.int 31)) (.cons (.lit (.int 30)) (.cons (.lit (.int 31)) .nil))))))))))))))
  (.seq (.fz [2]) (.seq (.ret (.op .add (.ix (.var 2) (.op .sub (.var 1) (.lit (.int 1)))) (.bc .int (.cons (.and (.op .eq (.var 1) (.lit (.int 2))) (.op .eq (.op .mod (.var 0) (.lit (.int 4))) (.lit (.int 0)))) .nil))))
  .pass)))
def tb_law_days : Tab := ⟨[], []⟩
def m_law_days : List D → Option D := run tb_law_days 2 3 ir_law_days
def c_law_in_month_w1 : E := (.op .ge (.var 1) (.call 0 (.cons (.var 2) (.cons (.var 3) .nil))))
def b_law_in_month_w1 : S :=
  (.seq (.asg 1 (.op .sub (.var 1) (.call 0 (.cons (.var 2) (.cons (.var 3) .nil)))))
  (.seq (.asg 2 (.op .add (.var 2) (.op .fdiv (.var 3) (.lit (.int 12)))))
  (.seq (.asg 3 (.op .add (.op .mod (.var 3) (.lit (.int 12))) (.lit (.int 1))))
  .pass)))
def ir_law_in_month : S :=
  (.seq (.asg 1 (.op .mod (.var 0) (.lit (.int 1461))))
  (.seq (.asg 2 (.lit (.int 0)))
  (.seq (.asg 3 (.lit (.int 1)))
  (.seq (.wh 200 c_law_in_month_w1 b_law_in_month_w1)
  (.seq (.ret (.lst (.cons (.op .add (.var 1) (.lit (.int 1))) (.cons (.op .sub (.var 1) (.call 0 (.cons (.var 2) (.cons (.var 3) .nil)))) .nil))))
  .pass)))))
def tb_law_in_month : Tab := ⟨[m_law_days], []⟩
def m_law_in_month : List D → Option D := run tb_law_in_month 1 4 ir_law_in_month
def ir_law_plain_begins : S :=
  (.seq (.ifs (.op .eq (.ix (.var 0) (.lit (.int 0))) (.lit (.str "once")))
  (.seq (.ret (.op .eq (.var 1) (.ix (.var 0) (.lit (.int 1)))))
  .pass)
  .pass)
  (.seq (.ifs (.op .eq (.ix (.var 0) (.lit (.int 0))) (.lit (.str "every")))
  (.seq (.ret (.and (.op .ge (.var 1) (.ix (.var 0) (.lit (.int 1)))) (.op .eq (.op .mod (.op .sub (.var 1) (.ix (.var 0) (.lit (.int 1)))) (.ix (.var 0) (.lit (.int 3)))) (.lit (.int 0)))))
  .pass)
  .pass)
  (.seq (.ifs (.or (.op .lt (.var 1) (.lit (.int 0))) (.op .ne (.op .mod (.var 1) (.lit (.int 24))) (.ix (.var 0) (.lit (.int 2)))))
  (.seq (.ret (.lit (.bool false)))
  .pass)
  .pass)
  (.seq (.ifs (.op .eq (.ix (.var 0) (.lit (.int 0))) (.lit (.str "week")))
  (.seq (.ret (.op .isin (.op .mod (.op .fdiv (.var 1) (.lit (.int 24))) (.lit (.int 7))) (.ix (.var 0) (.lit (.int 1)))))
  .pass)
  .pass)
  (.seq (.ret (.op .isin (.ix (.var 0) (.lit (.int 1))) (.call 0 (.cons (.op .fdiv (.var 1) (.lit (.int 24))) .nil))))
  .pass)))))
def tb_law_plain_begins : Tab := ⟨[m_law_in_month], []⟩
def m_law_plain_begins : List D → Option D := run tb_law_plain_begins 2 2 ir_law_plain_begins
def i_law_begun_w1 : Wk := (.rev (.sl (.var 2) .no (.neg (.lit (.int 1)))))
def b_law_begun_w1 : S :=
  (.seq (.ifs (.op .eq (.ix (.var 4) (.lit (.int 0))) (.lit (.str "from")))
  (.seq (.asg 3 (.and (.var 3) (.op .ge (.var 1) (.ix (.var 4) (.lit (.int 1))))))
  .pass)
  (.seq (.ifs (.op .eq (.ix (.var 4) (.lit (.int 0))) (.lit (.str "until")))
  (.seq (.asg 3 (.and (.var 3) (.op .lt (.var 1) (.ix (.var 4) (.lit (.int 1))))))
  .pass)
  (.seq (.ifs (.op .eq (.ix (.var 4) (.lit (.int 0))) (.lit (.str "also")))
  (.seq (.asg 3 (.or (.var 3) (.op .eq (.var 1) (.ix (.var 4) (.lit (.int 1))))))
  .pass)
  (.seq (.asg 3 (.and (.var 3) (.op .nin (.op .fdiv (.var 1) (.lit (.int 24))) (.ix (.var 4) (.lit (.int 1))))))
  .pass))
  .pass))
  .pass))
  .pass)
def ir_law_begun : S :=
  (.seq (.asg 2 (.call 1 (.cons (.var 0) .nil)))
  (.seq (.asg 3 (.call 0 (.cons (.ix (.var 2) (.neg (.lit (.int 1)))) (.cons (.var 1) .nil))))
  (.seq (.fr [4] i_law_begun_w1 b_law_begun_w1)
  (.seq (.ret (.var 3))
  .pass))))
def tb_law_begun : Tab := ⟨[m_law_plain_begins, m_law_heads], []⟩
def m_law_begun : List D → Option D := run tb_law_begun 2 5 ir_law_begun
def i_law_settled_w1 : Wk := (.seq (.call 0 (.cons (.var 0) .nil)))
def b_law_settled_w1 : S :=
  (.seq (.ifs (.op .eq (.ix (.var 2) (.lit (.int 0))) (.lit (.str "but")))
  (.seq (.asg 1 (.bc .max (.cons (.var 1) (.cons (.op .add (.op .mulr (.ix (.ix (.var 2) (.lit (.int 1))) (.neg (.lit (.int 1)))) (.lit (.int 24))) (.lit (.int 24))) .nil))))
  .pass)
  .pass)
  (.seq (.ifs (.op .isin (.ix (.var 2) (.lit (.int 0))) (.lst (.cons (.lit (.str "also")) (.cons (.lit (.str "once")) .nil))))
  (.seq (.asg 1 (.bc .max (.cons (.var 1) (.cons (.op .add (.ix (.var 2) (.lit (.int 1))) (.lit (.int 1))) .nil))))
  .pass)
  .pass)
  (.seq (.ifs (.op .isin (.ix (.var 2) (.lit (.int 0))) (.lst (.cons (.lit (.str "from")) (.cons (.lit (.str "until")) (.cons (.lit (.str "every")) .nil)))))
  (.seq (.asg 1 (.bc .max (.cons (.var 1) (.cons (.ix (.var 2) (.lit (.int 1))) .nil))))
  .pass)
  .pass)
  .pass)))
def ir_law_settled : S :=
  (.seq (.asg 1 (.lit (.int 0)))
  (.seq (.fr [2] i_law_settled_w1 b_law_settled_w1)
  (.seq (.ret (.var 1))
  .pass)))
def tb_law_settled : Tab := ⟨[m_law_heads], []⟩
def m_law_settled : List D → Option D := run tb_law_settled 1 3 ir_law_settled
def ir_law_round : S :=
  (.seq (.asg 1 (.ix (.call 0 (.cons (.var 0) .nil)) (.neg (.lit (.int 1)))))
  (.seq (.ifs (.op .eq (.ix (.var 1) (.lit (.int 0))) (.lit (.str "every")))
  (.seq (.ret (.ix (.var 1) (.lit (.int 3))))
  .pass)
  .pass)
  (.seq (.ret (.ix (.lst (.cons (.lit (.int 1)) (.cons (.lit (.int 168)) (.cons (.op .mul (.lit (.int 1461)) (.lit (.int 24))) .nil)))) (.x2 .idx (.lst (.cons (.lit (.str "once")) (.cons (.lit (.str "week")) (.cons (.lit (.str "month")) .nil)))) (.ix (.var 1) (.lit (.int 0))))))
  .pass)))
def tb_law_round : Tab := ⟨[m_law_heads], []⟩
def m_law_round : List D → Option D := run tb_law_round 1 2 ir_law_round
def el_law_c1 : E := (.call 0 (.cons (.var 0) (.cons (.var 4) .nil)))
def it_law_c1 : Wk := (.rng (.cons (.lit (.int 3)) .nil))
def cp_law_c1 : E := .comp el_law_c1 [4] it_law_c1
@[simp] theorem nw_law_c1 : isNew cp_law_c1 = true := rfl
def el_law_c2 : E := (.call 7 (.cons (.var 6) .nil))
def it_law_c2 : Wk := (.seq (.var 5))
def cp_law_c2 : E := .comp el_law_c2 [6] it_law_c2
@[simp] theorem nw_law_c2 : isNew cp_law_c2 = true := rfl
def i_law_w1 : Wk := (.rng (.cons (.op .mod (.call 0 (.cons (.var 0) (.cons (.lit (.int 4)) .nil))) (.lit (.int 6))) .nil))
def b_law_w1 : S :=
  (.seq (.asg 3 (.call 2 (.cons (.call 0 (.cons (.var 0) (.cons (.op .add (.lit (.int 7)) (.var 4)) .nil))) (.cons (.var 2) (.cons (.var 3) .nil)))))
  .pass)
def q_law_1 : S := (.asg 1 (.call 0 (.cons (.var 0) (.cons (.lit (.int 3)) .nil))))
def q_law_2 : S := (.asg 2 (.ix (.lst (.cons (.lit (.int 0)) (.cons (.op .mod (.op .fdiv (.var 1) (.lit (.int 3))) (.op .pow (.lit (.int 10)) (.lit (.int 6)))) (.cons (.op .mod (.op .fdiv (.var 1) (.lit (.int 3))) (.op .sub (.op .pow (.lit (.int 10)) (.lit (.int 12))) (.lit (.int 200)))) .nil)))) (.op .mod (.var 1) (.lit (.int 3)))))
def q_law_3 : S := (.asg 3 (.call 1 (.cons cp_law_c1 (.cons (.var 2) (.cons (.lit (.int 48)) .nil)))))
def q_law_4 : S := (.ifs (.and (.op .eq (.ix (.var 3) (.lit (.int 0))) (.lit (.str "every"))) (.op .eq (.op .mod (.op .fdiv (.call 0 (.cons (.var 0) (.cons (.lit (.int 4)) .nil))) (.lit (.int 6))) (.lit (.int 2))) (.lit (.int 1))))
  (.seq (.asg 3 (.tup (.cons (.ix (.var 3) (.lit (.int 0))) (.cons (.ix (.var 3) (.lit (.int 1))) (.cons (.ix (.var 3) (.lit (.int 2))) (.cons (.op .add (.lit (.int 1)) (.op .mod (.call 0 (.cons (.var 0) (.cons (.lit (.int 2)) .nil))) (.lit (.int 1000000)))) .nil))))))
  .pass)
  .pass)
def q_law_5 : S := (.fr [4] i_law_w1 b_law_w1)
def q_law_6 : S := (.asg 5 (.lst (.cons (.call 4 (.cons (.var 3) .nil)) (.cons (.call 3 (.cons (.var 3) .nil)) .nil))))
def q_law_7 : S := (.fz [5])
def q_law_8 : S := (.ifs (.or (.not (.bc .all (.cons cp_law_c2 .nil))) (.op .ne (.var 5) (.lst (.cons (.call 6 (.cons (.var 3) .nil)) (.cons (.call 5 (.cons (.var 3) .nil)) .nil)))))
  (.seq (.ret (.lit (.bool false)))
  .pass)
  .pass)
def q_law_9 : S := (.asg 7 (.call 0 (.cons (.var 0) (.cons (.lit (.int 5)) .nil))))
def q_law_10 : S := (.fz [5])
def q_law_11 : S := (.asg 8 (.op .add (.ix (.var 5) (.lit (.int 1))) (.ix (.lst (.cons (.op .mod (.op .fdiv (.var 7) (.lit (.int 2))) (.lit (.int 100))) (.cons (.op .mod (.op .fdiv (.var 7) (.lit (.int 2))) (.op .pow (.lit (.int 10)) (.lit (.int 30)))) .nil))) (.op .mod (.var 7) (.lit (.int 2))))))
def q_law_12 : S := (.ifs (.and (.op .eq (.op .mod (.call 0 (.cons (.var 0) (.cons (.lit (.int 6)) .nil))) (.lit (.int 3))) (.lit (.int 0))) (.op .eq (.ix (.var 3) (.lit (.int 0))) (.lit (.str "every"))))
  (.seq (.fz [5]) (.seq (.asg 8 (.op .add (.ix (.var 5) (.lit (.int 1))) (.op .mulr (.op .mod (.op .fdiv (.var 7) (.lit (.int 2))) (.op .pow (.lit (.int 10)) (.lit (.int 6)))) (.ix (.var 5) (.lit (.int 0))))))
  .pass))
  .pass)
def q_law_13 : S := (.asg 9 (.op .fdiv (.call 0 (.cons (.var 0) (.cons (.lit (.int 6)) .nil))) (.lit (.int 3))))
def q_law_14 : S := (.asg 10 (.op .add (.lit (.int 1)) (.ix (.lst (.cons (.op .mod (.var 9) (.lit (.int 5))) (.cons (.op .mod (.var 9) (.op .pow (.lit (.int 10)) (.lit (.int 9)))) .nil))) (.op .mod (.call 0 (.cons (.var 0) (.cons (.lit (.int 12)) .nil))) (.lit (.int 2))))))
def q_law_15 : S := (.fz [5])
def q_law_16 : S := (.asg 11 (.call 8 (.cons (.var 3) (.cons (.op .add (.var 8) (.op .mulr (.ix (.var 5) (.lit (.int 0))) (.var 10))) .nil))))
def q_law_17 : S := (.ret (.and (.isi (.var 11) .bool) (.op .eq (.var 11) (.call 9 (.cons (.var 3) (.cons (.var 8) .nil))))))
def t_law_18 : S := .pass
def t_law_17 : S := .seq q_law_17 t_law_18
def t_law_16 : S := .seq q_law_16 t_law_17
def t_law_15 : S := .seq q_law_15 t_law_16
def t_law_14 : S := .seq q_law_14 t_law_15
def t_law_13 : S := .seq q_law_13 t_law_14
def t_law_12 : S := .seq q_law_12 t_law_13
def t_law_11 : S := .seq q_law_11 t_law_12
def t_law_10 : S := .seq q_law_10 t_law_11
def t_law_9 : S := .seq q_law_9 t_law_10
def t_law_8 : S := .seq q_law_8 t_law_9
def t_law_7 : S := .seq q_law_7 t_law_8
def t_law_6 : S := .seq q_law_6 t_law_7
def t_law_5 : S := .seq q_law_5 t_law_6
def t_law_4 : S := .seq q_law_4 t_law_5
def t_law_3 : S := .seq q_law_3 t_law_4
def t_law_2 : S := .seq q_law_2 t_law_3
def t_law_1 : S := .seq q_law_1 t_law_2
def ir_law : S :=
  t_law_1
def tb_law : Tab := ⟨[m_law_cell_at, m_law_plain_by, m_law_head_by, m_settled, m_round_of, m_law_settled, m_law_round, m_law_whole, m_begins, m_law_begun], []⟩
def m_law : List D → Option D := run tb_law 1 12 ir_law
end k08

namespace k08
open PySem PySem.Spec PyProof.Rows L2 Fx
def topS (i : Nat) : Stmt := PySem.Challenge.pw_freehour_k08_rules_come_round.main.body.getD i (.Pass ⟨0, 0, 0, 0⟩)
abbrev s_is_long : Stmt := topS 4
theorem sc_is_long : FnScope ["year"] ["year"] (defScope s_is_long) := ⟨rfl, rfl, rfl, by decide +kernel, rfl, by decide +kernel, by decide +kernel⟩
theorem ck_is_long : chkB ⟨["year"], [], [], true⟩ (defScope s_is_long) ir_is_long (defBody s_is_long) = true := by decide +kernel
abbrev s_year_length : Stmt := topS 5
theorem sc_year_length : FnScope ["year"] ["year"] (defScope s_year_length) := ⟨rfl, rfl, rfl, by decide +kernel, rfl, by decide +kernel, by decide +kernel⟩
theorem ck_year_length : chkB ⟨["year"], ["is_long"], ["YEAR_LENGTH"], true⟩ (defScope s_year_length) ir_year_length (defBody s_year_length) = true := by decide +kernel
abbrev s_month_length : Stmt := topS 6
theorem sc_month_length : FnScope ["year", "month"] ["year", "month"] (defScope s_month_length) := ⟨rfl, rfl, rfl, by decide +kernel, rfl, by decide +kernel, by decide +kernel⟩
theorem ck_month_length : chkB ⟨["year", "month"], ["is_long"], ["MONTH_LENGTHS"], true⟩ (defScope s_month_length) ir_month_length (defBody s_month_length) = true := by decide +kernel
abbrev s_date_of : Stmt := topS 7
theorem sc_date_of : FnScope ["day", "fours", "rest", "year", "month"] ["day"] (defScope s_date_of) := ⟨rfl, rfl, rfl, by decide +kernel, rfl, by decide +kernel, by decide +kernel⟩
theorem ck_date_of : chkB ⟨["day", "fours", "rest", "year", "month"], ["month_length", "year_length"], ["FOUR_YEARS_LENGTH"], true⟩ (defScope s_date_of) ir_date_of (defBody s_date_of) = true := by decide +kernel
abbrev s_from_end : Stmt := topS 8
theorem sc_from_end : FnScope ["day", "year", "month", "number"] ["day"] (defScope s_from_end) := ⟨rfl, rfl, rfl, by decide +kernel, rfl, by decide +kernel, by decide +kernel⟩
theorem ck_from_end : chkB ⟨["day", "year", "month", "number"], ["month_length", "date_of"], [], true⟩ (defScope s_from_end) ir_from_end (defBody s_from_end) = true := by decide +kernel
abbrev s_comes_again : Stmt := topS 13
theorem sc_comes_again : FnScope ["first", "step", "hour"] ["first", "step", "hour"] (defScope s_comes_again) := ⟨rfl, rfl, rfl, by decide +kernel, rfl, by decide +kernel, by decide +kernel⟩
theorem ck_comes_again : chkB ⟨["first", "step", "hour"], [], [], true⟩ (defScope s_comes_again) ir_comes_again (defBody s_comes_again) = true := by decide +kernel
abbrev s_is_day_of_month : Stmt := topS 14
theorem sc_is_day_of_month : FnScope ["wanted", "day"] ["wanted", "day"] (defScope s_is_day_of_month) := ⟨rfl, rfl, rfl, by decide +kernel, rfl, by decide +kernel, by decide +kernel⟩
theorem ck_is_day_of_month : chkB ⟨["wanted", "day"], ["date_of", "from_end"], [], true⟩ (defScope s_is_day_of_month) ir_is_day_of_month (defBody s_is_day_of_month) = true := by decide +kernel
abbrev s_begins_plain : Stmt := topS 15
theorem sc_begins_plain : FnScope ["rule", "hour", "word", "day"] ["rule", "hour"] (defScope s_begins_plain) := ⟨rfl, rfl, rfl, by decide +kernel, rfl, by decide +kernel, by decide +kernel⟩
theorem ck_begins_plain : chkB ⟨["rule", "hour", "word", "day"], ["is_day_of_month", "comes_again"], ["WEEK_DAYS", "DAY_HOURS"], true⟩ (defScope s_begins_plain) ir_begins_plain (defBody s_begins_plain) = true := by decide +kernel
abbrev s_is_cut : Stmt := topS 16
theorem sc_is_cut : FnScope ["rule", "hour", "word"] ["rule", "hour"] (defScope s_is_cut) := ⟨rfl, rfl, rfl, by decide +kernel, rfl, by decide +kernel, by decide +kernel⟩
theorem ck_is_cut : chkB ⟨["rule", "hour", "word"], [], ["DAY_HOURS"], true⟩ (defScope s_is_cut) ir_is_cut (defBody s_is_cut) = true := by decide +kernel
abbrev s_begins : Stmt := topS 17
theorem sc_begins : FnScope ["rule", "hour", "inner"] ["rule", "hour"] (defScope s_begins) := ⟨rfl, rfl, rfl, by decide +kernel, rfl, by decide +kernel, by decide +kernel⟩
theorem ck_begins : chkB ⟨["rule", "hour", "inner"], ["begins_plain", "is_cut"], ["WORDS_AROUND"], true⟩ (defScope s_begins) ir_begins (defBody s_begins) = true := by decide +kernel
abbrev s_round_of : Stmt := topS 22
theorem sc_round_of : FnScope ["rule", "inner"] ["rule"] (defScope s_round_of) := ⟨rfl, rfl, rfl, by decide +kernel, rfl, by decide +kernel, by decide +kernel⟩
theorem ck_round_of : chkB ⟨["rule", "inner"], [], ["MONTH_ROUND", "WEEK_ROUND", "ONCE_ROUND", "WORDS_AROUND"], true⟩ (defScope s_round_of) ir_round_of (defBody s_round_of) = true := by decide +kernel
abbrev s_settled_plain : Stmt := topS 23
theorem sc_settled_plain : FnScope ["rule"] ["rule"] (defScope s_settled_plain) := ⟨rfl, rfl, rfl, by decide +kernel, rfl, by decide +kernel, by decide +kernel⟩
theorem ck_settled_plain : chkB ⟨["rule"], [], [], true⟩ (defScope s_settled_plain) ir_settled_plain (defBody s_settled_plain) = true := by decide +kernel
abbrev s_settled_around : Stmt := topS 24
theorem sc_settled_around : FnScope ["rule"] ["rule"] (defScope s_settled_around) := ⟨rfl, rfl, rfl, by decide +kernel, rfl, by decide +kernel, by decide +kernel⟩
theorem ck_settled_around : chkB ⟨["rule"], [], ["DAY_HOURS"], true⟩ (defScope s_settled_around) ir_settled_around (defBody s_settled_around) = true := by decide +kernel
abbrev s_settled : Stmt := topS 25
theorem sc_settled : FnScope ["rule", "hours", "inner"] ["rule"] (defScope s_settled) := ⟨rfl, rfl, rfl, by decide +kernel, rfl, by decide +kernel, by decide +kernel⟩
theorem ck_settled : chkB ⟨["rule", "hours", "inner"], ["settled_plain", "settled_around"], ["WORDS_AROUND"], true⟩ (defScope s_settled) ir_settled (defBody s_settled) = true := by decide +kernel
abbrev s_law_cell_at : Stmt := topS 27
theorem sc_law_cell_at : FnScope ["_law_script", "_law_k"] ["_law_script", "_law_k"] (defScope s_law_cell_at) := ⟨rfl, rfl, rfl, by decide +kernel, rfl, by decide +kernel, by decide +kernel⟩
theorem ck_law_cell_at : chkB ⟨["_law_script", "_law_k"], [], [], true⟩ (defScope s_law_cell_at) ir_law_cell_at (defBody s_law_cell_at) = true := by decide +kernel
abbrev s_law_whole : Stmt := topS 28
theorem sc_law_whole : FnScope ["_law_found"] ["_law_found"] (defScope s_law_whole) := ⟨rfl, rfl, rfl, by decide +kernel, rfl, by decide +kernel, by decide +kernel⟩
theorem ck_law_whole : chkB ⟨["_law_found"], [], [], true⟩ (defScope s_law_whole) ir_law_whole (defBody s_law_whole) = true := by decide +kernel
abbrev s_law_weekdays : Stmt := topS 29
theorem sc_law_weekdays : FnScope ["_law_bits", "_law_days_here", "_law_k"] ["_law_bits"] (defScope s_law_weekdays) := ⟨rfl, rfl, rfl, by decide +kernel, rfl, by decide +kernel, by decide +kernel⟩
theorem ck_law_weekdays : chkB ⟨["_law_bits", "_law_days_here", "_law_k"], [], [], true⟩ (defScope s_law_weekdays) ir_law_weekdays (defBody s_law_weekdays) = true := by decide +kernel
abbrev s_law_plain_by : Stmt := topS 30
theorem sc_law_plain_by : FnScope ["_law_cells", "_law_far", "_law_most", "_law_kind", "_law_size", "_law_hour", "_law_day"] ["_law_cells", "_law_far", "_law_most"] (defScope s_law_plain_by) := ⟨rfl, rfl, rfl, by decide +kernel, rfl, by decide +kernel, by decide +kernel⟩
theorem ck_law_plain_by : chkB ⟨["_law_cells", "_law_far", "_law_most", "_law_kind", "_law_size", "_law_hour", "_law_day"], ["_law_weekdays"], [], true⟩ (defScope s_law_plain_by) ir_law_plain_by (defBody s_law_plain_by) = true := by decide +kernel
abbrev s_law_bearing : Stmt := topS 31
theorem sc_law_bearing : FnScope [] [] (defScope s_law_bearing) := ⟨rfl, rfl, rfl, by decide +kernel, rfl, by decide +kernel, by decide +kernel⟩
theorem ck_law_bearing : chkB ⟨[], [], [], true⟩ (defScope s_law_bearing) ir_law_bearing (defBody s_law_bearing) = true := by decide +kernel
abbrev s_law_heads : Stmt := topS 32
theorem sc_law_heads : FnScope ["_law_rule", "_law_heads_here"] ["_law_rule"] (defScope s_law_heads) := ⟨rfl, rfl, rfl, by decide +kernel, rfl, by decide +kernel, by decide +kernel⟩
theorem ck_law_heads : chkB ⟨["_law_rule", "_law_heads_here"], ["_law_bearing"], [], true⟩ (defScope s_law_heads) ir_law_heads (defBody s_law_heads) = true := by decide +kernel
abbrev s_law_head_by : Stmt := topS 33
theorem sc_law_head_by : FnScope ["_law_cell", "_law_far", "_law_rule", "_law_word", "_law_hour", "_law_many", "_law_k"] ["_law_cell", "_law_far", "_law_rule"] (defScope s_law_head_by) := ⟨rfl, rfl, rfl, by decide +kernel, rfl, by decide +kernel, by decide +kernel⟩
theorem ck_law_head_by : chkB ⟨["_law_cell", "_law_far", "_law_rule", "_law_word", "_law_hour", "_law_many", "_law_k"], [], [], true⟩ (defScope s_law_head_by) ir_law_head_by (defBody s_law_head_by) = true := by decide +kernel
abbrev s_law_days : Stmt := topS 34
theorem sc_law_days : FnScope ["_law_year", "_law_month", "_law_sizes"] ["_law_year", "_law_month"] (defScope s_law_days) := ⟨rfl, rfl, rfl, by decide +kernel, rfl, by decide +kernel, by decide +kernel⟩
theorem ck_law_days : chkB ⟨["_law_year", "_law_month", "_law_sizes"], [], [], true⟩ (defScope s_law_days) ir_law_days (defBody s_law_days) = true := by decide +kernel
abbrev s_law_in_month : Stmt := topS 35
theorem sc_law_in_month : FnScope ["_law_day", "_law_rest", "_law_year", "_law_month"] ["_law_day"] (defScope s_law_in_month) := ⟨rfl, rfl, rfl, by decide +kernel, rfl, by decide +kernel, by decide +kernel⟩
theorem ck_law_in_month : chkB ⟨["_law_day", "_law_rest", "_law_year", "_law_month"], ["_law_days"], [], true⟩ (defScope s_law_in_month) ir_law_in_month (defBody s_law_in_month) = true := by decide +kernel
abbrev s_law_plain_begins : Stmt := topS 36
theorem sc_law_plain_begins : FnScope ["_law_rule", "_law_hour"] ["_law_rule", "_law_hour"] (defScope s_law_plain_begins) := ⟨rfl, rfl, rfl, by decide +kernel, rfl, by decide +kernel, by decide +kernel⟩
theorem ck_law_plain_begins : chkB ⟨["_law_rule", "_law_hour"], ["_law_in_month"], [], true⟩ (defScope s_law_plain_begins) ir_law_plain_begins (defBody s_law_plain_begins) = true := by decide +kernel
abbrev s_law_begun : Stmt := topS 37
theorem sc_law_begun : FnScope ["_law_rule", "_law_hour", "_law_heads_here", "_law_due", "_law_head"] ["_law_rule", "_law_hour"] (defScope s_law_begun) := ⟨rfl, rfl, rfl, by decide +kernel, rfl, by decide +kernel, by decide +kernel⟩
theorem ck_law_begun : chkB ⟨["_law_rule", "_law_hour", "_law_heads_here", "_law_due", "_law_head"], ["_law_plain_begins", "_law_heads"], [], true⟩ (defScope s_law_begun) ir_law_begun (defBody s_law_begun) = true := by decide +kernel
abbrev s_law_settled : Stmt := topS 38
theorem sc_law_settled : FnScope ["_law_rule", "_law_found", "_law_head"] ["_law_rule"] (defScope s_law_settled) := ⟨rfl, rfl, rfl, by decide +kernel, rfl, by decide +kernel, by decide +kernel⟩
theorem ck_law_settled : chkB ⟨["_law_rule", "_law_found", "_law_head"], ["_law_heads"], [], true⟩ (defScope s_law_settled) ir_law_settled (defBody s_law_settled) = true := by decide +kernel
abbrev s_law_round : Stmt := topS 39
theorem sc_law_round : FnScope ["_law_rule", "_law_plain"] ["_law_rule"] (defScope s_law_round) := ⟨rfl, rfl, rfl, by decide +kernel, rfl, by decide +kernel, by decide +kernel⟩
theorem ck_law_round : chkB ⟨["_law_rule", "_law_plain"], ["_law_heads"], [], true⟩ (defScope s_law_round) ir_law_round (defBody s_law_round) = true := by decide +kernel
abbrev s_law : Stmt := topS 40
theorem sc_law : FnScope ["_law_script", "_law_base", "_law_far", "_law_rule", "_law_k", "_law_found", "_law_one", "_law_cell", "_law_hour", "_law_many", "_law_rounds", "_law_told"] ["_law_script"] (defScope s_law) := ⟨rfl, rfl, rfl, by decide +kernel, rfl, by decide +kernel, by decide +kernel⟩
theorem ck_law : chkB ⟨["_law_script", "_law_base", "_law_far", "_law_rule", "_law_k", "_law_found", "_law_one", "_law_cell", "_law_hour", "_law_many", "_law_rounds", "_law_told"], ["_law_cell_at", "_law_plain_by", "_law_head_by", "settled", "round_of", "_law_settled", "_law_round", "_law_whole", "begins", "_law_begun"], [], true⟩ (defScope s_law) ir_law (defBody s_law) = true := by decide +kernel
structure Top (K : PySem.W.Frag) : Prop where
  d_is_long : DefAt K "is_long" s_is_long
  d_year_length : DefAt K "year_length" s_year_length
  d_month_length : DefAt K "month_length" s_month_length
  d_date_of : DefAt K "date_of" s_date_of
  d_from_end : DefAt K "from_end" s_from_end
  d_comes_again : DefAt K "comes_again" s_comes_again
  d_is_day_of_month : DefAt K "is_day_of_month" s_is_day_of_month
  d_begins_plain : DefAt K "begins_plain" s_begins_plain
  d_is_cut : DefAt K "is_cut" s_is_cut
  d_begins : DefAt K "begins" s_begins
  d_round_of : DefAt K "round_of" s_round_of
  d_settled_plain : DefAt K "settled_plain" s_settled_plain
  d_settled_around : DefAt K "settled_around" s_settled_around
  d_settled : DefAt K "settled" s_settled
  d_law_cell_at : DefAt K "_law_cell_at" s_law_cell_at
  d_law_whole : DefAt K "_law_whole" s_law_whole
  d_law_weekdays : DefAt K "_law_weekdays" s_law_weekdays
  d_law_plain_by : DefAt K "_law_plain_by" s_law_plain_by
  d_law_bearing : DefAt K "_law_bearing" s_law_bearing
  d_law_heads : DefAt K "_law_heads" s_law_heads
  d_law_head_by : DefAt K "_law_head_by" s_law_head_by
  d_law_days : DefAt K "_law_days" s_law_days
  d_law_in_month : DefAt K "_law_in_month" s_law_in_month
  d_law_plain_begins : DefAt K "_law_plain_begins" s_law_plain_begins
  d_law_begun : DefAt K "_law_begun" s_law_begun
  d_law_settled : DefAt K "_law_settled" s_law_settled
  d_law_round : DefAt K "_law_round" s_law_round
  d_law : DefAt K "law" s_law
  c_YEAR_LENGTH : IntAt K "YEAR_LENGTH" 365
  c_MONTH_LENGTHS : TupAt K "MONTH_LENGTHS" [.int 31, .int 28, .int 31, .int 30, .int 31, .int 30, .int 31, .int 31, .int 30, .int 31, .int 30, .int 31]
  c_FOUR_YEARS_LENGTH : IntAt K "FOUR_YEARS_LENGTH" 1461
  c_WEEK_DAYS : IntAt K "WEEK_DAYS" 7
  c_DAY_HOURS : IntAt K "DAY_HOURS" 24
  c_WORDS_AROUND : TupAt K "WORDS_AROUND" [.str "from", .str "until", .str "also", .str "but"]
  c_MONTH_ROUND : IntAt K "MONTH_ROUND" 35064
  c_WEEK_ROUND : IntAt K "WEEK_ROUND" 168
  c_ONCE_ROUND : IntAt K "ONCE_ROUND" 1
  bt : ∀ x ∈ bNames, PySem.W.nsIn K mainGlobals x = some none
section
variable {P : Program} {w : World} {K : PySem.W.Frag} {mg : Str → Option Value} {base h : Heap}
theorem bt_mg (X : K.In h) (Gm : h.Ns mainGlobals mg) (Tp : Top K) : ∀ x ∈ bNames, mg x = none := fun x hx => PySem.W.mg_none_of X Gm (Tp.bt x hx)
theorem g_YEAR_LENGTH (X : K.In h) (Gm : h.Ns mainGlobals mg) (Tp : Top K) : CG mg K "YEAR_LENGTH" (.int 365) := cg_int X Gm Tp.c_YEAR_LENGTH
theorem g_MONTH_LENGTHS (X : K.In h) (Gm : h.Ns mainGlobals mg) (Tp : Top K) : CG mg K "MONTH_LENGTHS" (.tuple [(.int 31), (.int 28), (.int 31), (.int 30), (.int 31), (.int 30), (.int 31), (.int 31), (.int 30), (.int 31), (.int 30), (.int 31)]) := cg_tup X Gm Tp.c_MONTH_LENGTHS fun H => .cons (.int _) (.cons (.int _) (.cons (.int _) (.cons (.int _) (.cons (.int _) (.cons (.int _) (.cons (.int _) (.cons (.int _) (.cons (.int _) (.cons (.int _) (.cons (.int _) (.cons (.int _) (.nil))))))))))))
theorem g_FOUR_YEARS_LENGTH (X : K.In h) (Gm : h.Ns mainGlobals mg) (Tp : Top K) : CG mg K "FOUR_YEARS_LENGTH" (.int 1461) := cg_int X Gm Tp.c_FOUR_YEARS_LENGTH
theorem g_WEEK_DAYS (X : K.In h) (Gm : h.Ns mainGlobals mg) (Tp : Top K) : CG mg K "WEEK_DAYS" (.int 7) := cg_int X Gm Tp.c_WEEK_DAYS
theorem g_DAY_HOURS (X : K.In h) (Gm : h.Ns mainGlobals mg) (Tp : Top K) : CG mg K "DAY_HOURS" (.int 24) := cg_int X Gm Tp.c_DAY_HOURS
theorem g_WORDS_AROUND (X : K.In h) (Gm : h.Ns mainGlobals mg) (Tp : Top K) : CG mg K "WORDS_AROUND" (.tuple [(.str "from"), (.str "until"), (.str "also"), (.str "but")]) := cg_tup X Gm Tp.c_WORDS_AROUND fun H => .cons (.str _) (.cons (.str _) (.cons (.str _) (.cons (.str _) (.nil))))
theorem g_MONTH_ROUND (X : K.In h) (Gm : h.Ns mainGlobals mg) (Tp : Top K) : CG mg K "MONTH_ROUND" (.int 35064) := cg_int X Gm Tp.c_MONTH_ROUND
theorem g_WEEK_ROUND (X : K.In h) (Gm : h.Ns mainGlobals mg) (Tp : Top K) : CG mg K "WEEK_ROUND" (.int 168) := cg_int X Gm Tp.c_WEEK_ROUND
theorem g_ONCE_ROUND (X : K.In h) (Gm : h.Ns mainGlobals mg) (Tp : Top K) : CG mg K "ONCE_ROUND" (.int 1) := cg_int X Gm Tp.c_ONCE_ROUND
theorem ok_is_long (X : K.In h) (Gm : h.Ns mainGlobals mg) (Tp : Top K) : FG P w K mg base 1 "is_long" m_is_long :=
  fg_mk (k := 0) (T := tb_is_long) X Gm Tp.d_is_long sc_is_long ck_is_long (fun _ _ _ _ _ _ us hl => match us, hl with | [_], _ => rfl) fgs_nil cgs_nil (bt_mg X Gm Tp)
theorem ok_year_length (X : K.In h) (Gm : h.Ns mainGlobals mg) (Tp : Top K) : FG P w K mg base 2 "year_length" m_year_length :=
  fg_mk (k := 1) (T := tb_year_length) X Gm Tp.d_year_length sc_year_length ck_year_length (fun _ _ _ _ _ _ us hl => match us, hl with | [_], _ => rfl) (fgs_cons ((ok_is_long X Gm Tp).mono (by decide)) fgs_nil) (cgs_cons (g_YEAR_LENGTH X Gm Tp) cgs_nil) (bt_mg X Gm Tp)
theorem ok_month_length (X : K.In h) (Gm : h.Ns mainGlobals mg) (Tp : Top K) : FG P w K mg base 2 "month_length" m_month_length :=
  fg_mk (k := 1) (T := tb_month_length) X Gm Tp.d_month_length sc_month_length ck_month_length (fun _ _ _ _ _ _ us hl => match us, hl with | [_, _], _ => rfl) (fgs_cons ((ok_is_long X Gm Tp).mono (by decide)) fgs_nil) (cgs_cons (g_MONTH_LENGTHS X Gm Tp) cgs_nil) (bt_mg X Gm Tp)
theorem ok_date_of (X : K.In h) (Gm : h.Ns mainGlobals mg) (Tp : Top K) : FG P w K mg base 3 "date_of" m_date_of :=
  fg_mk (k := 2) (T := tb_date_of) X Gm Tp.d_date_of sc_date_of ck_date_of (fun _ _ _ _ _ _ us hl => match us, hl with | [_], _ => rfl) (fgs_cons ((ok_month_length X Gm Tp).mono (by decide)) (fgs_cons ((ok_year_length X Gm Tp).mono (by decide)) fgs_nil)) (cgs_cons (g_FOUR_YEARS_LENGTH X Gm Tp) cgs_nil) (bt_mg X Gm Tp)
theorem ok_from_end (X : K.In h) (Gm : h.Ns mainGlobals mg) (Tp : Top K) : FG P w K mg base 4 "from_end" m_from_end :=
  fg_mk (k := 3) (T := tb_from_end) X Gm Tp.d_from_end sc_from_end ck_from_end (fun _ _ _ _ _ _ us hl => match us, hl with | [_], _ => rfl) (fgs_cons ((ok_month_length X Gm Tp).mono (by decide)) (fgs_cons ((ok_date_of X Gm Tp).mono (by decide)) fgs_nil)) cgs_nil (bt_mg X Gm Tp)
theorem ok_comes_again (X : K.In h) (Gm : h.Ns mainGlobals mg) (Tp : Top K) : FG P w K mg base 1 "comes_again" m_comes_again :=
  fg_mk (k := 0) (T := tb_comes_again) X Gm Tp.d_comes_again sc_comes_again ck_comes_again (fun _ _ _ _ _ _ us hl => match us, hl with | [_, _, _], _ => rfl) fgs_nil cgs_nil (bt_mg X Gm Tp)
theorem ok_is_day_of_month (X : K.In h) (Gm : h.Ns mainGlobals mg) (Tp : Top K) : FG P w K mg base 5 "is_day_of_month" m_is_day_of_month :=
  fg_mk (k := 4) (T := tb_is_day_of_month) X Gm Tp.d_is_day_of_month sc_is_day_of_month ck_is_day_of_month (fun _ _ _ _ _ _ us hl => match us, hl with | [_, _], _ => rfl) (fgs_cons ((ok_date_of X Gm Tp).mono (by decide)) (fgs_cons ((ok_from_end X Gm Tp).mono (by decide)) fgs_nil)) cgs_nil (bt_mg X Gm Tp)
theorem ok_begins_plain (X : K.In h) (Gm : h.Ns mainGlobals mg) (Tp : Top K) : FG P w K mg base 6 "begins_plain" m_begins_plain :=
  fg_mk (k := 5) (T := tb_begins_plain) X Gm Tp.d_begins_plain sc_begins_plain ck_begins_plain (fun _ _ _ _ _ _ us hl => match us, hl with | [_, _], _ => rfl) (fgs_cons ((ok_is_day_of_month X Gm Tp).mono (by decide)) (fgs_cons ((ok_comes_again X Gm Tp).mono (by decide)) fgs_nil)) (cgs_cons (g_WEEK_DAYS X Gm Tp) (cgs_cons (g_DAY_HOURS X Gm Tp) cgs_nil)) (bt_mg X Gm Tp)
theorem ok_is_cut (X : K.In h) (Gm : h.Ns mainGlobals mg) (Tp : Top K) : FG P w K mg base 1 "is_cut" m_is_cut :=
  fg_mk (k := 0) (T := tb_is_cut) X Gm Tp.d_is_cut sc_is_cut ck_is_cut (fun _ _ _ _ _ _ us hl => match us, hl with | [_, _], _ => rfl) fgs_nil (cgs_cons (g_DAY_HOURS X Gm Tp) cgs_nil) (bt_mg X Gm Tp)
theorem ok_begins (X : K.In h) (Gm : h.Ns mainGlobals mg) (Tp : Top K) : FG P w K mg base 7 "begins" m_begins :=
  fg_mk (k := 6) (T := tb_begins) X Gm Tp.d_begins sc_begins ck_begins (fun _ _ _ _ _ _ us hl => match us, hl with | [_, _], _ => rfl) (fgs_cons ((ok_begins_plain X Gm Tp).mono (by decide)) (fgs_cons ((ok_is_cut X Gm Tp).mono (by decide)) fgs_nil)) (cgs_cons (g_WORDS_AROUND X Gm Tp) cgs_nil) (bt_mg X Gm Tp)
theorem ok_round_of (X : K.In h) (Gm : h.Ns mainGlobals mg) (Tp : Top K) : FG P w K mg base 1 "round_of" m_round_of :=
  fg_mk (k := 0) (T := tb_round_of) X Gm Tp.d_round_of sc_round_of ck_round_of (fun _ _ _ _ _ _ us hl => match us, hl with | [_], _ => rfl) fgs_nil (cgs_cons (g_MONTH_ROUND X Gm Tp) (cgs_cons (g_WEEK_ROUND X Gm Tp) (cgs_cons (g_ONCE_ROUND X Gm Tp) (cgs_cons (g_WORDS_AROUND X Gm Tp) cgs_nil)))) (bt_mg X Gm Tp)
theorem ok_settled_plain (X : K.In h) (Gm : h.Ns mainGlobals mg) (Tp : Top K) : FG P w K mg base 1 "settled_plain" m_settled_plain :=
  fg_mk (k := 0) (T := tb_settled_plain) X Gm Tp.d_settled_plain sc_settled_plain ck_settled_plain (fun _ _ _ _ _ _ us hl => match us, hl with | [_], _ => rfl) fgs_nil cgs_nil (bt_mg X Gm Tp)
theorem ok_settled_around (X : K.In h) (Gm : h.Ns mainGlobals mg) (Tp : Top K) : FG P w K mg base 1 "settled_around" m_settled_around :=
  fg_mk (k := 0) (T := tb_settled_around) X Gm Tp.d_settled_around sc_settled_around ck_settled_around (fun _ _ _ _ _ _ us hl => match us, hl with | [_], _ => rfl) fgs_nil (cgs_cons (g_DAY_HOURS X Gm Tp) cgs_nil) (bt_mg X Gm Tp)
theorem ok_settled (X : K.In h) (Gm : h.Ns mainGlobals mg) (Tp : Top K) : FG P w K mg base 2 "settled" m_settled :=
  fg_mk (k := 1) (T := tb_settled) X Gm Tp.d_settled sc_settled ck_settled (fun _ _ _ _ _ _ us hl => match us, hl with | [_], _ => rfl) (fgs_cons ((ok_settled_plain X Gm Tp).mono (by decide)) (fgs_cons ((ok_settled_around X Gm Tp).mono (by decide)) fgs_nil)) (cgs_cons (g_WORDS_AROUND X Gm Tp) cgs_nil) (bt_mg X Gm Tp)
theorem ok_law_cell_at (X : K.In h) (Gm : h.Ns mainGlobals mg) (Tp : Top K) : FG P w K mg base 1 "_law_cell_at" m_law_cell_at :=
  fg_mk (k := 0) (T := tb_law_cell_at) X Gm Tp.d_law_cell_at sc_law_cell_at ck_law_cell_at (fun _ _ _ _ _ _ us hl => match us, hl with | [_, _], _ => rfl) fgs_nil cgs_nil (bt_mg X Gm Tp)
theorem ok_law_whole (X : K.In h) (Gm : h.Ns mainGlobals mg) (Tp : Top K) : FG P w K mg base 1 "_law_whole" m_law_whole :=
  fg_mk (k := 0) (T := tb_law_whole) X Gm Tp.d_law_whole sc_law_whole ck_law_whole (fun _ _ _ _ _ _ us hl => match us, hl with | [_], _ => rfl) fgs_nil cgs_nil (bt_mg X Gm Tp)
theorem ok_law_weekdays (X : K.In h) (Gm : h.Ns mainGlobals mg) (Tp : Top K) : FG P w K mg base 1 "_law_weekdays" m_law_weekdays :=
  fg_mk (k := 0) (T := tb_law_weekdays) X Gm Tp.d_law_weekdays sc_law_weekdays ck_law_weekdays (fun _ _ _ _ _ _ us hl => match us, hl with | [_], _ => rfl) fgs_nil cgs_nil (bt_mg X Gm Tp)
theorem ok_law_plain_by (X : K.In h) (Gm : h.Ns mainGlobals mg) (Tp : Top K) : FG P w K mg base 2 "_law_plain_by" m_law_plain_by :=
  fg_mk (k := 1) (T := tb_law_plain_by) X Gm Tp.d_law_plain_by sc_law_plain_by ck_law_plain_by (fun _ _ _ _ _ _ us hl => match us, hl with | [_, _, _], _ => rfl) (fgs_cons ((ok_law_weekdays X Gm Tp).mono (by decide)) fgs_nil) cgs_nil (bt_mg X Gm Tp)
theorem ok_law_bearing (X : K.In h) (Gm : h.Ns mainGlobals mg) (Tp : Top K) : FG P w K mg base 1 "_law_bearing" m_law_bearing :=
  fg_mk (k := 0) (T := tb_law_bearing) X Gm Tp.d_law_bearing sc_law_bearing ck_law_bearing (fun _ _ _ _ _ _ us hl => match us, hl with | [], _ => rfl) fgs_nil cgs_nil (bt_mg X Gm Tp)
theorem ok_law_heads (X : K.In h) (Gm : h.Ns mainGlobals mg) (Tp : Top K) : FG P w K mg base 2 "_law_heads" m_law_heads :=
  fg_mk (k := 1) (T := tb_law_heads) X Gm Tp.d_law_heads sc_law_heads ck_law_heads (fun _ _ _ _ _ _ us hl => match us, hl with | [_], _ => rfl) (fgs_cons ((ok_law_bearing X Gm Tp).mono (by decide)) fgs_nil) cgs_nil (bt_mg X Gm Tp)
theorem ok_law_head_by (X : K.In h) (Gm : h.Ns mainGlobals mg) (Tp : Top K) : FG P w K mg base 1 "_law_head_by" m_law_head_by :=
  fg_mk (k := 0) (T := tb_law_head_by) X Gm Tp.d_law_head_by sc_law_head_by ck_law_head_by (fun _ _ _ _ _ _ us hl => match us, hl with | [_, _, _], _ => rfl) fgs_nil cgs_nil (bt_mg X Gm Tp)
theorem ok_law_days (X : K.In h) (Gm : h.Ns mainGlobals mg) (Tp : Top K) : FG P w K mg base 1 "_law_days" m_law_days :=
  fg_mk (k := 0) (T := tb_law_days) X Gm Tp.d_law_days sc_law_days ck_law_days (fun _ _ _ _ _ _ us hl => match us, hl with | [_, _], _ => rfl) fgs_nil cgs_nil (bt_mg X Gm Tp)
theorem ok_law_in_month (X : K.In h) (Gm : h.Ns mainGlobals mg) (Tp : Top K) : FG P w K mg base 2 "_law_in_month" m_law_in_month :=
  fg_mk (k := 1) (T := tb_law_in_month) X Gm Tp.d_law_in_month sc_law_in_month ck_law_in_month (fun _ _ _ _ _ _ us hl => match us, hl with | [_], _ => rfl) (fgs_cons ((ok_law_days X Gm Tp).mono (by decide)) fgs_nil) cgs_nil (bt_mg X Gm Tp)
theorem ok_law_plain_begins (X : K.In h) (Gm : h.Ns mainGlobals mg) (Tp : Top K) : FG P w K mg base 3 "_law_plain_begins" m_law_plain_begins :=
  fg_mk (k := 2) (T := tb_law_plain_begins) X Gm Tp.d_law_plain_begins sc_law_plain_begins ck_law_plain_begins (fun _ _ _ _ _ _ us hl => match us, hl with | [_, _], _ => rfl) (fgs_cons ((ok_law_in_month X Gm Tp).mono (by decide)) fgs_nil) cgs_nil (bt_mg X Gm Tp)
theorem ok_law_begun (X : K.In h) (Gm : h.Ns mainGlobals mg) (Tp : Top K) : FG P w K mg base 4 "_law_begun" m_law_begun :=
  fg_mk (k := 3) (T := tb_law_begun) X Gm Tp.d_law_begun sc_law_begun ck_law_begun (fun _ _ _ _ _ _ us hl => match us, hl with | [_, _], _ => rfl) (fgs_cons ((ok_law_plain_begins X Gm Tp).mono (by decide)) (fgs_cons ((ok_law_heads X Gm Tp).mono (by decide)) fgs_nil)) cgs_nil (bt_mg X Gm Tp)
theorem ok_law_settled (X : K.In h) (Gm : h.Ns mainGlobals mg) (Tp : Top K) : FG P w K mg base 3 "_law_settled" m_law_settled :=
  fg_mk (k := 2) (T := tb_law_settled) X Gm Tp.d_law_settled sc_law_settled ck_law_settled (fun _ _ _ _ _ _ us hl => match us, hl with | [_], _ => rfl) (fgs_cons ((ok_law_heads X Gm Tp).mono (by decide)) fgs_nil) cgs_nil (bt_mg X Gm Tp)
theorem ok_law_round (X : K.In h) (Gm : h.Ns mainGlobals mg) (Tp : Top K) : FG P w K mg base 3 "_law_round" m_law_round :=
  fg_mk (k := 2) (T := tb_law_round) X Gm Tp.d_law_round sc_law_round ck_law_round (fun _ _ _ _ _ _ us hl => match us, hl with | [_], _ => rfl) (fgs_cons ((ok_law_heads X Gm Tp).mono (by decide)) fgs_nil) cgs_nil (bt_mg X Gm Tp)
theorem ok_law (X : K.In h) (Gm : h.Ns mainGlobals mg) (Tp : Top K) : FG P w K mg base 8 "law" m_law :=
  fg_mk (k := 7) (T := tb_law) X Gm Tp.d_law sc_law ck_law (fun _ _ _ _ _ _ us hl => match us, hl with | [_], _ => rfl) (fgs_cons ((ok_law_cell_at X Gm Tp).mono (by decide)) (fgs_cons ((ok_law_plain_by X Gm Tp).mono (by decide)) (fgs_cons ((ok_law_head_by X Gm Tp).mono (by decide)) (fgs_cons ((ok_settled X Gm Tp).mono (by decide)) (fgs_cons ((ok_round_of X Gm Tp).mono (by decide)) (fgs_cons ((ok_law_settled X Gm Tp).mono (by decide)) (fgs_cons ((ok_law_round X Gm Tp).mono (by decide)) (fgs_cons ((ok_law_whole X Gm Tp).mono (by decide)) (fgs_cons ((ok_begins X Gm Tp).mono (by decide)) (fgs_cons ((ok_law_begun X Gm Tp).mono (by decide)) fgs_nil)))))))))) cgs_nil (bt_mg X Gm Tp)
end
theorem all_mk (hm : ∀ ns : List Int, ns.length ≤ 63 → m_law [scr ns] = some (.bool true)) {l : PySem.W.OpenLaw} {w : World} {K : PySem.W.Frag} {h : Heap} {mg : Str → Option Value} {fa : Addr} (X : K.In h) (G : h.Ns mainGlobals mg) (hfa : mg "law" = some (.ref fa)) (Tp : Top K) :
    ∃ fd : FuncData, (∀ (s : Shared) (v : Value), BindsTo s fd ⟨[v], []⟩ [("_law_script", v)]) ∧ ∀ base : Heap, K.In base → base.Ns mainGlobals mg → FnOk l.prog w K mg base CX0 8 fa fd ["_law_script"] (spLaw K) := by
  obtain ⟨f, oc, od, kV, doc, pm, an, cdv, ct, osl, a1, l1, c1, k1⟩ := Tp.d_law
  have e := hfa.symm.trans (PySem.W.mg_of X G a1)
  cases e
  have F := fun_mk (st := s_law) l1 c1 k1
  refine ⟨PySem.W.fnOf "law" "law" (defArgs s_law) (defBody s_law) (defScope s_law) .none kV doc pm an cdv ct, fun s v => .of_eq rfl, fun base KX Gb => ?_⟩
  exact (fn_ok (T := tb_law) F sc_law ck_law (fgs_cons ((ok_law_cell_at KX Gb Tp).mono (by decide)) (fgs_cons ((ok_law_plain_by KX Gb Tp).mono (by decide)) (fgs_cons ((ok_law_head_by KX Gb Tp).mono (by decide)) (fgs_cons ((ok_settled KX Gb Tp).mono (by decide)) (fgs_cons ((ok_round_of KX Gb Tp).mono (by decide)) (fgs_cons ((ok_law_settled KX Gb Tp).mono (by decide)) (fgs_cons ((ok_law_round KX Gb Tp).mono (by decide)) (fgs_cons ((ok_law_whole KX Gb Tp).mono (by decide)) (fgs_cons ((ok_begins KX Gb Tp).mono (by decide)) (fgs_cons ((ok_law_begun KX Gb Tp).mono (by decide)) fgs_nil)))))))))) cgs_nil (bt_mg KX Gb Tp)).imp (law_imp hm)
end k08

namespace k08
open PySem L2 Fx
/-! ### the calendar -/
theorem is_long_eq (y : Int) : m_is_long [.int y] = some (.bool (decide (y % 4 = 0))) := rfl
def ylen (y : Int) : Int := if y % 4 = 0 then 366 else 365
theorem year_length_eq (y : Int) : m_year_length [.int y] = some (.int (ylen y)) := by
  have e := is_long_eq y
  unfold ylen
  by_cases h : y % 4 = 0
  · rw [decide_eq_true h] at e
    rw [if_pos h]
    simp [m_year_length, ir_year_length, tb_year_length, e, Fx.run, Fx.evS, Fx.evE, Fx.evEs, Fx.evI, Fx.evP, Fx.o2, Fx.bt, Fx.ixD, Fx.slD, Fx.inD, Fx.eqD, Fx.isiD, Fx.isDict, Fx.setX, Fx.setXs, Fx.isNew, Fx.fzE, Fx.fzC, Fx.seqD, Fx.flatD, Fx.small, Fx.atI_0, Fx.atI_1, Fx.atI_2, Fx.atI_3, Fx.atI_4, Fx.atI_5]
  · rw [decide_eq_false h] at e
    rw [if_neg h]
    simp [m_year_length, ir_year_length, tb_year_length, e, Fx.run, Fx.evS, Fx.evE, Fx.evEs, Fx.evI, Fx.evP, Fx.o2, Fx.bt, Fx.ixD, Fx.slD, Fx.inD, Fx.eqD, Fx.isiD, Fx.isDict, Fx.setX, Fx.setXs, Fx.isNew, Fx.fzE, Fx.fzC, Fx.seqD, Fx.flatD, Fx.small, Fx.atI_0, Fx.atI_1, Fx.atI_2, Fx.atI_3, Fx.atI_4, Fx.atI_5]
def mtab : List Int := [31, 28, 31, 30, 31, 30, 31, 31, 30, 31, 30, 31]
def mlen (l : Bool) (m : Int) : Int := mtab.getD (m - 1).toNat 0 + (if m = 2 then (if l then 1 else 0) else 0)
theorem twelve {m : Int} (h1 : 1 ≤ m) (h2 : m ≤ 12) : m = 1 ∨ m = 2 ∨ m = 3 ∨ m = 4 ∨ m = 5 ∨ m = 6 ∨ m = 7 ∨ m = 8 ∨ m = 9 ∨ m = 10 ∨ m = 11 ∨ m = 12 := by omega
theorem month_length_eq (y m : Int) (h1 : 1 ≤ m) (h2 : m ≤ 12) : m_month_length [.int y, .int m] = some (.int (mlen (decide (y % 4 = 0)) m)) := by
  have e := is_long_eq y
  rcases twelve h1 h2 with rfl | rfl | rfl | rfl | rfl | rfl | rfl | rfl | rfl | rfl | rfl | rfl
  case inr.inl =>
    by_cases h : y % 4 = 0
    · rw [decide_eq_true h] at e ⊢
      simp [m_month_length, ir_month_length, tb_month_length, e, Fx.run, Fx.evS, Fx.evE, Fx.evEs, Fx.evI, Fx.evP, Fx.o2, Fx.bt, Fx.ixD, Fx.slD, Fx.inD, Fx.eqD, Fx.isiD, Fx.isDict, Fx.setX, Fx.setXs, Fx.isNew, Fx.fzE, Fx.fzC, Fx.seqD, Fx.flatD, Fx.small, Fx.atI_0, Fx.atI_1, Fx.atI_2, Fx.atI_3, Fx.atI_4, Fx.atI_5, atI, ixN, mlen, mtab]
    · rw [decide_eq_false h] at e ⊢
      simp [m_month_length, ir_month_length, tb_month_length, e, Fx.run, Fx.evS, Fx.evE, Fx.evEs, Fx.evI, Fx.evP, Fx.o2, Fx.bt, Fx.ixD, Fx.slD, Fx.inD, Fx.eqD, Fx.isiD, Fx.isDict, Fx.setX, Fx.setXs, Fx.isNew, Fx.fzE, Fx.fzC, Fx.seqD, Fx.flatD, Fx.small, Fx.atI_0, Fx.atI_1, Fx.atI_2, Fx.atI_3, Fx.atI_4, Fx.atI_5, atI, ixN, mlen, mtab]
  all_goals simp [m_month_length, ir_month_length, tb_month_length, Fx.run, Fx.evS, Fx.evE, Fx.evEs, Fx.evI, Fx.evP, Fx.o2, Fx.bt, Fx.ixD, Fx.slD, Fx.inD, Fx.eqD, Fx.isiD, Fx.isDict, Fx.setX, Fx.setXs, Fx.isNew, Fx.fzE, Fx.fzC, Fx.seqD, Fx.flatD, Fx.small, Fx.atI_0, Fx.atI_1, Fx.atI_2, Fx.atI_3, Fx.atI_4, Fx.atI_5, atI, ixN, mlen, mtab]
theorem law_days_eq (y m : Int) (h1 : 1 ≤ m) (h2 : m ≤ 12) : m_law_days [.int y, .int m] = some (.int (mlen (decide (y % 4 = 0)) m)) := by
  rcases twelve h1 h2 with rfl | rfl | rfl | rfl | rfl | rfl | rfl | rfl | rfl | rfl | rfl | rfl
  case inr.inl =>
    by_cases h : y % 4 = 0
    · simp [m_law_days, ir_law_days, tb_law_days, h, Fx.run, Fx.evS, Fx.evE, Fx.evEs, Fx.evI, Fx.evP, Fx.o2, Fx.bt, Fx.ixD, Fx.slD, Fx.inD, Fx.eqD, Fx.isiD, Fx.isDict, Fx.setX, Fx.setXs, Fx.isNew, Fx.fzE, Fx.fzC, Fx.seqD, Fx.flatD, Fx.small, Fx.atI_0, Fx.atI_1, Fx.atI_2, Fx.atI_3, Fx.atI_4, Fx.atI_5, atI, ixN, mlen, mtab, sizeLine]
    · simp [m_law_days, ir_law_days, tb_law_days, h, Fx.run, Fx.evS, Fx.evE, Fx.evEs, Fx.evI, Fx.evP, Fx.o2, Fx.bt, Fx.ixD, Fx.slD, Fx.inD, Fx.eqD, Fx.isiD, Fx.isDict, Fx.setX, Fx.setXs, Fx.isNew, Fx.fzE, Fx.fzC, Fx.seqD, Fx.flatD, Fx.small, Fx.atI_0, Fx.atI_1, Fx.atI_2, Fx.atI_3, Fx.atI_4, Fx.atI_5, atI, ixN, mlen, mtab, sizeLine]
  all_goals simp [m_law_days, ir_law_days, tb_law_days, Fx.run, Fx.evS, Fx.evE, Fx.evEs, Fx.evI, Fx.evP, Fx.o2, Fx.bt, Fx.ixD, Fx.slD, Fx.inD, Fx.eqD, Fx.isiD, Fx.isDict, Fx.setX, Fx.setXs, Fx.isNew, Fx.fzE, Fx.fzC, Fx.seqD, Fx.flatD, Fx.small, Fx.atI_0, Fx.atI_1, Fx.atI_2, Fx.atI_3, Fx.atI_4, Fx.atI_5, atI, ixN, mlen, mtab, sizeLine]
/-! ### the loops of the calendar -/
def yl (r : Int) : Int × Int := if r < 366 then (0, r) else if r < 731 then (1, r - 366) else if r < 1096 then (2, r - 731) else (3, r - 1096)
def ml : Nat → Bool → Int → Int → Int × Int
  | 0, _, r, m => (r, m)
  | n + 1, l, r, m => if mlen l m ≤ r then ml n l (r - mlen l m) (m + 1) else (r, m)
def okm : Nat → Bool → Int → Int → Bool
  | 0, _, _, _ => false
  | n + 1, l, r, m => decide (1 ≤ m) && decide (m ≤ 12) && (if mlen l m ≤ r then okm n l (r - mlen l m) (m + 1) else true)
def il : Nat → Int → Int → Int → Int × Int × Int
  | 0, r, y, m => (r, y, m)
  | n + 1, r, y, m => if mlen (decide (y % 4 = 0)) m ≤ r then il n (r - mlen (decide (y % 4 = 0)) m) (y + m / 12) (m % 12 + 1) else (r, y, m)
def oki : Nat → Int → Int → Int → Bool
  | 0, _, _, _ => false
  | n + 1, r, y, m => decide (1 ≤ m) && decide (m ≤ 12) && (if mlen (decide (y % 4 = 0)) m ≤ r then oki n (r - mlen (decide (y % 4 = 0)) m) (y + m / 12) (m % 12 + 1) else true)
/-- what the calendar is, day by day of four years -/
def calOk (r : Int) : Bool :=
  let j := (yl r).1
  let l := decide (j % 4 = 0)
  let e := ml 200 l (yl r).2 1
  okm 200 l (yl r).2 1 && oki 200 r 0 1 && decide (il 200 r 0 1 = (e.1, j, e.2)) && decide (0 ≤ e.1) && decide (e.1 < mlen l e.2) && decide (1 ≤ e.2) && decide (e.2 ≤ 12) && decide (0 ≤ j) && decide (j ≤ 3)
theorem cal_all : (List.range 1461).all (fun r => calOk (r : Int)) = true := by decide +kernel
theorem cal_ok {r : Int} (h1 : 0 ≤ r) (h2 : r < 1461) : calOk r = true := by
  have e : r = ((r.toNat : Nat) : Int) := (Int.toNat_of_nonneg h1).symm
  rw [e]
  exact List.all_eq_true.mp cal_all r.toNat (List.mem_range.mpr (by omega))
theorem yr_c (a b : Cel) (r y : Int) (z : Cel) : evE tb_date_of c_date_of_w1 [a, b, .v (.int r), .v (.int y), z] = some (.bool (decide (ylen y ≤ r))) := by
  simp [c_date_of_w1, tb_date_of, year_length_eq, Fx.run, Fx.evS, Fx.evE, Fx.evEs, Fx.evI, Fx.evP, Fx.o2, Fx.bt, Fx.ixD, Fx.slD, Fx.inD, Fx.eqD, Fx.isiD, Fx.isDict, Fx.setX, Fx.setXs, Fx.isNew, Fx.fzE, Fx.fzC, Fx.seqD, Fx.flatD, Fx.small, Fx.atI_0, Fx.atI_1, Fx.atI_2, Fx.atI_3, Fx.atI_4, Fx.atI_5]
theorem yr_b (a b : Cel) (r y : Int) (z : Cel) : evS tb_date_of b_date_of_w1 [a, b, .v (.int r), .v (.int y), z] = some (.nx [a, b, .v (.int (r - ylen y)), .v (.int (y + 1)), z]) := by
  simp [b_date_of_w1, tb_date_of, year_length_eq, Fx.run, Fx.evS, Fx.evE, Fx.evEs, Fx.evI, Fx.evP, Fx.o2, Fx.bt, Fx.ixD, Fx.slD, Fx.inD, Fx.eqD, Fx.isiD, Fx.isDict, Fx.setX, Fx.setXs, Fx.isNew, Fx.fzE, Fx.fzC, Fx.seqD, Fx.flatD, Fx.small, Fx.atI_0, Fx.atI_1, Fx.atI_2, Fx.atI_3, Fx.atI_4, Fx.atI_5]
theorem yr_loop (a b : Cel) (q r : Int) (z : Cel) (h1 : 0 ≤ r) (h2 : r < 1461) : whE (evE tb_date_of c_date_of_w1) (evS tb_date_of b_date_of_w1) 200 [a, b, .v (.int r), .v (.int (4 * q)), z] = some (.nx [a, b, .v (.int (yl r).2), .v (.int (4 * q + (yl r).1)), z]) := by
  have y0 : ylen (4 * q) = 366 := if_pos (by omega)
  have y1 : ylen (4 * q + 1) = 365 := if_neg (by omega)
  have y2 : ylen (4 * q + 1 + 1) = 365 := if_neg (by omega)
  have y3 : ylen (4 * q + 1 + 1 + 1) = 365 := if_neg (by omega)
  unfold yl
  by_cases c0 : r < 366
  · rw [if_pos c0, whE_f (by rw [yr_c, y0, decide_eq_false (by omega)])]
    rw [Int.add_zero]
  · rw [if_neg c0, whE_t (by rw [yr_c, y0, decide_eq_true (by omega)]) (yr_b _ _ _ _ _), y0]
    by_cases c1 : r < 731
    · rw [if_pos c1, whE_f (by rw [yr_c, y1, decide_eq_false (by omega)])]
    · rw [if_neg c1, whE_t (by rw [yr_c, y1, decide_eq_true (by omega)]) (yr_b _ _ _ _ _), y1]
      by_cases c2 : r < 1096
      · rw [if_pos c2, whE_f (by rw [yr_c, y2, decide_eq_false (by omega)])]
        have e1 : r - 366 - 365 = r - 731 := by omega
        have e2 : 4 * q + 1 + 1 = 4 * q + 2 := by omega
        rw [e1, e2]
      · rw [if_neg c2, whE_t (by rw [yr_c, y2, decide_eq_true (by omega)]) (yr_b _ _ _ _ _), y2]
        rw [whE_f (by rw [yr_c, y3, decide_eq_false (by omega)])]
        have e1 : r - 366 - 365 - 365 = r - 1096 := by omega
        have e2 : 4 * q + 1 + 1 + 1 = 4 * q + 3 := by omega
        rw [e1, e2]
theorem mo_c (a b : Cel) (r y m : Int) (h1 : 1 ≤ m) (h2 : m ≤ 12) : evE tb_date_of c_date_of_w2 [a, b, .v (.int r), .v (.int y), .v (.int m)] = some (.bool (decide (mlen (decide (y % 4 = 0)) m ≤ r))) := by
  simp [c_date_of_w2, tb_date_of, month_length_eq y m h1 h2, Fx.run, Fx.evS, Fx.evE, Fx.evEs, Fx.evI, Fx.evP, Fx.o2, Fx.bt, Fx.ixD, Fx.slD, Fx.inD, Fx.eqD, Fx.isiD, Fx.isDict, Fx.setX, Fx.setXs, Fx.isNew, Fx.fzE, Fx.fzC, Fx.seqD, Fx.flatD, Fx.small, Fx.atI_0, Fx.atI_1, Fx.atI_2, Fx.atI_3, Fx.atI_4, Fx.atI_5]
theorem mo_b (a b : Cel) (r y m : Int) (h1 : 1 ≤ m) (h2 : m ≤ 12) : evS tb_date_of b_date_of_w2 [a, b, .v (.int r), .v (.int y), .v (.int m)] = some (.nx [a, b, .v (.int (r - mlen (decide (y % 4 = 0)) m)), .v (.int y), .v (.int (m + 1))]) := by
  simp [b_date_of_w2, tb_date_of, month_length_eq y m h1 h2, Fx.run, Fx.evS, Fx.evE, Fx.evEs, Fx.evI, Fx.evP, Fx.o2, Fx.bt, Fx.ixD, Fx.slD, Fx.inD, Fx.eqD, Fx.isiD, Fx.isDict, Fx.setX, Fx.setXs, Fx.isNew, Fx.fzE, Fx.fzC, Fx.seqD, Fx.flatD, Fx.small, Fx.atI_0, Fx.atI_1, Fx.atI_2, Fx.atI_3, Fx.atI_4, Fx.atI_5]
theorem mo_loop (a b : Cel) (y : Int) : ∀ (n : Nat) (r m : Int), okm n (decide (y % 4 = 0)) r m = true → whE (evE tb_date_of c_date_of_w2) (evS tb_date_of b_date_of_w2) n [a, b, .v (.int r), .v (.int y), .v (.int m)] = some (.nx [a, b, .v (.int (ml n (decide (y % 4 = 0)) r m).1), .v (.int y), .v (.int (ml n (decide (y % 4 = 0)) r m).2)])
  | 0, _, _, h => by cases h
  | n + 1, r, m, h => by
    unfold okm at h
    simp only [Bool.and_eq_true, decide_eq_true_eq] at h
    obtain ⟨⟨h1, h2⟩, h3⟩ := h
    unfold ml
    by_cases c : mlen (decide (y % 4 = 0)) m ≤ r
    · rw [if_pos c] at h3 ⊢
      rw [whE_t (by rw [mo_c _ _ _ _ _ h1 h2, decide_eq_true c]) (mo_b _ _ _ _ _ h1 h2)]
      exact mo_loop a b y n _ _ h3
    · rw [if_neg c, whE_f (by rw [mo_c _ _ _ _ _ h1 h2, decide_eq_false c])]
/-- the day's year, month and number -/
def dY (d : Int) : Int := 4 * (d / 1461) + (yl (d % 1461)).1
def dL (d : Int) : Bool := decide ((yl (d % 1461)).1 % 4 = 0)
def dE (d : Int) : Int × Int := ml 200 (dL d) (yl (d % 1461)).2 1
def dM (d : Int) : Int := (dE d).2
def dN (d : Int) : Int := (dE d).1 + 1
structure DayOk (d : Int) : Prop where
  l : decide (dY d % 4 = 0) = dL d
  m1 : 1 ≤ dM d
  m2 : dM d ≤ 12
  n1 : 1 ≤ dN d
  n2 : dN d ≤ mlen (dL d) (dM d)
  o : okm 200 (dL d) (yl (d % 1461)).2 1 = true
  i : oki 200 (d % 1461) 0 1 = true
  e : il 200 (d % 1461) 0 1 = (dN d - 1, (yl (d % 1461)).1, dM d)
theorem day_ok (d : Int) : DayOk d := by
  have h1 : 0 ≤ d % 1461 := Int.emod_nonneg _ (by decide)
  have h2 : d % 1461 < 1461 := Int.emod_lt_of_pos _ (by decide)
  have c := cal_ok h1 h2
  unfold calOk at c
  simp only [Bool.and_eq_true, decide_eq_true_eq] at c
  obtain ⟨⟨⟨⟨⟨⟨⟨⟨a1, a2⟩, a3⟩, a4⟩, a5⟩, a6⟩, a7⟩, a8⟩, a9⟩ := c
  refine ⟨?_, a6, a7, ?_, ?_, a1, a2, ?_⟩
  · unfold dL dY
    congr 1
    apply propext
    omega
  · show 1 ≤ (ml 200 (decide ((yl (d % 1461)).1 % 4 = 0)) (yl (d % 1461)).2 1).1 + 1
    omega
  · show (ml 200 (decide ((yl (d % 1461)).1 % 4 = 0)) (yl (d % 1461)).2 1).1 + 1 ≤ _
    exact a5
  · rw [a3]
    show _ = ((ml 200 (decide ((yl (d % 1461)).1 % 4 = 0)) (yl (d % 1461)).2 1).1 + 1 - 1, _, _)
    rw [Int.add_sub_cancel]
    rfl
theorem date_of_eq (d : Int) : m_date_of [.int d] = some (.tuple [.int (dY d), .int (dM d), .int (dN d)]) := by
  have h1 : 0 ≤ d % 1461 := Int.emod_nonneg _ (by decide)
  have h2 : d % 1461 < 1461 := Int.emod_lt_of_pos _ (by decide)
  have k := day_ok d
  have lp := yr_loop (.v (.int d)) (.v (.int (d / 1461))) (d / 1461) (d % 1461) .no h1 h2
  have lq := mo_loop (.v (.int d)) (.v (.int (d / 1461))) (dY d) 200 (yl (d % 1461)).2 1 (by rw [k.l]; exact k.o)
  rw [k.l] at lq
  have e3 : 4 * (d / 1461) + (yl (d % 1461)).1 = dY d := rfl
  rw [e3] at lp
  simp [m_date_of, ir_date_of, Fx.run, Fx.evS, Fx.evE, Fx.evEs, Fx.evI, Fx.evP, Fx.o2, Fx.bt, Fx.ixD, Fx.slD, Fx.inD, Fx.eqD, Fx.isiD, Fx.isDict, Fx.setX, Fx.setXs, Fx.isNew, Fx.fzE, Fx.fzC, Fx.seqD, Fx.flatD, Fx.small, Fx.atI_0, Fx.atI_1, Fx.atI_2, Fx.atI_3, Fx.atI_4, Fx.atI_5, sizeLine, lp, lq, show tb_date_of.cs = [.int 1461] from rfl, dM, dN, dE]
theorem from_end_eq (d : Int) : m_from_end [.int d] = some (.int (dN d - mlen (dL d) (dM d) - 1)) := by
  have k := day_ok d
  have e := month_length_eq (dY d) (dM d) k.m1 k.m2
  rw [k.l] at e
  simp [m_from_end, ir_from_end, tb_from_end, Fx.run, Fx.evS, Fx.evE, Fx.evEs, Fx.evI, Fx.evP, Fx.o2, Fx.bt, Fx.ixD, Fx.slD, Fx.inD, Fx.eqD, Fx.isiD, Fx.isDict, Fx.setX, Fx.setXs, Fx.isNew, Fx.fzE, Fx.fzC, Fx.seqD, Fx.flatD, Fx.small, Fx.atI_0, Fx.atI_1, Fx.atI_2, Fx.atI_3, Fx.atI_4, Fx.atI_5, date_of_eq, e]
theorem im_c (a : Cel) (r y m : Int) (h1 : 1 ≤ m) (h2 : m ≤ 12) : evE tb_law_in_month c_law_in_month_w1 [a, .v (.int r), .v (.int y), .v (.int m)] = some (.bool (decide (mlen (decide (y % 4 = 0)) m ≤ r))) := by
  simp [c_law_in_month_w1, tb_law_in_month, law_days_eq y m h1 h2, Fx.run, Fx.evS, Fx.evE, Fx.evEs, Fx.evI, Fx.evP, Fx.o2, Fx.bt, Fx.ixD, Fx.slD, Fx.inD, Fx.eqD, Fx.isiD, Fx.isDict, Fx.setX, Fx.setXs, Fx.isNew, Fx.fzE, Fx.fzC, Fx.seqD, Fx.flatD, Fx.small, Fx.atI_0, Fx.atI_1, Fx.atI_2, Fx.atI_3, Fx.atI_4, Fx.atI_5]
theorem im_b (a : Cel) (r y m : Int) (h1 : 1 ≤ m) (h2 : m ≤ 12) : evS tb_law_in_month b_law_in_month_w1 [a, .v (.int r), .v (.int y), .v (.int m)] = some (.nx [a, .v (.int (r - mlen (decide (y % 4 = 0)) m)), .v (.int (y + m / 12)), .v (.int (m % 12 + 1))]) := by
  simp [b_law_in_month_w1, tb_law_in_month, law_days_eq y m h1 h2, Fx.run, Fx.evS, Fx.evE, Fx.evEs, Fx.evI, Fx.evP, Fx.o2, Fx.bt, Fx.ixD, Fx.slD, Fx.inD, Fx.eqD, Fx.isiD, Fx.isDict, Fx.setX, Fx.setXs, Fx.isNew, Fx.fzE, Fx.fzC, Fx.seqD, Fx.flatD, Fx.small, Fx.atI_0, Fx.atI_1, Fx.atI_2, Fx.atI_3, Fx.atI_4, Fx.atI_5]
theorem im_loop (a : Cel) : ∀ (n : Nat) (r y m : Int), oki n r y m = true → whE (evE tb_law_in_month c_law_in_month_w1) (evS tb_law_in_month b_law_in_month_w1) n [a, .v (.int r), .v (.int y), .v (.int m)] = some (.nx [a, .v (.int (il n r y m).1), .v (.int (il n r y m).2.1), .v (.int (il n r y m).2.2)])
  | 0, _, _, _, h => by cases h
  | n + 1, r, y, m, h => by
    unfold oki at h
    simp only [Bool.and_eq_true, decide_eq_true_eq] at h
    obtain ⟨⟨h1, h2⟩, h3⟩ := h
    unfold il
    by_cases c : mlen (decide (y % 4 = 0)) m ≤ r
    · rw [if_pos c] at h3 ⊢
      rw [whE_t (by rw [im_c _ _ _ _ h1 h2, decide_eq_true c]) (im_b _ _ _ _ h1 h2)]
      exact im_loop a n _ _ _ h3
    · rw [if_neg c, whE_f (by rw [im_c _ _ _ _ h1 h2, decide_eq_false c])]
theorem in_month_eq (d : Int) : m_law_in_month [.int d] = some (.list [.int (dN d), .int (dN d - mlen (dL d) (dM d) - 1)]) := by
  have k := day_ok d
  have lp := im_loop (.v (.int d)) 200 (d % 1461) 0 1 k.i
  rw [k.e] at lp
  have e := law_days_eq (yl (d % 1461)).1 (dM d) k.m1 k.m2
  have e2 : decide ((yl (d % 1461)).1 % 4 = 0) = dL d := rfl
  rw [e2] at e
  have e3 : dN d - 1 - mlen (dL d) (dM d) = dN d - mlen (dL d) (dM d) - 1 := by omega
  simp [m_law_in_month, ir_law_in_month, Fx.run, Fx.evS, Fx.evE, Fx.evEs, Fx.evI, Fx.evP, Fx.o2, Fx.bt, Fx.ixD, Fx.slD, Fx.inD, Fx.eqD, Fx.isiD, Fx.isDict, Fx.setX, Fx.setXs, Fx.isNew, Fx.fzE, Fx.fzC, Fx.seqD, Fx.flatD, Fx.small, Fx.atI_0, Fx.atI_1, Fx.atI_2, Fx.atI_3, Fx.atI_4, Fx.atI_5, sizeLine, lp, e, e3, show tb_law_in_month.fs = [m_law_days] from rfl]

end k08

namespace k08
open PySem L2 Fx
/-! ### words -/
theorem w_once_every : (("once" : PySem.Str) = "every") = False := by simpa using (by decide +kernel : ¬ (("once" : PySem.Str) = "every"))
theorem b_once_every : (("once" : PySem.Str) == "every") = false := by decide +kernel
theorem w_once_week : (("once" : PySem.Str) = "week") = False := by simpa using (by decide +kernel : ¬ (("once" : PySem.Str) = "week"))
theorem b_once_week : (("once" : PySem.Str) == "week") = false := by decide +kernel
theorem w_once_month : (("once" : PySem.Str) = "month") = False := by simpa using (by decide +kernel : ¬ (("once" : PySem.Str) = "month"))
theorem b_once_month : (("once" : PySem.Str) == "month") = false := by decide +kernel
theorem w_once_from : (("once" : PySem.Str) = "from") = False := by simpa using (by decide +kernel : ¬ (("once" : PySem.Str) = "from"))
theorem b_once_from : (("once" : PySem.Str) == "from") = false := by decide +kernel
theorem w_once_until : (("once" : PySem.Str) = "until") = False := by simpa using (by decide +kernel : ¬ (("once" : PySem.Str) = "until"))
theorem b_once_until : (("once" : PySem.Str) == "until") = false := by decide +kernel
theorem w_once_also : (("once" : PySem.Str) = "also") = False := by simpa using (by decide +kernel : ¬ (("once" : PySem.Str) = "also"))
theorem b_once_also : (("once" : PySem.Str) == "also") = false := by decide +kernel
theorem w_once_but : (("once" : PySem.Str) = "but") = False := by simpa using (by decide +kernel : ¬ (("once" : PySem.Str) = "but"))
theorem b_once_but : (("once" : PySem.Str) == "but") = false := by decide +kernel
theorem w_every_once : (("every" : PySem.Str) = "once") = False := by simpa using (by decide +kernel : ¬ (("every" : PySem.Str) = "once"))
theorem b_every_once : (("every" : PySem.Str) == "once") = false := by decide +kernel
theorem w_every_week : (("every" : PySem.Str) = "week") = False := by simpa using (by decide +kernel : ¬ (("every" : PySem.Str) = "week"))
theorem b_every_week : (("every" : PySem.Str) == "week") = false := by decide +kernel
theorem w_every_month : (("every" : PySem.Str) = "month") = False := by simpa using (by decide +kernel : ¬ (("every" : PySem.Str) = "month"))
theorem b_every_month : (("every" : PySem.Str) == "month") = false := by decide +kernel
theorem w_every_from : (("every" : PySem.Str) = "from") = False := by simpa using (by decide +kernel : ¬ (("every" : PySem.Str) = "from"))
theorem b_every_from : (("every" : PySem.Str) == "from") = false := by decide +kernel
theorem w_every_until : (("every" : PySem.Str) = "until") = False := by simpa using (by decide +kernel : ¬ (("every" : PySem.Str) = "until"))
theorem b_every_until : (("every" : PySem.Str) == "until") = false := by decide +kernel
theorem w_every_also : (("every" : PySem.Str) = "also") = False := by simpa using (by decide +kernel : ¬ (("every" : PySem.Str) = "also"))
theorem b_every_also : (("every" : PySem.Str) == "also") = false := by decide +kernel
theorem w_every_but : (("every" : PySem.Str) = "but") = False := by simpa using (by decide +kernel : ¬ (("every" : PySem.Str) = "but"))
theorem b_every_but : (("every" : PySem.Str) == "but") = false := by decide +kernel
theorem w_week_once : (("week" : PySem.Str) = "once") = False := by simpa using (by decide +kernel : ¬ (("week" : PySem.Str) = "once"))
theorem b_week_once : (("week" : PySem.Str) == "once") = false := by decide +kernel
theorem w_week_every : (("week" : PySem.Str) = "every") = False := by simpa using (by decide +kernel : ¬ (("week" : PySem.Str) = "every"))
theorem b_week_every : (("week" : PySem.Str) == "every") = false := by decide +kernel
theorem w_week_month : (("week" : PySem.Str) = "month") = False := by simpa using (by decide +kernel : ¬ (("week" : PySem.Str) = "month"))
theorem b_week_month : (("week" : PySem.Str) == "month") = false := by decide +kernel
theorem w_week_from : (("week" : PySem.Str) = "from") = False := by simpa using (by decide +kernel : ¬ (("week" : PySem.Str) = "from"))
theorem b_week_from : (("week" : PySem.Str) == "from") = false := by decide +kernel
theorem w_week_until : (("week" : PySem.Str) = "until") = False := by simpa using (by decide +kernel : ¬ (("week" : PySem.Str) = "until"))
theorem b_week_until : (("week" : PySem.Str) == "until") = false := by decide +kernel
theorem w_week_also : (("week" : PySem.Str) = "also") = False := by simpa using (by decide +kernel : ¬ (("week" : PySem.Str) = "also"))
theorem b_week_also : (("week" : PySem.Str) == "also") = false := by decide +kernel
theorem w_week_but : (("week" : PySem.Str) = "but") = False := by simpa using (by decide +kernel : ¬ (("week" : PySem.Str) = "but"))
theorem b_week_but : (("week" : PySem.Str) == "but") = false := by decide +kernel
theorem w_month_once : (("month" : PySem.Str) = "once") = False := by simpa using (by decide +kernel : ¬ (("month" : PySem.Str) = "once"))
theorem b_month_once : (("month" : PySem.Str) == "once") = false := by decide +kernel
theorem w_month_every : (("month" : PySem.Str) = "every") = False := by simpa using (by decide +kernel : ¬ (("month" : PySem.Str) = "every"))
theorem b_month_every : (("month" : PySem.Str) == "every") = false := by decide +kernel
theorem w_month_week : (("month" : PySem.Str) = "week") = False := by simpa using (by decide +kernel : ¬ (("month" : PySem.Str) = "week"))
theorem b_month_week : (("month" : PySem.Str) == "week") = false := by decide +kernel
theorem w_month_from : (("month" : PySem.Str) = "from") = False := by simpa using (by decide +kernel : ¬ (("month" : PySem.Str) = "from"))
theorem b_month_from : (("month" : PySem.Str) == "from") = false := by decide +kernel
theorem w_month_until : (("month" : PySem.Str) = "until") = False := by simpa using (by decide +kernel : ¬ (("month" : PySem.Str) = "until"))
theorem b_month_until : (("month" : PySem.Str) == "until") = false := by decide +kernel
theorem w_month_also : (("month" : PySem.Str) = "also") = False := by simpa using (by decide +kernel : ¬ (("month" : PySem.Str) = "also"))
theorem b_month_also : (("month" : PySem.Str) == "also") = false := by decide +kernel
theorem w_month_but : (("month" : PySem.Str) = "but") = False := by simpa using (by decide +kernel : ¬ (("month" : PySem.Str) = "but"))
theorem b_month_but : (("month" : PySem.Str) == "but") = false := by decide +kernel
theorem w_from_once : (("from" : PySem.Str) = "once") = False := by simpa using (by decide +kernel : ¬ (("from" : PySem.Str) = "once"))
theorem b_from_once : (("from" : PySem.Str) == "once") = false := by decide +kernel
theorem w_from_every : (("from" : PySem.Str) = "every") = False := by simpa using (by decide +kernel : ¬ (("from" : PySem.Str) = "every"))
theorem b_from_every : (("from" : PySem.Str) == "every") = false := by decide +kernel
theorem w_from_week : (("from" : PySem.Str) = "week") = False := by simpa using (by decide +kernel : ¬ (("from" : PySem.Str) = "week"))
theorem b_from_week : (("from" : PySem.Str) == "week") = false := by decide +kernel
theorem w_from_month : (("from" : PySem.Str) = "month") = False := by simpa using (by decide +kernel : ¬ (("from" : PySem.Str) = "month"))
theorem b_from_month : (("from" : PySem.Str) == "month") = false := by decide +kernel
theorem w_from_until : (("from" : PySem.Str) = "until") = False := by simpa using (by decide +kernel : ¬ (("from" : PySem.Str) = "until"))
theorem b_from_until : (("from" : PySem.Str) == "until") = false := by decide +kernel
theorem w_from_also : (("from" : PySem.Str) = "also") = False := by simpa using (by decide +kernel : ¬ (("from" : PySem.Str) = "also"))
theorem b_from_also : (("from" : PySem.Str) == "also") = false := by decide +kernel
theorem w_from_but : (("from" : PySem.Str) = "but") = False := by simpa using (by decide +kernel : ¬ (("from" : PySem.Str) = "but"))
theorem b_from_but : (("from" : PySem.Str) == "but") = false := by decide +kernel
theorem w_until_once : (("until" : PySem.Str) = "once") = False := by simpa using (by decide +kernel : ¬ (("until" : PySem.Str) = "once"))
theorem b_until_once : (("until" : PySem.Str) == "once") = false := by decide +kernel
theorem w_until_every : (("until" : PySem.Str) = "every") = False := by simpa using (by decide +kernel : ¬ (("until" : PySem.Str) = "every"))
theorem b_until_every : (("until" : PySem.Str) == "every") = false := by decide +kernel
theorem w_until_week : (("until" : PySem.Str) = "week") = False := by simpa using (by decide +kernel : ¬ (("until" : PySem.Str) = "week"))
theorem b_until_week : (("until" : PySem.Str) == "week") = false := by decide +kernel
theorem w_until_month : (("until" : PySem.Str) = "month") = False := by simpa using (by decide +kernel : ¬ (("until" : PySem.Str) = "month"))
theorem b_until_month : (("until" : PySem.Str) == "month") = false := by decide +kernel
theorem w_until_from : (("until" : PySem.Str) = "from") = False := by simpa using (by decide +kernel : ¬ (("until" : PySem.Str) = "from"))
theorem b_until_from : (("until" : PySem.Str) == "from") = false := by decide +kernel
theorem w_until_also : (("until" : PySem.Str) = "also") = False := by simpa using (by decide +kernel : ¬ (("until" : PySem.Str) = "also"))
theorem b_until_also : (("until" : PySem.Str) == "also") = false := by decide +kernel
theorem w_until_but : (("until" : PySem.Str) = "but") = False := by simpa using (by decide +kernel : ¬ (("until" : PySem.Str) = "but"))
theorem b_until_but : (("until" : PySem.Str) == "but") = false := by decide +kernel
theorem w_also_once : (("also" : PySem.Str) = "once") = False := by simpa using (by decide +kernel : ¬ (("also" : PySem.Str) = "once"))
theorem b_also_once : (("also" : PySem.Str) == "once") = false := by decide +kernel
theorem w_also_every : (("also" : PySem.Str) = "every") = False := by simpa using (by decide +kernel : ¬ (("also" : PySem.Str) = "every"))
theorem b_also_every : (("also" : PySem.Str) == "every") = false := by decide +kernel
theorem w_also_week : (("also" : PySem.Str) = "week") = False := by simpa using (by decide +kernel : ¬ (("also" : PySem.Str) = "week"))
theorem b_also_week : (("also" : PySem.Str) == "week") = false := by decide +kernel
theorem w_also_month : (("also" : PySem.Str) = "month") = False := by simpa using (by decide +kernel : ¬ (("also" : PySem.Str) = "month"))
theorem b_also_month : (("also" : PySem.Str) == "month") = false := by decide +kernel
theorem w_also_from : (("also" : PySem.Str) = "from") = False := by simpa using (by decide +kernel : ¬ (("also" : PySem.Str) = "from"))
theorem b_also_from : (("also" : PySem.Str) == "from") = false := by decide +kernel
theorem w_also_until : (("also" : PySem.Str) = "until") = False := by simpa using (by decide +kernel : ¬ (("also" : PySem.Str) = "until"))
theorem b_also_until : (("also" : PySem.Str) == "until") = false := by decide +kernel
theorem w_also_but : (("also" : PySem.Str) = "but") = False := by simpa using (by decide +kernel : ¬ (("also" : PySem.Str) = "but"))
theorem b_also_but : (("also" : PySem.Str) == "but") = false := by decide +kernel
theorem w_but_once : (("but" : PySem.Str) = "once") = False := by simpa using (by decide +kernel : ¬ (("but" : PySem.Str) = "once"))
theorem b_but_once : (("but" : PySem.Str) == "once") = false := by decide +kernel
theorem w_but_every : (("but" : PySem.Str) = "every") = False := by simpa using (by decide +kernel : ¬ (("but" : PySem.Str) = "every"))
theorem b_but_every : (("but" : PySem.Str) == "every") = false := by decide +kernel
theorem w_but_week : (("but" : PySem.Str) = "week") = False := by simpa using (by decide +kernel : ¬ (("but" : PySem.Str) = "week"))
theorem b_but_week : (("but" : PySem.Str) == "week") = false := by decide +kernel
theorem w_but_month : (("but" : PySem.Str) = "month") = False := by simpa using (by decide +kernel : ¬ (("but" : PySem.Str) = "month"))
theorem b_but_month : (("but" : PySem.Str) == "month") = false := by decide +kernel
theorem w_but_from : (("but" : PySem.Str) = "from") = False := by simpa using (by decide +kernel : ¬ (("but" : PySem.Str) = "from"))
theorem b_but_from : (("but" : PySem.Str) == "from") = false := by decide +kernel
theorem w_but_until : (("but" : PySem.Str) = "until") = False := by simpa using (by decide +kernel : ¬ (("but" : PySem.Str) = "until"))
theorem b_but_until : (("but" : PySem.Str) == "until") = false := by decide +kernel
theorem w_but_also : (("but" : PySem.Str) = "also") = False := by simpa using (by decide +kernel : ¬ (("but" : PySem.Str) = "also"))
theorem b_but_also : (("but" : PySem.Str) == "also") = false := by decide +kernel

end k08

namespace k08
open PySem L2 Fx
/-! ### plain rules -/
inductive Pl where
  | once (h n : Int)
  | every (h n s : Int)
  | week (ds : List Int) (h n : Int)
  | month (d h n : Int)
def Pl.d : Pl → D
  | .once h n => .tuple [.str "once", .int h, .int n]
  | .every h n s => .tuple [.str "every", .int h, .int n, .int s]
  | .week ds h n => .tuple [.str "week", .tuple (ds.map PyData.int), .int h, .int n]
  | .month d h n => .tuple [.str "month", .int d, .int h, .int n]
def Pl.size : Pl → Int
  | .once _ n => n
  | .every _ n _ => n
  | .week _ _ n => n
  | .month _ _ n => n
def Pl.Good : Pl → Prop
  | .once _ _ => True
  | .every _ _ s => 1 ≤ s ∧ s ≤ 1000000
  | .week ds _ _ => ds ≠ []
  | .month d _ _ => d ≠ 0
def inI (x : Int) (ds : List Int) : Bool := ds.any fun y => y == x
/-- where the day stands from its month's end -/
def fe (d : Int) : Int := dN d - mlen (dL d) (dM d) - 1
def plB : Pl → Int → Bool
  | .once h _, x => decide (x = h)
  | .every h _ s, x => decide (h ≤ x) && decide ((x - h) % s = 0)
  | .week ds h _, x => decide (x % 24 = h) && inI (x / 24 % 7) ds
  | .month d h _, x => decide (x % 24 = h) && (decide (dN (x / 24) = d) || decide (fe (x / 24) = d))
theorem inF_ints (x : Int) : ∀ ds : List Int, inF (.int x) (ds.map PyData.int) = inI x ds
  | [] => rfl
  | d :: ds => by
    show (d == x || inF (.int x) (ds.map PyData.int)) = (d == x || inI x ds)
    rw [inF_ints x ds]
theorem flat_ints : ∀ ds : List Int, (ds.map PyData.int).all flatD = true
  | [] => rfl
  | d :: ds => by
    show (true && (ds.map PyData.int).all flatD) = true
    rw [flat_ints ds] <;> rfl
theorem isin_tup (x : Int) (ds : List Int) : o2 .isin (.int x) (.tuple (ds.map PyData.int)) = some (.bool (inI x ds)) := by
  show (if (true && (ds.map PyData.int).all flatD) = true then some (inF (.int x) (ds.map PyData.int)) else _).map PyData.bool = _
  rw [flat_ints, inF_ints] <;> rfl
theorem isin_lst (x : Int) (ds : List Int) : o2 .isin (.int x) (.list (ds.map PyData.int)) = some (.bool (inI x ds)) := by
  show (if (true && (ds.map PyData.int).all flatD) = true then some (inF (.int x) (ds.map PyData.int)) else _).map PyData.bool = _
  rw [flat_ints, inF_ints] <;> rfl

end k08

namespace k08
open PySem L2 Fx
theorem comes_eq (h s x : Int) (hs : 1 ≤ s) : m_comes_again [.int h, .int s, .int x] = some (.bool (decide (h ≤ x) && decide ((x - h) % s = 0))) := by
  have h0 : (0 : Int) < s := by omega
  by_cases c : x = h
  · subst c
    simp [m_comes_again, ir_comes_again, tb_comes_again, Fx.run, Fx.evS, Fx.evE, Fx.evEs, Fx.evI, Fx.evP, Fx.o2, Fx.bt, Fx.ixD, Fx.slD, Fx.inD, Fx.eqD, Fx.isiD, Fx.isDict, Fx.setX, Fx.setXs, Fx.isNew, Fx.fzE, Fx.fzC, Fx.seqD, Fx.flatD, Fx.small, Fx.atI_0, Fx.atI_1, Fx.atI_2, Fx.atI_3, Fx.atI_4, Fx.atI_5]
  · by_cases c2 : h < x
    · have c3 : h ≤ x := by omega
      simp [m_comes_again, ir_comes_again, tb_comes_again, Fx.run, Fx.evS, Fx.evE, Fx.evEs, Fx.evI, Fx.evP, Fx.o2, Fx.bt, Fx.ixD, Fx.slD, Fx.inD, Fx.eqD, Fx.isiD, Fx.isDict, Fx.setX, Fx.setXs, Fx.isNew, Fx.fzE, Fx.fzC, Fx.seqD, Fx.flatD, Fx.small, Fx.atI_0, Fx.atI_1, Fx.atI_2, Fx.atI_3, Fx.atI_4, Fx.atI_5, c, c2, c3, h0]
    · have c3 : ¬ h ≤ x := by omega
      simp [m_comes_again, ir_comes_again, tb_comes_again, Fx.run, Fx.evS, Fx.evE, Fx.evEs, Fx.evI, Fx.evP, Fx.o2, Fx.bt, Fx.ixD, Fx.slD, Fx.inD, Fx.eqD, Fx.isiD, Fx.isDict, Fx.setX, Fx.setXs, Fx.isNew, Fx.fzE, Fx.fzC, Fx.seqD, Fx.flatD, Fx.small, Fx.atI_0, Fx.atI_1, Fx.atI_2, Fx.atI_3, Fx.atI_4, Fx.atI_5, c, c2, c3]
theorem fe_neg (d : Int) : fe d < 0 := by
  have k := day_ok d
  have := k.n2
  unfold fe
  omega
theorem day_of_month_eq (w d : Int) (hw : w ≠ 0) : m_is_day_of_month [.int w, .int d] = some (.bool (decide (dN d = w) || decide (fe d = w))) := by
  have k := day_ok d
  have k1 := k.n1
  have k2 := fe_neg d
  have e := from_end_eq d
  have e2 : dN d - mlen (dL d) (dM d) - 1 = fe d := rfl
  rw [e2] at e
  by_cases c : w < 0
  · have c2 : ¬ dN d = w := by omega
    simp [m_is_day_of_month, ir_is_day_of_month, tb_is_day_of_month, Fx.run, Fx.evS, Fx.evE, Fx.evEs, Fx.evI, Fx.evP, Fx.o2, Fx.bt, Fx.ixD, Fx.slD, Fx.inD, Fx.eqD, Fx.isiD, Fx.isDict, Fx.setX, Fx.setXs, Fx.isNew, Fx.fzE, Fx.fzC, Fx.seqD, Fx.flatD, Fx.small, Fx.atI_0, Fx.atI_1, Fx.atI_2, Fx.atI_3, Fx.atI_4, Fx.atI_5, c, e, c2]
  · have c2 : ¬ fe d = w := by omega
    simp [m_is_day_of_month, ir_is_day_of_month, tb_is_day_of_month, Fx.run, Fx.evS, Fx.evE, Fx.evEs, Fx.evI, Fx.evP, Fx.o2, Fx.bt, Fx.ixD, Fx.slD, Fx.inD, Fx.eqD, Fx.isiD, Fx.isDict, Fx.setX, Fx.setXs, Fx.isNew, Fx.fzE, Fx.fzC, Fx.seqD, Fx.flatD, Fx.small, Fx.atI_0, Fx.atI_1, Fx.atI_2, Fx.atI_3, Fx.atI_4, Fx.atI_5, c, date_of_eq, c2]

end k08

namespace k08
open PySem L2 Fx
theorem begins_plain_eq (p : Pl) (g : p.Good) (x : Int) : m_begins_plain [p.d, .int x] = some (.bool (plB p x)) := by
  cases p with
  | once h n => simp [m_begins_plain, ir_begins_plain, tb_begins_plain, Pl.d, plB, Fx.run, Fx.evS, Fx.evE, Fx.evEs, Fx.evI, Fx.evP, Fx.o2, Fx.bt, Fx.ixD, Fx.slD, Fx.inD, Fx.eqD, Fx.isiD, Fx.isDict, Fx.setX, Fx.setXs, Fx.isNew, Fx.fzE, Fx.fzC, Fx.seqD, Fx.flatD, Fx.small, Fx.atI_0, Fx.atI_1, Fx.atI_2, Fx.atI_3, Fx.atI_4, Fx.atI_5, w_once_every, b_once_every, w_once_week, b_once_week, w_once_month, b_once_month, w_once_from, b_once_from, w_once_until, b_once_until, w_once_also, b_once_also, w_once_but, b_once_but, w_every_once, b_every_once, w_every_week, b_every_week, w_every_month, b_every_month, w_every_from, b_every_from, w_every_until, b_every_until, w_every_also, b_every_also, w_every_but, b_every_but, w_week_once, b_week_once, w_week_every, b_week_every, w_week_month, b_week_month, w_week_from, b_week_from, w_week_until, b_week_until, w_week_also, b_week_also, w_week_but, b_week_but, w_month_once, b_month_once, w_month_every, b_month_every, w_month_week, b_month_week, w_month_from, b_month_from, w_month_until, b_month_until, w_month_also, b_month_also, w_month_but, b_month_but, w_from_once, b_from_once, w_from_every, b_from_every, w_from_week, b_from_week, w_from_month, b_from_month, w_from_until, b_from_until, w_from_also, b_from_also, w_from_but, b_from_but, w_until_once, b_until_once, w_until_every, b_until_every, w_until_week, b_until_week, w_until_month, b_until_month, w_until_from, b_until_from, w_until_also, b_until_also, w_until_but, b_until_but, w_also_once, b_also_once, w_also_every, b_also_every, w_also_week, b_also_week, w_also_month, b_also_month, w_also_from, b_also_from, w_also_until, b_also_until, w_also_but, b_also_but, w_but_once, b_but_once, w_but_every, b_but_every, w_but_week, b_but_week, w_but_month, b_but_month, w_but_from, b_but_from, w_but_until, b_but_until, w_but_also, b_but_also]
  | every h n s => simp [m_begins_plain, ir_begins_plain, tb_begins_plain, Pl.d, plB, Fx.run, Fx.evS, Fx.evE, Fx.evEs, Fx.evI, Fx.evP, Fx.o2, Fx.bt, Fx.ixD, Fx.slD, Fx.inD, Fx.eqD, Fx.isiD, Fx.isDict, Fx.setX, Fx.setXs, Fx.isNew, Fx.fzE, Fx.fzC, Fx.seqD, Fx.flatD, Fx.small, Fx.atI_0, Fx.atI_1, Fx.atI_2, Fx.atI_3, Fx.atI_4, Fx.atI_5, w_once_every, b_once_every, w_once_week, b_once_week, w_once_month, b_once_month, w_once_from, b_once_from, w_once_until, b_once_until, w_once_also, b_once_also, w_once_but, b_once_but, w_every_once, b_every_once, w_every_week, b_every_week, w_every_month, b_every_month, w_every_from, b_every_from, w_every_until, b_every_until, w_every_also, b_every_also, w_every_but, b_every_but, w_week_once, b_week_once, w_week_every, b_week_every, w_week_month, b_week_month, w_week_from, b_week_from, w_week_until, b_week_until, w_week_also, b_week_also, w_week_but, b_week_but, w_month_once, b_month_once, w_month_every, b_month_every, w_month_week, b_month_week, w_month_from, b_month_from, w_month_until, b_month_until, w_month_also, b_month_also, w_month_but, b_month_but, w_from_once, b_from_once, w_from_every, b_from_every, w_from_week, b_from_week, w_from_month, b_from_month, w_from_until, b_from_until, w_from_also, b_from_also, w_from_but, b_from_but, w_until_once, b_until_once, w_until_every, b_until_every, w_until_week, b_until_week, w_until_month, b_until_month, w_until_from, b_until_from, w_until_also, b_until_also, w_until_but, b_until_but, w_also_once, b_also_once, w_also_every, b_also_every, w_also_week, b_also_week, w_also_month, b_also_month, w_also_from, b_also_from, w_also_until, b_also_until, w_also_but, b_also_but, w_but_once, b_but_once, w_but_every, b_but_every, w_but_week, b_but_week, w_but_month, b_but_month, w_but_from, b_but_from, w_but_until, b_but_until, w_but_also, b_but_also, comes_eq h s x g.1]
  | week ds h n =>
    have e := isin_tup (x / 24 % 7) ds
    by_cases c : x % 24 = h
    · simp [m_begins_plain, ir_begins_plain, tb_begins_plain, Pl.d, plB, Fx.run, Fx.evS, Fx.evE, Fx.evEs, Fx.evI, Fx.evP, Fx.o2, Fx.bt, Fx.ixD, Fx.slD, Fx.inD, Fx.eqD, Fx.isiD, Fx.isDict, Fx.setX, Fx.setXs, Fx.isNew, Fx.fzE, Fx.fzC, Fx.seqD, Fx.flatD, Fx.small, Fx.atI_0, Fx.atI_1, Fx.atI_2, Fx.atI_3, Fx.atI_4, Fx.atI_5, w_once_every, b_once_every, w_once_week, b_once_week, w_once_month, b_once_month, w_once_from, b_once_from, w_once_until, b_once_until, w_once_also, b_once_also, w_once_but, b_once_but, w_every_once, b_every_once, w_every_week, b_every_week, w_every_month, b_every_month, w_every_from, b_every_from, w_every_until, b_every_until, w_every_also, b_every_also, w_every_but, b_every_but, w_week_once, b_week_once, w_week_every, b_week_every, w_week_month, b_week_month, w_week_from, b_week_from, w_week_until, b_week_until, w_week_also, b_week_also, w_week_but, b_week_but, w_month_once, b_month_once, w_month_every, b_month_every, w_month_week, b_month_week, w_month_from, b_month_from, w_month_until, b_month_until, w_month_also, b_month_also, w_month_but, b_month_but, w_from_once, b_from_once, w_from_every, b_from_every, w_from_week, b_from_week, w_from_month, b_from_month, w_from_until, b_from_until, w_from_also, b_from_also, w_from_but, b_from_but, w_until_once, b_until_once, w_until_every, b_until_every, w_until_week, b_until_week, w_until_month, b_until_month, w_until_from, b_until_from, w_until_also, b_until_also, w_until_but, b_until_but, w_also_once, b_also_once, w_also_every, b_also_every, w_also_week, b_also_week, w_also_month, b_also_month, w_also_from, b_also_from, w_also_until, b_also_until, w_also_but, b_also_but, w_but_once, b_but_once, w_but_every, b_but_every, w_but_week, b_but_week, w_but_month, b_but_month, w_but_from, b_but_from, w_but_until, b_but_until, w_but_also, b_but_also, c] at e ⊢
      exact e
    · simp [m_begins_plain, ir_begins_plain, tb_begins_plain, Pl.d, plB, Fx.run, Fx.evS, Fx.evE, Fx.evEs, Fx.evI, Fx.evP, Fx.o2, Fx.bt, Fx.ixD, Fx.slD, Fx.inD, Fx.eqD, Fx.isiD, Fx.isDict, Fx.setX, Fx.setXs, Fx.isNew, Fx.fzE, Fx.fzC, Fx.seqD, Fx.flatD, Fx.small, Fx.atI_0, Fx.atI_1, Fx.atI_2, Fx.atI_3, Fx.atI_4, Fx.atI_5, w_once_every, b_once_every, w_once_week, b_once_week, w_once_month, b_once_month, w_once_from, b_once_from, w_once_until, b_once_until, w_once_also, b_once_also, w_once_but, b_once_but, w_every_once, b_every_once, w_every_week, b_every_week, w_every_month, b_every_month, w_every_from, b_every_from, w_every_until, b_every_until, w_every_also, b_every_also, w_every_but, b_every_but, w_week_once, b_week_once, w_week_every, b_week_every, w_week_month, b_week_month, w_week_from, b_week_from, w_week_until, b_week_until, w_week_also, b_week_also, w_week_but, b_week_but, w_month_once, b_month_once, w_month_every, b_month_every, w_month_week, b_month_week, w_month_from, b_month_from, w_month_until, b_month_until, w_month_also, b_month_also, w_month_but, b_month_but, w_from_once, b_from_once, w_from_every, b_from_every, w_from_week, b_from_week, w_from_month, b_from_month, w_from_until, b_from_until, w_from_also, b_from_also, w_from_but, b_from_but, w_until_once, b_until_once, w_until_every, b_until_every, w_until_week, b_until_week, w_until_month, b_until_month, w_until_from, b_until_from, w_until_also, b_until_also, w_until_but, b_until_but, w_also_once, b_also_once, w_also_every, b_also_every, w_also_week, b_also_week, w_also_month, b_also_month, w_also_from, b_also_from, w_also_until, b_also_until, w_also_but, b_also_but, w_but_once, b_but_once, w_but_every, b_but_every, w_but_week, b_but_week, w_but_month, b_but_month, w_but_from, b_but_from, w_but_until, b_but_until, w_but_also, b_but_also, c]
  | month d h n =>
    have e := day_of_month_eq d (x / 24) g
    by_cases c : x % 24 = h
    · simp [m_begins_plain, ir_begins_plain, tb_begins_plain, Pl.d, plB, Fx.run, Fx.evS, Fx.evE, Fx.evEs, Fx.evI, Fx.evP, Fx.o2, Fx.bt, Fx.ixD, Fx.slD, Fx.inD, Fx.eqD, Fx.isiD, Fx.isDict, Fx.setX, Fx.setXs, Fx.isNew, Fx.fzE, Fx.fzC, Fx.seqD, Fx.flatD, Fx.small, Fx.atI_0, Fx.atI_1, Fx.atI_2, Fx.atI_3, Fx.atI_4, Fx.atI_5, w_once_every, b_once_every, w_once_week, b_once_week, w_once_month, b_once_month, w_once_from, b_once_from, w_once_until, b_once_until, w_once_also, b_once_also, w_once_but, b_once_but, w_every_once, b_every_once, w_every_week, b_every_week, w_every_month, b_every_month, w_every_from, b_every_from, w_every_until, b_every_until, w_every_also, b_every_also, w_every_but, b_every_but, w_week_once, b_week_once, w_week_every, b_week_every, w_week_month, b_week_month, w_week_from, b_week_from, w_week_until, b_week_until, w_week_also, b_week_also, w_week_but, b_week_but, w_month_once, b_month_once, w_month_every, b_month_every, w_month_week, b_month_week, w_month_from, b_month_from, w_month_until, b_month_until, w_month_also, b_month_also, w_month_but, b_month_but, w_from_once, b_from_once, w_from_every, b_from_every, w_from_week, b_from_week, w_from_month, b_from_month, w_from_until, b_from_until, w_from_also, b_from_also, w_from_but, b_from_but, w_until_once, b_until_once, w_until_every, b_until_every, w_until_week, b_until_week, w_until_month, b_until_month, w_until_from, b_until_from, w_until_also, b_until_also, w_until_but, b_until_but, w_also_once, b_also_once, w_also_every, b_also_every, w_also_week, b_also_week, w_also_month, b_also_month, w_also_from, b_also_from, w_also_until, b_also_until, w_also_but, b_also_but, w_but_once, b_but_once, w_but_every, b_but_every, w_but_week, b_but_week, w_but_month, b_but_month, w_but_from, b_but_from, w_but_until, b_but_until, w_but_also, b_but_also, c, e]
    · simp [m_begins_plain, ir_begins_plain, tb_begins_plain, Pl.d, plB, Fx.run, Fx.evS, Fx.evE, Fx.evEs, Fx.evI, Fx.evP, Fx.o2, Fx.bt, Fx.ixD, Fx.slD, Fx.inD, Fx.eqD, Fx.isiD, Fx.isDict, Fx.setX, Fx.setXs, Fx.isNew, Fx.fzE, Fx.fzC, Fx.seqD, Fx.flatD, Fx.small, Fx.atI_0, Fx.atI_1, Fx.atI_2, Fx.atI_3, Fx.atI_4, Fx.atI_5, w_once_every, b_once_every, w_once_week, b_once_week, w_once_month, b_once_month, w_once_from, b_once_from, w_once_until, b_once_until, w_once_also, b_once_also, w_once_but, b_once_but, w_every_once, b_every_once, w_every_week, b_every_week, w_every_month, b_every_month, w_every_from, b_every_from, w_every_until, b_every_until, w_every_also, b_every_also, w_every_but, b_every_but, w_week_once, b_week_once, w_week_every, b_week_every, w_week_month, b_week_month, w_week_from, b_week_from, w_week_until, b_week_until, w_week_also, b_week_also, w_week_but, b_week_but, w_month_once, b_month_once, w_month_every, b_month_every, w_month_week, b_month_week, w_month_from, b_month_from, w_month_until, b_month_until, w_month_also, b_month_also, w_month_but, b_month_but, w_from_once, b_from_once, w_from_every, b_from_every, w_from_week, b_from_week, w_from_month, b_from_month, w_from_until, b_from_until, w_from_also, b_from_also, w_from_but, b_from_but, w_until_once, b_until_once, w_until_every, b_until_every, w_until_week, b_until_week, w_until_month, b_until_month, w_until_from, b_until_from, w_until_also, b_until_also, w_until_but, b_until_but, w_also_once, b_also_once, w_also_every, b_also_every, w_also_week, b_also_week, w_also_month, b_also_month, w_also_from, b_also_from, w_also_until, b_also_until, w_also_but, b_also_but, w_but_once, b_but_once, w_but_every, b_but_every, w_but_week, b_but_week, w_but_month, b_but_month, w_but_from, b_but_from, w_but_until, b_but_until, w_but_also, b_but_also, c]
theorem law_plain_begins_eq (p : Pl) (g : p.Good) (x : Int) (hx : 0 ≤ x) : m_law_plain_begins [p.d, .int x] = some (.bool (plB p x)) := by
  have nx : ¬ x < 0 := by omega
  cases p with
  | once h n => simp [m_law_plain_begins, ir_law_plain_begins, tb_law_plain_begins, Pl.d, plB, Fx.run, Fx.evS, Fx.evE, Fx.evEs, Fx.evI, Fx.evP, Fx.o2, Fx.bt, Fx.ixD, Fx.slD, Fx.inD, Fx.eqD, Fx.isiD, Fx.isDict, Fx.setX, Fx.setXs, Fx.isNew, Fx.fzE, Fx.fzC, Fx.seqD, Fx.flatD, Fx.small, Fx.atI_0, Fx.atI_1, Fx.atI_2, Fx.atI_3, Fx.atI_4, Fx.atI_5, w_once_every, b_once_every, w_once_week, b_once_week, w_once_month, b_once_month, w_once_from, b_once_from, w_once_until, b_once_until, w_once_also, b_once_also, w_once_but, b_once_but, w_every_once, b_every_once, w_every_week, b_every_week, w_every_month, b_every_month, w_every_from, b_every_from, w_every_until, b_every_until, w_every_also, b_every_also, w_every_but, b_every_but, w_week_once, b_week_once, w_week_every, b_week_every, w_week_month, b_week_month, w_week_from, b_week_from, w_week_until, b_week_until, w_week_also, b_week_also, w_week_but, b_week_but, w_month_once, b_month_once, w_month_every, b_month_every, w_month_week, b_month_week, w_month_from, b_month_from, w_month_until, b_month_until, w_month_also, b_month_also, w_month_but, b_month_but, w_from_once, b_from_once, w_from_every, b_from_every, w_from_week, b_from_week, w_from_month, b_from_month, w_from_until, b_from_until, w_from_also, b_from_also, w_from_but, b_from_but, w_until_once, b_until_once, w_until_every, b_until_every, w_until_week, b_until_week, w_until_month, b_until_month, w_until_from, b_until_from, w_until_also, b_until_also, w_until_but, b_until_but, w_also_once, b_also_once, w_also_every, b_also_every, w_also_week, b_also_week, w_also_month, b_also_month, w_also_from, b_also_from, w_also_until, b_also_until, w_also_but, b_also_but, w_but_once, b_but_once, w_but_every, b_but_every, w_but_week, b_but_week, w_but_month, b_but_month, w_but_from, b_but_from, w_but_until, b_but_until, w_but_also, b_but_also]
  | every h n s =>
    have h0 : (0 : Int) < s := by have := g.1; omega
    by_cases c : h ≤ x
    · simp [m_law_plain_begins, ir_law_plain_begins, tb_law_plain_begins, Pl.d, plB, Fx.run, Fx.evS, Fx.evE, Fx.evEs, Fx.evI, Fx.evP, Fx.o2, Fx.bt, Fx.ixD, Fx.slD, Fx.inD, Fx.eqD, Fx.isiD, Fx.isDict, Fx.setX, Fx.setXs, Fx.isNew, Fx.fzE, Fx.fzC, Fx.seqD, Fx.flatD, Fx.small, Fx.atI_0, Fx.atI_1, Fx.atI_2, Fx.atI_3, Fx.atI_4, Fx.atI_5, w_once_every, b_once_every, w_once_week, b_once_week, w_once_month, b_once_month, w_once_from, b_once_from, w_once_until, b_once_until, w_once_also, b_once_also, w_once_but, b_once_but, w_every_once, b_every_once, w_every_week, b_every_week, w_every_month, b_every_month, w_every_from, b_every_from, w_every_until, b_every_until, w_every_also, b_every_also, w_every_but, b_every_but, w_week_once, b_week_once, w_week_every, b_week_every, w_week_month, b_week_month, w_week_from, b_week_from, w_week_until, b_week_until, w_week_also, b_week_also, w_week_but, b_week_but, w_month_once, b_month_once, w_month_every, b_month_every, w_month_week, b_month_week, w_month_from, b_month_from, w_month_until, b_month_until, w_month_also, b_month_also, w_month_but, b_month_but, w_from_once, b_from_once, w_from_every, b_from_every, w_from_week, b_from_week, w_from_month, b_from_month, w_from_until, b_from_until, w_from_also, b_from_also, w_from_but, b_from_but, w_until_once, b_until_once, w_until_every, b_until_every, w_until_week, b_until_week, w_until_month, b_until_month, w_until_from, b_until_from, w_until_also, b_until_also, w_until_but, b_until_but, w_also_once, b_also_once, w_also_every, b_also_every, w_also_week, b_also_week, w_also_month, b_also_month, w_also_from, b_also_from, w_also_until, b_also_until, w_also_but, b_also_but, w_but_once, b_but_once, w_but_every, b_but_every, w_but_week, b_but_week, w_but_month, b_but_month, w_but_from, b_but_from, w_but_until, b_but_until, w_but_also, b_but_also, h0, c]
    · simp [m_law_plain_begins, ir_law_plain_begins, tb_law_plain_begins, Pl.d, plB, Fx.run, Fx.evS, Fx.evE, Fx.evEs, Fx.evI, Fx.evP, Fx.o2, Fx.bt, Fx.ixD, Fx.slD, Fx.inD, Fx.eqD, Fx.isiD, Fx.isDict, Fx.setX, Fx.setXs, Fx.isNew, Fx.fzE, Fx.fzC, Fx.seqD, Fx.flatD, Fx.small, Fx.atI_0, Fx.atI_1, Fx.atI_2, Fx.atI_3, Fx.atI_4, Fx.atI_5, w_once_every, b_once_every, w_once_week, b_once_week, w_once_month, b_once_month, w_once_from, b_once_from, w_once_until, b_once_until, w_once_also, b_once_also, w_once_but, b_once_but, w_every_once, b_every_once, w_every_week, b_every_week, w_every_month, b_every_month, w_every_from, b_every_from, w_every_until, b_every_until, w_every_also, b_every_also, w_every_but, b_every_but, w_week_once, b_week_once, w_week_every, b_week_every, w_week_month, b_week_month, w_week_from, b_week_from, w_week_until, b_week_until, w_week_also, b_week_also, w_week_but, b_week_but, w_month_once, b_month_once, w_month_every, b_month_every, w_month_week, b_month_week, w_month_from, b_month_from, w_month_until, b_month_until, w_month_also, b_month_also, w_month_but, b_month_but, w_from_once, b_from_once, w_from_every, b_from_every, w_from_week, b_from_week, w_from_month, b_from_month, w_from_until, b_from_until, w_from_also, b_from_also, w_from_but, b_from_but, w_until_once, b_until_once, w_until_every, b_until_every, w_until_week, b_until_week, w_until_month, b_until_month, w_until_from, b_until_from, w_until_also, b_until_also, w_until_but, b_until_but, w_also_once, b_also_once, w_also_every, b_also_every, w_also_week, b_also_week, w_also_month, b_also_month, w_also_from, b_also_from, w_also_until, b_also_until, w_also_but, b_also_but, w_but_once, b_but_once, w_but_every, b_but_every, w_but_week, b_but_week, w_but_month, b_but_month, w_but_from, b_but_from, w_but_until, b_but_until, w_but_also, b_but_also, h0, c]
  | week ds h n =>
    have e := isin_tup (x / 24 % 7) ds
    by_cases c : x % 24 = h
    · simp [m_law_plain_begins, ir_law_plain_begins, tb_law_plain_begins, Pl.d, plB, Fx.run, Fx.evS, Fx.evE, Fx.evEs, Fx.evI, Fx.evP, Fx.o2, Fx.bt, Fx.ixD, Fx.slD, Fx.inD, Fx.eqD, Fx.isiD, Fx.isDict, Fx.setX, Fx.setXs, Fx.isNew, Fx.fzE, Fx.fzC, Fx.seqD, Fx.flatD, Fx.small, Fx.atI_0, Fx.atI_1, Fx.atI_2, Fx.atI_3, Fx.atI_4, Fx.atI_5, w_once_every, b_once_every, w_once_week, b_once_week, w_once_month, b_once_month, w_once_from, b_once_from, w_once_until, b_once_until, w_once_also, b_once_also, w_once_but, b_once_but, w_every_once, b_every_once, w_every_week, b_every_week, w_every_month, b_every_month, w_every_from, b_every_from, w_every_until, b_every_until, w_every_also, b_every_also, w_every_but, b_every_but, w_week_once, b_week_once, w_week_every, b_week_every, w_week_month, b_week_month, w_week_from, b_week_from, w_week_until, b_week_until, w_week_also, b_week_also, w_week_but, b_week_but, w_month_once, b_month_once, w_month_every, b_month_every, w_month_week, b_month_week, w_month_from, b_month_from, w_month_until, b_month_until, w_month_also, b_month_also, w_month_but, b_month_but, w_from_once, b_from_once, w_from_every, b_from_every, w_from_week, b_from_week, w_from_month, b_from_month, w_from_until, b_from_until, w_from_also, b_from_also, w_from_but, b_from_but, w_until_once, b_until_once, w_until_every, b_until_every, w_until_week, b_until_week, w_until_month, b_until_month, w_until_from, b_until_from, w_until_also, b_until_also, w_until_but, b_until_but, w_also_once, b_also_once, w_also_every, b_also_every, w_also_week, b_also_week, w_also_month, b_also_month, w_also_from, b_also_from, w_also_until, b_also_until, w_also_but, b_also_but, w_but_once, b_but_once, w_but_every, b_but_every, w_but_week, b_but_week, w_but_month, b_but_month, w_but_from, b_but_from, w_but_until, b_but_until, w_but_also, b_but_also, c, nx] at e ⊢
      exact e
    · simp [m_law_plain_begins, ir_law_plain_begins, tb_law_plain_begins, Pl.d, plB, Fx.run, Fx.evS, Fx.evE, Fx.evEs, Fx.evI, Fx.evP, Fx.o2, Fx.bt, Fx.ixD, Fx.slD, Fx.inD, Fx.eqD, Fx.isiD, Fx.isDict, Fx.setX, Fx.setXs, Fx.isNew, Fx.fzE, Fx.fzC, Fx.seqD, Fx.flatD, Fx.small, Fx.atI_0, Fx.atI_1, Fx.atI_2, Fx.atI_3, Fx.atI_4, Fx.atI_5, w_once_every, b_once_every, w_once_week, b_once_week, w_once_month, b_once_month, w_once_from, b_once_from, w_once_until, b_once_until, w_once_also, b_once_also, w_once_but, b_once_but, w_every_once, b_every_once, w_every_week, b_every_week, w_every_month, b_every_month, w_every_from, b_every_from, w_every_until, b_every_until, w_every_also, b_every_also, w_every_but, b_every_but, w_week_once, b_week_once, w_week_every, b_week_every, w_week_month, b_week_month, w_week_from, b_week_from, w_week_until, b_week_until, w_week_also, b_week_also, w_week_but, b_week_but, w_month_once, b_month_once, w_month_every, b_month_every, w_month_week, b_month_week, w_month_from, b_month_from, w_month_until, b_month_until, w_month_also, b_month_also, w_month_but, b_month_but, w_from_once, b_from_once, w_from_every, b_from_every, w_from_week, b_from_week, w_from_month, b_from_month, w_from_until, b_from_until, w_from_also, b_from_also, w_from_but, b_from_but, w_until_once, b_until_once, w_until_every, b_until_every, w_until_week, b_until_week, w_until_month, b_until_month, w_until_from, b_until_from, w_until_also, b_until_also, w_until_but, b_until_but, w_also_once, b_also_once, w_also_every, b_also_every, w_also_week, b_also_week, w_also_month, b_also_month, w_also_from, b_also_from, w_also_until, b_also_until, w_also_but, b_also_but, w_but_once, b_but_once, w_but_every, b_but_every, w_but_week, b_but_week, w_but_month, b_but_month, w_but_from, b_but_from, w_but_until, b_but_until, w_but_also, b_but_also, c, nx]
  | month d h n =>
    have e := in_month_eq (x / 24)
    have e2 : dN (x / 24) - mlen (dL (x / 24)) (dM (x / 24)) - 1 = fe (x / 24) := rfl
    rw [e2] at e
    have e3 : inF (.int d) [.int (dN (x / 24)), .int (fe (x / 24))] = (decide (dN (x / 24) = d) || decide (fe (x / 24) = d)) := by
      show (dN (x / 24) == d || (fe (x / 24) == d || false)) = _
      rw [Bool.or_false]
      rfl
    by_cases c : x % 24 = h
    · simp [m_law_plain_begins, ir_law_plain_begins, tb_law_plain_begins, Pl.d, plB, Fx.run, Fx.evS, Fx.evE, Fx.evEs, Fx.evI, Fx.evP, Fx.o2, Fx.bt, Fx.ixD, Fx.slD, Fx.inD, Fx.eqD, Fx.isiD, Fx.isDict, Fx.setX, Fx.setXs, Fx.isNew, Fx.fzE, Fx.fzC, Fx.seqD, Fx.flatD, Fx.small, Fx.atI_0, Fx.atI_1, Fx.atI_2, Fx.atI_3, Fx.atI_4, Fx.atI_5, w_once_every, b_once_every, w_once_week, b_once_week, w_once_month, b_once_month, w_once_from, b_once_from, w_once_until, b_once_until, w_once_also, b_once_also, w_once_but, b_once_but, w_every_once, b_every_once, w_every_week, b_every_week, w_every_month, b_every_month, w_every_from, b_every_from, w_every_until, b_every_until, w_every_also, b_every_also, w_every_but, b_every_but, w_week_once, b_week_once, w_week_every, b_week_every, w_week_month, b_week_month, w_week_from, b_week_from, w_week_until, b_week_until, w_week_also, b_week_also, w_week_but, b_week_but, w_month_once, b_month_once, w_month_every, b_month_every, w_month_week, b_month_week, w_month_from, b_month_from, w_month_until, b_month_until, w_month_also, b_month_also, w_month_but, b_month_but, w_from_once, b_from_once, w_from_every, b_from_every, w_from_week, b_from_week, w_from_month, b_from_month, w_from_until, b_from_until, w_from_also, b_from_also, w_from_but, b_from_but, w_until_once, b_until_once, w_until_every, b_until_every, w_until_week, b_until_week, w_until_month, b_until_month, w_until_from, b_until_from, w_until_also, b_until_also, w_until_but, b_until_but, w_also_once, b_also_once, w_also_every, b_also_every, w_also_week, b_also_week, w_also_month, b_also_month, w_also_from, b_also_from, w_also_until, b_also_until, w_also_but, b_also_but, w_but_once, b_but_once, w_but_every, b_but_every, w_but_week, b_but_week, w_but_month, b_but_month, w_but_from, b_but_from, w_but_until, b_but_until, w_but_also, b_but_also, c, nx, e, e3]
    · simp [m_law_plain_begins, ir_law_plain_begins, tb_law_plain_begins, Pl.d, plB, Fx.run, Fx.evS, Fx.evE, Fx.evEs, Fx.evI, Fx.evP, Fx.o2, Fx.bt, Fx.ixD, Fx.slD, Fx.inD, Fx.eqD, Fx.isiD, Fx.isDict, Fx.setX, Fx.setXs, Fx.isNew, Fx.fzE, Fx.fzC, Fx.seqD, Fx.flatD, Fx.small, Fx.atI_0, Fx.atI_1, Fx.atI_2, Fx.atI_3, Fx.atI_4, Fx.atI_5, w_once_every, b_once_every, w_once_week, b_once_week, w_once_month, b_once_month, w_once_from, b_once_from, w_once_until, b_once_until, w_once_also, b_once_also, w_once_but, b_once_but, w_every_once, b_every_once, w_every_week, b_every_week, w_every_month, b_every_month, w_every_from, b_every_from, w_every_until, b_every_until, w_every_also, b_every_also, w_every_but, b_every_but, w_week_once, b_week_once, w_week_every, b_week_every, w_week_month, b_week_month, w_week_from, b_week_from, w_week_until, b_week_until, w_week_also, b_week_also, w_week_but, b_week_but, w_month_once, b_month_once, w_month_every, b_month_every, w_month_week, b_month_week, w_month_from, b_month_from, w_month_until, b_month_until, w_month_also, b_month_also, w_month_but, b_month_but, w_from_once, b_from_once, w_from_every, b_from_every, w_from_week, b_from_week, w_from_month, b_from_month, w_from_until, b_from_until, w_from_also, b_from_also, w_from_but, b_from_but, w_until_once, b_until_once, w_until_every, b_until_every, w_until_week, b_until_week, w_until_month, b_until_month, w_until_from, b_until_from, w_until_also, b_until_also, w_until_but, b_until_but, w_also_once, b_also_once, w_also_every, b_also_every, w_also_week, b_also_week, w_also_month, b_also_month, w_also_from, b_also_from, w_also_until, b_also_until, w_also_but, b_also_but, w_but_once, b_but_once, w_but_every, b_but_every, w_but_week, b_but_week, w_but_month, b_but_month, w_but_from, b_but_from, w_but_until, b_but_until, w_but_also, b_but_also, c, nx]

end k08

namespace k08
open PySem L2 Fx
theorem beg_c (p : Pl) (a b : Cel) : evE tb_begins c_begins_w1 [a, b, .v p.d] = some (.bool false) := by
  cases p <;> simp [c_begins_w1, tb_begins, Pl.d, Fx.run, Fx.evS, Fx.evE, Fx.evEs, Fx.evI, Fx.evP, Fx.o2, Fx.bt, Fx.ixD, Fx.slD, Fx.inD, Fx.eqD, Fx.isiD, Fx.isDict, Fx.setX, Fx.setXs, Fx.isNew, Fx.fzE, Fx.fzC, Fx.seqD, Fx.flatD, Fx.small, Fx.atI_0, Fx.atI_1, Fx.atI_2, Fx.atI_3, Fx.atI_4, Fx.atI_5, inF, eqF, w_once_every, b_once_every, w_once_week, b_once_week, w_once_month, b_once_month, w_once_from, b_once_from, w_once_until, b_once_until, w_once_also, b_once_also, w_once_but, b_once_but, w_every_once, b_every_once, w_every_week, b_every_week, w_every_month, b_every_month, w_every_from, b_every_from, w_every_until, b_every_until, w_every_also, b_every_also, w_every_but, b_every_but, w_week_once, b_week_once, w_week_every, b_week_every, w_week_month, b_week_month, w_week_from, b_week_from, w_week_until, b_week_until, w_week_also, b_week_also, w_week_but, b_week_but, w_month_once, b_month_once, w_month_every, b_month_every, w_month_week, b_month_week, w_month_from, b_month_from, w_month_until, b_month_until, w_month_also, b_month_also, w_month_but, b_month_but, w_from_once, b_from_once, w_from_every, b_from_every, w_from_week, b_from_week, w_from_month, b_from_month, w_from_until, b_from_until, w_from_also, b_from_also, w_from_but, b_from_but, w_until_once, b_until_once, w_until_every, b_until_every, w_until_week, b_until_week, w_until_month, b_until_month, w_until_from, b_until_from, w_until_also, b_until_also, w_until_but, b_until_but, w_also_once, b_also_once, w_also_every, b_also_every, w_also_week, b_also_week, w_also_month, b_also_month, w_also_from, b_also_from, w_also_until, b_also_until, w_also_but, b_also_but, w_but_once, b_but_once, w_but_every, b_but_every, w_but_week, b_but_week, w_but_month, b_but_month, w_but_from, b_but_from, w_but_until, b_but_until, w_but_also, b_but_also]
theorem pd_tup (p : Pl) : ∃ ps, p.d = .tuple ps := by cases p <;> exact ⟨_, rfl⟩
theorem begins_eq (p : Pl) (g : p.Good) (x : Int) : m_begins [p.d, .int x] = some (.bool (decide (0 ≤ x) && plB p x)) := by
  have e := whE_f (b := evS tb_begins b_begins_w1) (n := 199) (beg_c p (.v p.d) (.v (.int x)))
  have e2 := begins_plain_eq p g x
  have f0 : tb_begins.fs[0]? = some m_begins_plain := rfl
  obtain ⟨ps, hp⟩ := pd_tup p
  rw [hp] at e e2 ⊢
  by_cases c : x < 0
  · have c2 : ¬ 0 ≤ x := by omega
    simp [m_begins, ir_begins, Fx.run, Fx.evS, Fx.evE, Fx.evEs, Fx.evI, Fx.evP, Fx.o2, Fx.bt, Fx.ixD, Fx.slD, Fx.inD, Fx.eqD, Fx.isiD, Fx.isDict, Fx.setX, Fx.setXs, Fx.isNew, Fx.fzE, Fx.fzC, Fx.seqD, Fx.flatD, Fx.small, Fx.atI_0, Fx.atI_1, Fx.atI_2, Fx.atI_3, Fx.atI_4, Fx.atI_5, c, c2]
  · have c2 : 0 ≤ x := by omega
    simp [m_begins, ir_begins, Fx.run, Fx.evS, Fx.evE, Fx.evEs, Fx.evI, Fx.evP, Fx.o2, Fx.bt, Fx.ixD, Fx.slD, Fx.inD, Fx.eqD, Fx.isiD, Fx.isDict, Fx.setX, Fx.setXs, Fx.isNew, Fx.fzE, Fx.fzC, Fx.seqD, Fx.flatD, Fx.small, Fx.atI_0, Fx.atI_1, Fx.atI_2, Fx.atI_3, Fx.atI_4, Fx.atI_5, c, c2, e, e2, f0]
/-! ### drawn rules -/
def wdl : List Int → Int → List Int → List Int
  | [], _, acc => acc
  | k :: ks, b, acc => wdl ks (b / 2) (if b % 2 = 1 then acc ++ [k] else acc)
theorem wd_loop : ∀ (ks : List Int) (b : Int) (acc : List Int) (z : Cel), acc.length + ks.length ≤ 100 → ∃ b' z', frE [2] (evS tb_law_weekdays b_law_weekdays_w1) (ks.map PyData.int) [.v (.int b), .own (acc.map PyData.int), z] = some (.nx [.v (.int b'), .own ((wdl ks b acc).map PyData.int), z'])
  | [], b, acc, z, _ => ⟨b, z, rfl⟩
  | k :: ks, b, acc, z, h => by
    rw [List.length_cons] at h
    have hl : acc.length < 16777216 := by omega
    by_cases c : b % 2 = 1
    · obtain ⟨b', z', e⟩ := wd_loop ks (b / 2) (acc ++ [k]) (.v (.int k)) (by rw [List.length_append, List.length_singleton]; omega)
      refine ⟨b', z', ?_⟩
      rw [List.map_append] at e
      simp [frE, b_law_weekdays_w1, tb_law_weekdays, Fx.run, Fx.evS, Fx.evE, Fx.evEs, Fx.evI, Fx.evP, Fx.o2, Fx.bt, Fx.ixD, Fx.slD, Fx.inD, Fx.eqD, Fx.isiD, Fx.isDict, Fx.setX, Fx.setXs, Fx.isNew, Fx.fzE, Fx.fzC, Fx.seqD, Fx.flatD, Fx.small, Fx.atI_0, Fx.atI_1, Fx.atI_2, Fx.atI_3, Fx.atI_4, Fx.atI_5, c, sizeLine, hl, wdl] at e ⊢
      exact e
    · obtain ⟨b', z', e⟩ := wd_loop ks (b / 2) acc (.v (.int k)) (by omega)
      refine ⟨b', z', ?_⟩
      simp [frE, b_law_weekdays_w1, tb_law_weekdays, Fx.run, Fx.evS, Fx.evE, Fx.evEs, Fx.evI, Fx.evP, Fx.o2, Fx.bt, Fx.ixD, Fx.slD, Fx.inD, Fx.eqD, Fx.isiD, Fx.isDict, Fx.setX, Fx.setXs, Fx.isNew, Fx.fzE, Fx.fzC, Fx.seqD, Fx.flatD, Fx.small, Fx.atI_0, Fx.atI_1, Fx.atI_2, Fx.atI_3, Fx.atI_4, Fx.atI_5, c, sizeLine, hl, wdl] at e ⊢
      exact e
def wd (b : Int) : List Int := wdl [0, 1, 2, 3, 4, 5, 6] b []
theorem weekdays_eq (b : Int) : m_law_weekdays [.int b] = some (.tuple ((wd b).map PyData.int)) := by
  obtain ⟨b', z', e⟩ := wd_loop [0, 1, 2, 3, 4, 5, 6] b [] .no (by decide)
  have e1 : ([0, 1, 2, 3, 4, 5, 6] : List Int).map PyData.int = rngD 0 7 := rfl
  rw [e1] at e
  have e2 : evI tb_law_weekdays i_law_weekdays_w1 [.v (.int b), .own [], .no] = some (rngD 0 7) := rfl
  simp [m_law_weekdays, ir_law_weekdays, Fx.run, Fx.evS, Fx.evE, Fx.evEs, Fx.evI, Fx.evP, Fx.o2, Fx.bt, Fx.ixD, Fx.slD, Fx.inD, Fx.eqD, Fx.isiD, Fx.isDict, Fx.setX, Fx.setXs, Fx.isNew, Fx.fzE, Fx.fzC, Fx.seqD, Fx.flatD, Fx.small, Fx.atI_0, Fx.atI_1, Fx.atI_2, Fx.atI_3, Fx.atI_4, Fx.atI_5, sizeLine, e2] at e ⊢
  simp [e, wd]
theorem wd_some {b : Int} (h1 : 1 ≤ b) (h2 : b ≤ 127) : wd b ≠ [] := by
  have all : (List.range 128).all (fun n => decide (n = 0) || decide (wd (n : Int) ≠ [])) = true := by decide +kernel
  have e : b = ((b.toNat : Nat) : Int) := (Int.toNat_of_nonneg (by omega)).symm
  have z := List.all_eq_true.mp all b.toNat (List.mem_range.mpr (by omega))
  rw [← e] at z
  simp only [Bool.or_eq_true, decide_eq_true_eq] at z
  rcases z with z | z
  · omega
  · exact z
def dtab : List Int := [-1, 0, 30, 29, 28, -31, -30, -29, -28, 27]
def dd (c : Int) : Int := if c / 62 % 2 = 1 then dtab.getD (c / 124 % 10).toNat 0 else c % 62 - 31
theorem atI_nn {α : Type} (xs : List α) (i : Int) (h1 : 0 ≤ i) (h2 : i < xs.length) : atI xs i = xs[i.toNat]? := by
  unfold atI ixN
  rw [if_pos h1, if_pos h2]
  rfl
theorem atI_ints (xs : List Int) (i : Int) (h1 : 0 ≤ i) (h2 : i < xs.length) : atI (xs.map PyData.int) i = some (.int (xs.getD i.toNat 0)) := by
  rw [atI_nn _ _ h1 (by rw [List.length_map]; exact h2), List.getElem?_map, List.getD_eq_getElem?_getD, List.getElem?_eq_getElem (by omega)]
  rfl
theorem dtab_at (c : Int) : atI [PyData.int (-1), .int 0, .int 30, .int 29, .int 28, .int (-31), .int (-30), .int (-29), .int (-28), .int 27] (c / 124 % 10) = some (.int (dtab.getD (c / 124 % 10).toNat 0)) :=
  atI_ints dtab _ (Int.emod_nonneg _ (by decide)) (Int.emod_lt_of_pos _ (by decide))

end k08

namespace k08
open PySem L2 Fx
/-! ### rules that bear others -/
inductive Hd where
  | fr (h : Int)
  | un (h : Int)
  | al (h : Int)
  | bu (ds : List Int)
def Hd.d : Hd → D → D
  | .fr h, r => .tuple [.str "from", .int h, r]
  | .un h, r => .tuple [.str "until", .int h, r]
  | .al h, r => .tuple [.str "also", .int h, r]
  | .bu ds, r => .tuple [.str "but", .tuple (ds.map PyData.int), r]
def bd : List Hd → Pl → D
  | [], p => p.d
  | h :: hs, p => h.d (bd hs p)
def hdB (h : Hd) (x : Int) (b : Bool) : Bool := match h with
  | .fr h => b && decide (h ≤ x)
  | .un h => b && decide (x < h)
  | .al h => b || decide (x = h)
  | .bu ds => b && !inI (x / 24) ds
def begB (hs : List Hd) (p : Pl) (x : Int) : Bool := hs.foldr (fun h b => hdB h x b) (plB p x)
theorem bd_tup (hs : List Hd) (p : Pl) : ∃ ps, bd hs p = .tuple ps := by
  cases hs with
  | nil => exact pd_tup p
  | cons h hs => cases h <;> exact ⟨_, rfl⟩
def cutB (h : Hd) (x : Int) : Bool := match h with
  | .fr h => decide (x < h)
  | .un h => decide (h ≤ x)
  | .al _ => false
  | .bu ds => inI (x / 24) ds
theorem cut_eq (h : Hd) (r : D) (x : Int) : m_is_cut [h.d r, .int x] = some (.bool (cutB h x)) := by
  cases h with
  | bu ds =>
    have e := isin_tup (x / 24) ds
    simp [m_is_cut, ir_is_cut, tb_is_cut, Hd.d, cutB, Fx.run, Fx.evS, Fx.evE, Fx.evEs, Fx.evI, Fx.evP, Fx.o2, Fx.bt, Fx.ixD, Fx.slD, Fx.inD, Fx.eqD, Fx.isiD, Fx.isDict, Fx.setX, Fx.setXs, Fx.isNew, Fx.fzE, Fx.fzC, Fx.seqD, Fx.flatD, Fx.small, Fx.atI_0, Fx.atI_1, Fx.atI_2, Fx.atI_3, Fx.atI_4, Fx.atI_5, w_once_every, b_once_every, w_once_week, b_once_week, w_once_month, b_once_month, w_once_from, b_once_from, w_once_until, b_once_until, w_once_also, b_once_also, w_once_but, b_once_but, w_every_once, b_every_once, w_every_week, b_every_week, w_every_month, b_every_month, w_every_from, b_every_from, w_every_until, b_every_until, w_every_also, b_every_also, w_every_but, b_every_but, w_week_once, b_week_once, w_week_every, b_week_every, w_week_month, b_week_month, w_week_from, b_week_from, w_week_until, b_week_until, w_week_also, b_week_also, w_week_but, b_week_but, w_month_once, b_month_once, w_month_every, b_month_every, w_month_week, b_month_week, w_month_from, b_month_from, w_month_until, b_month_until, w_month_also, b_month_also, w_month_but, b_month_but, w_from_once, b_from_once, w_from_every, b_from_every, w_from_week, b_from_week, w_from_month, b_from_month, w_from_until, b_from_until, w_from_also, b_from_also, w_from_but, b_from_but, w_until_once, b_until_once, w_until_every, b_until_every, w_until_week, b_until_week, w_until_month, b_until_month, w_until_from, b_until_from, w_until_also, b_until_also, w_until_but, b_until_but, w_also_once, b_also_once, w_also_every, b_also_every, w_also_week, b_also_week, w_also_month, b_also_month, w_also_from, b_also_from, w_also_until, b_also_until, w_also_but, b_also_but, w_but_once, b_but_once, w_but_every, b_but_every, w_but_week, b_but_week, w_but_month, b_but_month, w_but_from, b_but_from, w_but_until, b_but_until, w_but_also, b_but_also] at e ⊢
    exact e
  | _ => simp [m_is_cut, ir_is_cut, tb_is_cut, Hd.d, cutB, Fx.run, Fx.evS, Fx.evE, Fx.evEs, Fx.evI, Fx.evP, Fx.o2, Fx.bt, Fx.ixD, Fx.slD, Fx.inD, Fx.eqD, Fx.isiD, Fx.isDict, Fx.setX, Fx.setXs, Fx.isNew, Fx.fzE, Fx.fzC, Fx.seqD, Fx.flatD, Fx.small, Fx.atI_0, Fx.atI_1, Fx.atI_2, Fx.atI_3, Fx.atI_4, Fx.atI_5, w_once_every, b_once_every, w_once_week, b_once_week, w_once_month, b_once_month, w_once_from, b_once_from, w_once_until, b_once_until, w_once_also, b_once_also, w_once_but, b_once_but, w_every_once, b_every_once, w_every_week, b_every_week, w_every_month, b_every_month, w_every_from, b_every_from, w_every_until, b_every_until, w_every_also, b_every_also, w_every_but, b_every_but, w_week_once, b_week_once, w_week_every, b_week_every, w_week_month, b_week_month, w_week_from, b_week_from, w_week_until, b_week_until, w_week_also, b_week_also, w_week_but, b_week_but, w_month_once, b_month_once, w_month_every, b_month_every, w_month_week, b_month_week, w_month_from, b_month_from, w_month_until, b_month_until, w_month_also, b_month_also, w_month_but, b_month_but, w_from_once, b_from_once, w_from_every, b_from_every, w_from_week, b_from_week, w_from_month, b_from_month, w_from_until, b_from_until, w_from_also, b_from_also, w_from_but, b_from_but, w_until_once, b_until_once, w_until_every, b_until_every, w_until_week, b_until_week, w_until_month, b_until_month, w_until_from, b_until_from, w_until_also, b_until_also, w_until_but, b_until_but, w_also_once, b_also_once, w_also_every, b_also_every, w_also_week, b_also_week, w_also_month, b_also_month, w_also_from, b_also_from, w_also_until, b_also_until, w_also_but, b_also_but, w_but_once, b_but_once, w_but_every, b_but_every, w_but_week, b_but_week, w_but_month, b_but_month, w_but_from, b_but_from, w_but_until, b_but_until, w_but_also, b_but_also]
theorem begH_c (h : Hd) (r : D) (a b : Cel) : evE tb_begins c_begins_w1 [a, b, .v (h.d r)] = some (.bool true) := by
  cases h <;> simp [c_begins_w1, tb_begins, Hd.d, Fx.run, Fx.evS, Fx.evE, Fx.evEs, Fx.evI, Fx.evP, Fx.o2, Fx.bt, Fx.ixD, Fx.slD, Fx.inD, Fx.eqD, Fx.isiD, Fx.isDict, Fx.setX, Fx.setXs, Fx.isNew, Fx.fzE, Fx.fzC, Fx.seqD, Fx.flatD, Fx.small, Fx.atI_0, Fx.atI_1, Fx.atI_2, Fx.atI_3, Fx.atI_4, Fx.atI_5, inF, eqF, w_once_every, b_once_every, w_once_week, b_once_week, w_once_month, b_once_month, w_once_from, b_once_from, w_once_until, b_once_until, w_once_also, b_once_also, w_once_but, b_once_but, w_every_once, b_every_once, w_every_week, b_every_week, w_every_month, b_every_month, w_every_from, b_every_from, w_every_until, b_every_until, w_every_also, b_every_also, w_every_but, b_every_but, w_week_once, b_week_once, w_week_every, b_week_every, w_week_month, b_week_month, w_week_from, b_week_from, w_week_until, b_week_until, w_week_also, b_week_also, w_week_but, b_week_but, w_month_once, b_month_once, w_month_every, b_month_every, w_month_week, b_month_week, w_month_from, b_month_from, w_month_until, b_month_until, w_month_also, b_month_also, w_month_but, b_month_but, w_from_once, b_from_once, w_from_every, b_from_every, w_from_week, b_from_week, w_from_month, b_from_month, w_from_until, b_from_until, w_from_also, b_from_also, w_from_but, b_from_but, w_until_once, b_until_once, w_until_every, b_until_every, w_until_week, b_until_week, w_until_month, b_until_month, w_until_from, b_until_from, w_until_also, b_until_also, w_until_but, b_until_but, w_also_once, b_also_once, w_also_every, b_also_every, w_also_week, b_also_week, w_also_month, b_also_month, w_also_from, b_also_from, w_also_until, b_also_until, w_also_but, b_also_but, w_but_once, b_but_once, w_but_every, b_but_every, w_but_week, b_but_week, w_but_month, b_but_month, w_but_from, b_but_from, w_but_until, b_but_until, w_but_also, b_but_also]
theorem begH_cut (h : Hd) (ps : List D) (x : Int) (a : Cel) (c : cutB h x = true) : evS tb_begins b_begins_w1 [a, .v (.int x), .v (h.d (.tuple ps))] = some (.rt (.bool false)) := by
  have e := cut_eq h (.tuple ps) x
  rw [c] at e
  simp [b_begins_w1, tb_begins, Fx.run, Fx.evS, Fx.evE, Fx.evEs, Fx.evI, Fx.evP, Fx.o2, Fx.bt, Fx.ixD, Fx.slD, Fx.inD, Fx.eqD, Fx.isiD, Fx.isDict, Fx.setX, Fx.setXs, Fx.isNew, Fx.fzE, Fx.fzC, Fx.seqD, Fx.flatD, Fx.small, Fx.atI_0, Fx.atI_1, Fx.atI_2, Fx.atI_3, Fx.atI_4, Fx.atI_5, e]
theorem begH_also (k : Int) (ps : List D) (a : Cel) : evS tb_begins b_begins_w1 [a, .v (.int k), .v (Hd.d (.al k) (.tuple ps))] = some (.rt (.bool true)) := by
  have e := cut_eq (.al k) (.tuple ps) k
  simp only [cutB, Hd.d] at e
  simp [b_begins_w1, tb_begins, Hd.d, Fx.run, Fx.evS, Fx.evE, Fx.evEs, Fx.evI, Fx.evP, Fx.o2, Fx.bt, Fx.ixD, Fx.slD, Fx.inD, Fx.eqD, Fx.isiD, Fx.isDict, Fx.setX, Fx.setXs, Fx.isNew, Fx.fzE, Fx.fzC, Fx.seqD, Fx.flatD, Fx.small, Fx.atI_0, Fx.atI_1, Fx.atI_2, Fx.atI_3, Fx.atI_4, Fx.atI_5, e]
theorem begH_on (h : Hd) (ps : List D) (x : Int) (a : Cel) (c : cutB h x = false) (n : h ≠ .al x) : evS tb_begins b_begins_w1 [a, .v (.int x), .v (h.d (.tuple ps))] = some (.nx [a, .v (.int x), .v (.tuple ps)]) := by
  have e := cut_eq h (.tuple ps) x
  rw [c] at e
  cases h with
  | al k =>
    have nk : ¬ x = k := fun z => n (by rw [z])
    simp only [Hd.d] at e
    simp [b_begins_w1, tb_begins, Hd.d, Fx.run, Fx.evS, Fx.evE, Fx.evEs, Fx.evI, Fx.evP, Fx.o2, Fx.bt, Fx.ixD, Fx.slD, Fx.inD, Fx.eqD, Fx.isiD, Fx.isDict, Fx.setX, Fx.setXs, Fx.isNew, Fx.fzE, Fx.fzC, Fx.seqD, Fx.flatD, Fx.small, Fx.atI_0, Fx.atI_1, Fx.atI_2, Fx.atI_3, Fx.atI_4, Fx.atI_5, e, w_once_every, b_once_every, w_once_week, b_once_week, w_once_month, b_once_month, w_once_from, b_once_from, w_once_until, b_once_until, w_once_also, b_once_also, w_once_but, b_once_but, w_every_once, b_every_once, w_every_week, b_every_week, w_every_month, b_every_month, w_every_from, b_every_from, w_every_until, b_every_until, w_every_also, b_every_also, w_every_but, b_every_but, w_week_once, b_week_once, w_week_every, b_week_every, w_week_month, b_week_month, w_week_from, b_week_from, w_week_until, b_week_until, w_week_also, b_week_also, w_week_but, b_week_but, w_month_once, b_month_once, w_month_every, b_month_every, w_month_week, b_month_week, w_month_from, b_month_from, w_month_until, b_month_until, w_month_also, b_month_also, w_month_but, b_month_but, w_from_once, b_from_once, w_from_every, b_from_every, w_from_week, b_from_week, w_from_month, b_from_month, w_from_until, b_from_until, w_from_also, b_from_also, w_from_but, b_from_but, w_until_once, b_until_once, w_until_every, b_until_every, w_until_week, b_until_week, w_until_month, b_until_month, w_until_from, b_until_from, w_until_also, b_until_also, w_until_but, b_until_but, w_also_once, b_also_once, w_also_every, b_also_every, w_also_week, b_also_week, w_also_month, b_also_month, w_also_from, b_also_from, w_also_until, b_also_until, w_also_but, b_also_but, w_but_once, b_but_once, w_but_every, b_but_every, w_but_week, b_but_week, w_but_month, b_but_month, w_but_from, b_but_from, w_but_until, b_but_until, w_but_also, b_but_also, nk]
  | _ =>
    simp only [Hd.d] at e
    simp [b_begins_w1, tb_begins, Hd.d, Fx.run, Fx.evS, Fx.evE, Fx.evEs, Fx.evI, Fx.evP, Fx.o2, Fx.bt, Fx.ixD, Fx.slD, Fx.inD, Fx.eqD, Fx.isiD, Fx.isDict, Fx.setX, Fx.setXs, Fx.isNew, Fx.fzE, Fx.fzC, Fx.seqD, Fx.flatD, Fx.small, Fx.atI_0, Fx.atI_1, Fx.atI_2, Fx.atI_3, Fx.atI_4, Fx.atI_5, e, w_once_every, b_once_every, w_once_week, b_once_week, w_once_month, b_once_month, w_once_from, b_once_from, w_once_until, b_once_until, w_once_also, b_once_also, w_once_but, b_once_but, w_every_once, b_every_once, w_every_week, b_every_week, w_every_month, b_every_month, w_every_from, b_every_from, w_every_until, b_every_until, w_every_also, b_every_also, w_every_but, b_every_but, w_week_once, b_week_once, w_week_every, b_week_every, w_week_month, b_week_month, w_week_from, b_week_from, w_week_until, b_week_until, w_week_also, b_week_also, w_week_but, b_week_but, w_month_once, b_month_once, w_month_every, b_month_every, w_month_week, b_month_week, w_month_from, b_month_from, w_month_until, b_month_until, w_month_also, b_month_also, w_month_but, b_month_but, w_from_once, b_from_once, w_from_every, b_from_every, w_from_week, b_from_week, w_from_month, b_from_month, w_from_until, b_from_until, w_from_also, b_from_also, w_from_but, b_from_but, w_until_once, b_until_once, w_until_every, b_until_every, w_until_week, b_until_week, w_until_month, b_until_month, w_until_from, b_until_from, w_until_also, b_until_also, w_until_but, b_until_but, w_also_once, b_also_once, w_also_every, b_also_every, w_also_week, b_also_week, w_also_month, b_also_month, w_also_from, b_also_from, w_also_until, b_also_until, w_also_but, b_also_but, w_but_once, b_but_once, w_but_every, b_but_every, w_but_week, b_but_week, w_but_month, b_but_month, w_but_from, b_but_from, w_but_until, b_but_until, w_but_also, b_but_also]
theorem beg_loop (p : Pl) (x : Int) (a : Cel) : ∀ (hs : List Hd) (n : Nat), hs.length < n →
    whE (evE tb_begins c_begins_w1) (evS tb_begins b_begins_w1) n [a, .v (.int x), .v (bd hs p)] = some (.rt (.bool (begB hs p x))) ∨
    (whE (evE tb_begins c_begins_w1) (evS tb_begins b_begins_w1) n [a, .v (.int x), .v (bd hs p)] = some (.nx [a, .v (.int x), .v p.d]) ∧ begB hs p x = plB p x)
  | _, 0, h => by omega
  | [], n + 1, _ => Or.inr ⟨whE_f (beg_c p a (.v (.int x))), rfl⟩
  | h :: hs, n + 1, hl => by
    obtain ⟨ps, e⟩ := bd_tup hs p
    have ih := beg_loop p x a hs n (by rw [List.length_cons] at hl; omega)
    have hb : begB (h :: hs) p x = hdB h x (begB hs p x) := rfl
    rw [hb]
    show whE _ _ (n + 1) [a, .v (.int x), .v (h.d (bd hs p))] = _ ∨ (whE _ _ (n + 1) [a, .v (.int x), .v (h.d (bd hs p))] = _ ∧ _)
    rw [e] at ih ⊢
    by_cases c : cutB h x = true
    · refine Or.inl ?_
      rw [whE_r (begH_c h _ a _) (begH_cut h ps x a c)]
      have z : hdB h x (begB hs p x) = false := by
        cases h with
        | fr k =>
          simp only [cutB, decide_eq_true_eq] at c
          simp only [hdB, decide_eq_false (show ¬ k ≤ x by omega), Bool.and_false]
        | un k =>
          simp only [cutB, decide_eq_true_eq] at c
          simp only [hdB, decide_eq_false (show ¬ x < k by omega), Bool.and_false]
        | al k => cases c
        | bu ds =>
          simp only [cutB] at c
          simp only [hdB, c, Bool.not_true, Bool.and_false]
      rw [z]
    · have c' : cutB h x = false := by simpa using c
      by_cases n0 : h = .al x
      · subst n0
        refine Or.inl ?_
        rw [whE_r (begH_c _ _ a _) (begH_also x ps a)]
        simp [hdB]
      · rw [whE_t (begH_c h _ a _) (begH_on h ps x a c' n0)]
        have z : hdB h x (begB hs p x) = begB hs p x := by
          cases h with
          | fr k =>
            simp only [cutB, decide_eq_false_iff_not] at c'
            simp only [hdB, decide_eq_true (show k ≤ x by omega), Bool.and_true]
          | un k =>
            simp only [cutB, decide_eq_false_iff_not] at c'
            simp only [hdB, decide_eq_true (show x < k by omega), Bool.and_true]
          | al k =>
            have nk : ¬ x = k := fun z => n0 (by rw [z])
            simp only [hdB, decide_eq_false nk, Bool.or_false]
          | bu ds =>
            simp only [cutB] at c'
            simp only [hdB, c', Bool.not_false, Bool.and_true]
        rw [z]
        exact ih
theorem beginsH_eq (hs : List Hd) (p : Pl) (g : p.Good) (x : Int) (hl : hs.length < 200) : m_begins [bd hs p, .int x] = some (.bool (decide (0 ≤ x) && begB hs p x)) := by
  have e := beg_loop p x (.v (bd hs p)) hs 200 hl
  have e2 := begins_plain_eq p g x
  have f0 : tb_begins.fs[0]? = some m_begins_plain := rfl
  obtain ⟨qs, hq⟩ := pd_tup p
  obtain ⟨ps, hp⟩ := bd_tup hs p
  rw [hq] at e e2
  rw [hp] at e ⊢
  by_cases c : x < 0
  · have c2 : ¬ 0 ≤ x := by omega
    simp [m_begins, ir_begins, Fx.run, Fx.evS, Fx.evE, Fx.evEs, Fx.evI, Fx.evP, Fx.o2, Fx.bt, Fx.ixD, Fx.slD, Fx.inD, Fx.eqD, Fx.isiD, Fx.isDict, Fx.setX, Fx.setXs, Fx.isNew, Fx.fzE, Fx.fzC, Fx.seqD, Fx.flatD, Fx.small, Fx.atI_0, Fx.atI_1, Fx.atI_2, Fx.atI_3, Fx.atI_4, Fx.atI_5, c, c2]
  · have c2 : 0 ≤ x := by omega
    rcases e with e | ⟨e, e3⟩
    · simp [m_begins, ir_begins, Fx.run, Fx.evS, Fx.evE, Fx.evEs, Fx.evI, Fx.evP, Fx.o2, Fx.bt, Fx.ixD, Fx.slD, Fx.inD, Fx.eqD, Fx.isiD, Fx.isDict, Fx.setX, Fx.setXs, Fx.isNew, Fx.fzE, Fx.fzC, Fx.seqD, Fx.flatD, Fx.small, Fx.atI_0, Fx.atI_1, Fx.atI_2, Fx.atI_3, Fx.atI_4, Fx.atI_5, c, c2, e]
    · simp [m_begins, ir_begins, Fx.run, Fx.evS, Fx.evE, Fx.evEs, Fx.evI, Fx.evP, Fx.o2, Fx.bt, Fx.ixD, Fx.slD, Fx.inD, Fx.eqD, Fx.isiD, Fx.isDict, Fx.setX, Fx.setXs, Fx.isNew, Fx.fzE, Fx.fzC, Fx.seqD, Fx.flatD, Fx.small, Fx.atI_0, Fx.atI_1, Fx.atI_2, Fx.atI_3, Fx.atI_4, Fx.atI_5, c, c2, e, e2, e3, f0]

end k08

namespace k08
open PySem L2 Fx
/-! ### the law's own reading of them -/
def hl : List Hd → Pl → List D
  | [], _ => []
  | h :: hs, p => bd (h :: hs) p :: hl hs p
theorem hl_len : ∀ (hs : List Hd) (p : Pl), (hl hs p).length = hs.length
  | [], _ => rfl
  | _ :: hs, p => congrArg (· + 1) (hl_len hs p)
theorem bear_eq : m_law_bearing [] = some (.list [.str "from", .str "until", .str "also", .str "but"]) := by
  simp [m_law_bearing, ir_law_bearing, tb_law_bearing, Fx.run, Fx.evS, Fx.evE, Fx.evEs, Fx.evI, Fx.evP, Fx.o2, Fx.bt, Fx.ixD, Fx.slD, Fx.inD, Fx.eqD, Fx.isiD, Fx.isDict, Fx.setX, Fx.setXs, Fx.isNew, Fx.fzE, Fx.fzC, Fx.seqD, Fx.flatD, Fx.small, Fx.atI_0, Fx.atI_1, Fx.atI_2, Fx.atI_3, Fx.atI_4, Fx.atI_5, sizeLine]
theorem hd_c0 (p : Pl) (a : Cel) : evE tb_law_heads c_law_heads_w1 [.v p.d, a] = some (.bool false) := by
  cases p <;> simp [c_law_heads_w1, tb_law_heads, Pl.d, Fx.run, Fx.evS, Fx.evE, Fx.evEs, Fx.evI, Fx.evP, Fx.o2, Fx.bt, Fx.ixD, Fx.slD, Fx.inD, Fx.eqD, Fx.isiD, Fx.isDict, Fx.setX, Fx.setXs, Fx.isNew, Fx.fzE, Fx.fzC, Fx.seqD, Fx.flatD, Fx.small, Fx.atI_0, Fx.atI_1, Fx.atI_2, Fx.atI_3, Fx.atI_4, Fx.atI_5, bear_eq, inF, eqF, w_once_every, b_once_every, w_once_week, b_once_week, w_once_month, b_once_month, w_once_from, b_once_from, w_once_until, b_once_until, w_once_also, b_once_also, w_once_but, b_once_but, w_every_once, b_every_once, w_every_week, b_every_week, w_every_month, b_every_month, w_every_from, b_every_from, w_every_until, b_every_until, w_every_also, b_every_also, w_every_but, b_every_but, w_week_once, b_week_once, w_week_every, b_week_every, w_week_month, b_week_month, w_week_from, b_week_from, w_week_until, b_week_until, w_week_also, b_week_also, w_week_but, b_week_but, w_month_once, b_month_once, w_month_every, b_month_every, w_month_week, b_month_week, w_month_from, b_month_from, w_month_until, b_month_until, w_month_also, b_month_also, w_month_but, b_month_but, w_from_once, b_from_once, w_from_every, b_from_every, w_from_week, b_from_week, w_from_month, b_from_month, w_from_until, b_from_until, w_from_also, b_from_also, w_from_but, b_from_but, w_until_once, b_until_once, w_until_every, b_until_every, w_until_week, b_until_week, w_until_month, b_until_month, w_until_from, b_until_from, w_until_also, b_until_also, w_until_but, b_until_but, w_also_once, b_also_once, w_also_every, b_also_every, w_also_week, b_also_week, w_also_month, b_also_month, w_also_from, b_also_from, w_also_until, b_also_until, w_also_but, b_also_but, w_but_once, b_but_once, w_but_every, b_but_every, w_but_week, b_but_week, w_but_month, b_but_month, w_but_from, b_but_from, w_but_until, b_but_until, w_but_also, b_but_also, sizeLine]
theorem hd_c1 (h : Hd) (r : D) (a : Cel) : evE tb_law_heads c_law_heads_w1 [.v (h.d r), a] = some (.bool true) := by
  cases h <;> simp [c_law_heads_w1, tb_law_heads, Hd.d, Fx.run, Fx.evS, Fx.evE, Fx.evEs, Fx.evI, Fx.evP, Fx.o2, Fx.bt, Fx.ixD, Fx.slD, Fx.inD, Fx.eqD, Fx.isiD, Fx.isDict, Fx.setX, Fx.setXs, Fx.isNew, Fx.fzE, Fx.fzC, Fx.seqD, Fx.flatD, Fx.small, Fx.atI_0, Fx.atI_1, Fx.atI_2, Fx.atI_3, Fx.atI_4, Fx.atI_5, bear_eq, inF, eqF, w_once_every, b_once_every, w_once_week, b_once_week, w_once_month, b_once_month, w_once_from, b_once_from, w_once_until, b_once_until, w_once_also, b_once_also, w_once_but, b_once_but, w_every_once, b_every_once, w_every_week, b_every_week, w_every_month, b_every_month, w_every_from, b_every_from, w_every_until, b_every_until, w_every_also, b_every_also, w_every_but, b_every_but, w_week_once, b_week_once, w_week_every, b_week_every, w_week_month, b_week_month, w_week_from, b_week_from, w_week_until, b_week_until, w_week_also, b_week_also, w_week_but, b_week_but, w_month_once, b_month_once, w_month_every, b_month_every, w_month_week, b_month_week, w_month_from, b_month_from, w_month_until, b_month_until, w_month_also, b_month_also, w_month_but, b_month_but, w_from_once, b_from_once, w_from_every, b_from_every, w_from_week, b_from_week, w_from_month, b_from_month, w_from_until, b_from_until, w_from_also, b_from_also, w_from_but, b_from_but, w_until_once, b_until_once, w_until_every, b_until_every, w_until_week, b_until_week, w_until_month, b_until_month, w_until_from, b_until_from, w_until_also, b_until_also, w_until_but, b_until_but, w_also_once, b_also_once, w_also_every, b_also_every, w_also_week, b_also_week, w_also_month, b_also_month, w_also_from, b_also_from, w_also_until, b_also_until, w_also_but, b_also_but, w_but_once, b_but_once, w_but_every, b_but_every, w_but_week, b_but_week, w_but_month, b_but_month, w_but_from, b_but_from, w_but_until, b_but_until, w_but_also, b_but_also, sizeLine]
theorem hd_b (h : Hd) (ps : List D) (acc : List D) (hl : acc.length < 16777216) : evS tb_law_heads b_law_heads_w1 [.v (h.d (.tuple ps)), .own acc] = some (.nx [.v (.tuple ps), .own (acc ++ [h.d (.tuple ps)])]) := by
  cases h <;> simp [b_law_heads_w1, tb_law_heads, Hd.d, Fx.run, Fx.evS, Fx.evE, Fx.evEs, Fx.evI, Fx.evP, Fx.o2, Fx.bt, Fx.ixD, Fx.slD, Fx.inD, Fx.eqD, Fx.isiD, Fx.isDict, Fx.setX, Fx.setXs, Fx.isNew, Fx.fzE, Fx.fzC, Fx.seqD, Fx.flatD, Fx.small, Fx.atI_0, Fx.atI_1, Fx.atI_2, Fx.atI_3, Fx.atI_4, Fx.atI_5, sizeLine, hl]
theorem hd_loop (p : Pl) : ∀ (hs : List Hd) (n : Nat) (acc : List D), hs.length < n → acc.length + hs.length ≤ 1000 →
    whE (evE tb_law_heads c_law_heads_w1) (evS tb_law_heads b_law_heads_w1) n [.v (bd hs p), .own acc] = some (.nx [.v p.d, .own (acc ++ hl hs p)])
  | _, 0, _, h, _ => by omega
  | [], n + 1, acc, _, _ => by
    show whE _ _ (n + 1) [.v p.d, .own acc] = _
    rw [whE_f (hd_c0 p _), show hl [] p = [] from rfl, List.append_nil]
  | h :: hs, n + 1, acc, h1, h2 => by
    obtain ⟨ps, e⟩ := bd_tup hs p
    rw [List.length_cons] at h1 h2
    have ih := hd_loop p hs n (acc ++ [bd (h :: hs) p]) (by omega) (by rw [List.length_append, List.length_singleton]; omega)
    have e2 : bd (h :: hs) p = h.d (bd hs p) := rfl
    have e3 : hl (h :: hs) p = bd (h :: hs) p :: hl hs p := rfl
    rw [e3, e2]
    rw [e2] at ih
    rw [e] at ih ⊢
    rw [whE_t (hd_c1 h _ _) (hd_b h ps acc (by omega)), ih, List.append_assoc]
    rfl
theorem heads_eq (hs : List Hd) (p : Pl) (h : hs.length < 200) : m_law_heads [bd hs p] = some (.list (hl hs p ++ [p.d])) := by
  have e := hd_loop p hs 200 [] h (by simp; omega)
  have z := hl_len hs p
  have z2 : (hl hs p).length + 1 ≤ 16777216 := by omega
  rw [List.nil_append] at e
  simp [m_law_heads, ir_law_heads, Fx.run, Fx.evS, Fx.evE, Fx.evEs, Fx.evI, Fx.evP, Fx.o2, Fx.bt, Fx.ixD, Fx.slD, Fx.inD, Fx.eqD, Fx.isiD, Fx.isDict, Fx.setX, Fx.setXs, Fx.isNew, Fx.fzE, Fx.fzC, Fx.seqD, Fx.flatD, Fx.small, Fx.atI_0, Fx.atI_1, Fx.atI_2, Fx.atI_3, Fx.atI_4, Fx.atI_5, e, sizeLine, z2]
theorem cut_last (xs : List D) (v : D) : cutD (xs ++ [v]) none (some (-1)) = xs := by
  unfold cutD
  have e1 : HT.sIx (xs ++ [v]).length 0 none = 0 := rfl
  have e2 : HT.sIx (xs ++ [v]).length (xs ++ [v]).length (some (-1)) = xs.length := by
    rw [List.length_append, List.length_singleton]
    unfold HT.sIx
    simp
    omega
  rw [e1, e2]
  simp
theorem neg1 (xs : List D) (v : D) : atI (xs ++ [v]) (-1) = some v := atI_last xs v
theorem nin_tup (x : Int) (ds : List Int) : o2 .nin (.int x) (.tuple (ds.map PyData.int)) = some (.bool (!inI x ds)) := by
  show (if (true && (ds.map PyData.int).all flatD) = true then some (inF (.int x) (ds.map PyData.int)) else _).map (fun b => PyData.bool (!b)) = _
  rw [flat_ints, inF_ints] <;> rfl
theorem fold_b (k : Hd) (r : D) (rr l : Cel) (x : Int) (b : Bool) : evS tb_law_begun b_law_begun_w1 [rr, .v (.int x), l, .v (.bool b), .v (k.d r)] = some (.nx [rr, .v (.int x), l, .v (.bool (hdB k x b)), .v (k.d r)]) := by
  cases k with
  | bu ds =>
    have e := nin_tup (x / 24) ds
    cases b
    · simp [b_law_begun_w1, tb_law_begun, Hd.d, hdB, Fx.run, Fx.evS, Fx.evE, Fx.evEs, Fx.evI, Fx.evP, Fx.o2, Fx.bt, Fx.ixD, Fx.slD, Fx.inD, Fx.eqD, Fx.isiD, Fx.isDict, Fx.setX, Fx.setXs, Fx.isNew, Fx.fzE, Fx.fzC, Fx.seqD, Fx.flatD, Fx.small, Fx.atI_0, Fx.atI_1, Fx.atI_2, Fx.atI_3, Fx.atI_4, Fx.atI_5, w_once_every, b_once_every, w_once_week, b_once_week, w_once_month, b_once_month, w_once_from, b_once_from, w_once_until, b_once_until, w_once_also, b_once_also, w_once_but, b_once_but, w_every_once, b_every_once, w_every_week, b_every_week, w_every_month, b_every_month, w_every_from, b_every_from, w_every_until, b_every_until, w_every_also, b_every_also, w_every_but, b_every_but, w_week_once, b_week_once, w_week_every, b_week_every, w_week_month, b_week_month, w_week_from, b_week_from, w_week_until, b_week_until, w_week_also, b_week_also, w_week_but, b_week_but, w_month_once, b_month_once, w_month_every, b_month_every, w_month_week, b_month_week, w_month_from, b_month_from, w_month_until, b_month_until, w_month_also, b_month_also, w_month_but, b_month_but, w_from_once, b_from_once, w_from_every, b_from_every, w_from_week, b_from_week, w_from_month, b_from_month, w_from_until, b_from_until, w_from_also, b_from_also, w_from_but, b_from_but, w_until_once, b_until_once, w_until_every, b_until_every, w_until_week, b_until_week, w_until_month, b_until_month, w_until_from, b_until_from, w_until_also, b_until_also, w_until_but, b_until_but, w_also_once, b_also_once, w_also_every, b_also_every, w_also_week, b_also_week, w_also_month, b_also_month, w_also_from, b_also_from, w_also_until, b_also_until, w_also_but, b_also_but, w_but_once, b_but_once, w_but_every, b_but_every, w_but_week, b_but_week, w_but_month, b_but_month, w_but_from, b_but_from, w_but_until, b_but_until, w_but_also, b_but_also]
    · simp [b_law_begun_w1, tb_law_begun, Hd.d, hdB, Fx.run, Fx.evS, Fx.evE, Fx.evEs, Fx.evI, Fx.evP, Fx.o2, Fx.bt, Fx.ixD, Fx.slD, Fx.inD, Fx.eqD, Fx.isiD, Fx.isDict, Fx.setX, Fx.setXs, Fx.isNew, Fx.fzE, Fx.fzC, Fx.seqD, Fx.flatD, Fx.small, Fx.atI_0, Fx.atI_1, Fx.atI_2, Fx.atI_3, Fx.atI_4, Fx.atI_5, w_once_every, b_once_every, w_once_week, b_once_week, w_once_month, b_once_month, w_once_from, b_once_from, w_once_until, b_once_until, w_once_also, b_once_also, w_once_but, b_once_but, w_every_once, b_every_once, w_every_week, b_every_week, w_every_month, b_every_month, w_every_from, b_every_from, w_every_until, b_every_until, w_every_also, b_every_also, w_every_but, b_every_but, w_week_once, b_week_once, w_week_every, b_week_every, w_week_month, b_week_month, w_week_from, b_week_from, w_week_until, b_week_until, w_week_also, b_week_also, w_week_but, b_week_but, w_month_once, b_month_once, w_month_every, b_month_every, w_month_week, b_month_week, w_month_from, b_month_from, w_month_until, b_month_until, w_month_also, b_month_also, w_month_but, b_month_but, w_from_once, b_from_once, w_from_every, b_from_every, w_from_week, b_from_week, w_from_month, b_from_month, w_from_until, b_from_until, w_from_also, b_from_also, w_from_but, b_from_but, w_until_once, b_until_once, w_until_every, b_until_every, w_until_week, b_until_week, w_until_month, b_until_month, w_until_from, b_until_from, w_until_also, b_until_also, w_until_but, b_until_but, w_also_once, b_also_once, w_also_every, b_also_every, w_also_week, b_also_week, w_also_month, b_also_month, w_also_from, b_also_from, w_also_until, b_also_until, w_also_but, b_also_but, w_but_once, b_but_once, w_but_every, b_but_every, w_but_week, b_but_week, w_but_month, b_but_month, w_but_from, b_but_from, w_but_until, b_but_until, w_but_also, b_but_also] at e ⊢
      simp [e]
  | _ => cases b <;> simp [b_law_begun_w1, tb_law_begun, Hd.d, hdB, Fx.run, Fx.evS, Fx.evE, Fx.evEs, Fx.evI, Fx.evP, Fx.o2, Fx.bt, Fx.ixD, Fx.slD, Fx.inD, Fx.eqD, Fx.isiD, Fx.isDict, Fx.setX, Fx.setXs, Fx.isNew, Fx.fzE, Fx.fzC, Fx.seqD, Fx.flatD, Fx.small, Fx.atI_0, Fx.atI_1, Fx.atI_2, Fx.atI_3, Fx.atI_4, Fx.atI_5, w_once_every, b_once_every, w_once_week, b_once_week, w_once_month, b_once_month, w_once_from, b_once_from, w_once_until, b_once_until, w_once_also, b_once_also, w_once_but, b_once_but, w_every_once, b_every_once, w_every_week, b_every_week, w_every_month, b_every_month, w_every_from, b_every_from, w_every_until, b_every_until, w_every_also, b_every_also, w_every_but, b_every_but, w_week_once, b_week_once, w_week_every, b_week_every, w_week_month, b_week_month, w_week_from, b_week_from, w_week_until, b_week_until, w_week_also, b_week_also, w_week_but, b_week_but, w_month_once, b_month_once, w_month_every, b_month_every, w_month_week, b_month_week, w_month_from, b_month_from, w_month_until, b_month_until, w_month_also, b_month_also, w_month_but, b_month_but, w_from_once, b_from_once, w_from_every, b_from_every, w_from_week, b_from_week, w_from_month, b_from_month, w_from_until, b_from_until, w_from_also, b_from_also, w_from_but, b_from_but, w_until_once, b_until_once, w_until_every, b_until_every, w_until_week, b_until_week, w_until_month, b_until_month, w_until_from, b_until_from, w_until_also, b_until_also, w_until_but, b_until_but, w_also_once, b_also_once, w_also_every, b_also_every, w_also_week, b_also_week, w_also_month, b_also_month, w_also_from, b_also_from, w_also_until, b_also_until, w_also_but, b_also_but, w_but_once, b_but_once, w_but_every, b_but_every, w_but_week, b_but_week, w_but_month, b_but_month, w_but_from, b_but_from, w_but_until, b_but_until, w_but_also, b_but_also]
theorem fold_loop (rr l : Cel) (x : Int) : ∀ (ks : List Hd) (ds : List D), Paired (fun k d => ∃ r, d = Hd.d k r) ks ds → ∀ (b : Bool) (z0 : Cel), ∃ z, frE [4] (evS tb_law_begun b_law_begun_w1) ds [rr, .v (.int x), l, .v (.bool b), z0] = some (.nx [rr, .v (.int x), l, .v (.bool (ks.foldl (fun b k => hdB k x b) b)), z])
  | _, _, .nil, b, z0 => ⟨z0, rfl⟩
  | k :: ks, d :: ds, .cons ⟨r, e⟩ t, b, z0 => by
    subst e
    obtain ⟨z, ih⟩ := fold_loop rr l x ks ds t (hdB k x b) (.v (k.d r))
    refine ⟨z, ?_⟩
    have e1 : setX [rr, .v (.int x), l, .v (.bool b), z0] [4] (k.d r) = some [rr, .v (.int x), l, .v (.bool b), .v (k.d r)] := rfl
    show ((setX [rr, .v (.int x), l, .v (.bool b), z0] [4] (k.d r)).bind fun ρ1 => _) = _
    rw [e1]
    show (match evS tb_law_begun b_law_begun_w1 [rr, .v (.int x), l, .v (.bool b), .v (k.d r)] with | some (.nx ρ') => _ | some (.ct ρ') => _ | some (.bk ρ') => _ | some (.rt d) => _ | none => _) = _
    rw [fold_b]
    exact ih
theorem hl_fa : ∀ (hs : List Hd) (p : Pl), Paired (fun k d => ∃ r, d = Hd.d k r) hs (hl hs p)
  | [], _ => .nil
  | _ :: hs, p => .cons ⟨_, rfl⟩ (hl_fa hs p)
theorem fa_app {α β : Type} {R : α → β → Prop} : ∀ {a : List α} {b : List β} {c : List α} {d : List β}, Paired R a b → Paired R c d → Paired R (a ++ c) (b ++ d)
  | _, _, _, _, .nil, h => h
  | _, _, _, _, .cons x t, h => .cons x (fa_app t h)
theorem fa_rev {α β : Type} {R : α → β → Prop} : ∀ {a : List α} {b : List β}, Paired R a b → Paired R a.reverse b.reverse
  | _, _, .nil => .nil
  | _, _, .cons x t => by
    rw [List.reverse_cons, List.reverse_cons]
    exact fa_app (fa_rev t) (.cons x .nil)
theorem begun_eq (hs : List Hd) (p : Pl) (g : p.Good) (x : Int) (hx : 0 ≤ x) (h : hs.length < 200) : m_law_begun [bd hs p, .int x] = some (.bool (begB hs p x)) := by
  have e1 := heads_eq hs p h
  have e2 := law_plain_begins_eq p g x hx
  obtain ⟨z, e3⟩ := fold_loop (.v (bd hs p)) (.v (.list (hl hs p ++ [p.d]))) x _ _ (fa_rev (hl_fa hs p)) (plB p x) .no
  have e4 : hs.reverse.foldl (fun b k => hdB k x b) (plB p x) = begB hs p x := List.foldl_reverse
  rw [e4] at e3
  have f0 : tb_law_begun.fs[0]? = some m_law_plain_begins := rfl
  have f1 : tb_law_begun.fs[1]? = some m_law_heads := rfl
  simp [m_law_begun, ir_law_begun, Fx.run, Fx.evS, Fx.evE, Fx.evEs, Fx.evI, Fx.evP, Fx.o2, Fx.bt, Fx.ixD, Fx.slD, Fx.inD, Fx.eqD, Fx.isiD, Fx.isDict, Fx.setX, Fx.setXs, Fx.isNew, Fx.fzE, Fx.fzC, Fx.seqD, Fx.flatD, Fx.small, Fx.atI_0, Fx.atI_1, Fx.atI_2, Fx.atI_3, Fx.atI_4, Fx.atI_5, f0, f1, e1, e2, neg1, i_law_begun_w1, cut_last, e3]

end k08

namespace k08
open PySem L2 Fx
/-! ### the law's making of rules -/
theorem cellI (ns : List Int) (j : Int) (h : 0 ≤ j) : ∃ c, m_law_cell_at [scr ns, .int j] = some (.int c) := by
  by_cases q : j < ns.length
  · have e : (ns.map fun n => (PyData.int n, PyData.none))[j.toNat]? = some (.int ns[j.toNat], .none) := by
      rw [List.getElem?_map, List.getElem?_eq_getElem (by omega)] <;> rfl
    have e2 : atI (ns.map fun n => (PyData.int n, PyData.none)) j = some (.int ns[j.toNat], .none) := by
      rw [← e]
      unfold atI ixN
      rw [if_pos h, if_pos (by rw [List.length_map]; exact q)]
      rfl
    exact ⟨ns[j.toNat], by simp [m_law_cell_at, ir_law_cell_at, tb_law_cell_at, Fx.run, Fx.evS, Fx.evE, Fx.evEs, Fx.evI, Fx.evP, Fx.o2, Fx.bt, Fx.ixD, Fx.slD, Fx.inD, Fx.eqD, Fx.isiD, Fx.isDict, Fx.setX, Fx.setXs, Fx.isNew, Fx.fzE, Fx.fzC, Fx.seqD, Fx.flatD, Fx.small, Fx.atI_0, Fx.atI_1, Fx.atI_2, Fx.atI_3, Fx.atI_4, Fx.atI_5, q, e2]⟩
  · exact ⟨0, by simp [m_law_cell_at, ir_law_cell_at, tb_law_cell_at, Fx.run, Fx.evS, Fx.evE, Fx.evEs, Fx.evI, Fx.evP, Fx.o2, Fx.bt, Fx.ixD, Fx.slD, Fx.inD, Fx.eqD, Fx.isiD, Fx.isDict, Fx.setX, Fx.setXs, Fx.isNew, Fx.fzE, Fx.fzC, Fx.seqD, Fx.flatD, Fx.small, Fx.atI_0, Fx.atI_1, Fx.atI_2, Fx.atI_3, Fx.atI_4, Fx.atI_5, q]⟩
theorem mapO_ints (f : D → Option (Option D)) (h : ∀ i : Int, ∃ z : Int, f (.int i) = some (some (.int z))) : ∀ (n : Nat) (lo : Int), ∃ L : List Int, mapO f (rngD lo n) = some (L.map PyData.int)
  | 0, _ => ⟨[], rfl⟩
  | n + 1, lo => by
    obtain ⟨z, hz⟩ := h lo
    obtain ⟨L, hL⟩ := mapO_ints f h n (lo + 1)
    refine ⟨z :: L, ?_⟩
    show ((f (.int lo)).bind fun o => (mapO f (rngD (lo + 1) n)).bind fun l => _) = _
    rw [hz, hL]
    rfl
theorem many_at (c : Int) : ∃ n : Int, 0 ≤ n ∧ n ≤ 20 ∧ atI [PyData.int 1, .int 2, .int 5, .int 20] (c / 280 % 4) = some (.int n) := by
  have h : c / 280 % 4 = 0 ∨ c / 280 % 4 = 1 ∨ c / 280 % 4 = 2 ∨ c / 280 % 4 = 3 := by omega
  rcases h with h | h | h | h <;> rw [h]
  · exact ⟨1, by omega, by omega, rfl⟩
  · exact ⟨2, by omega, by omega, rfl⟩
  · exact ⟨5, by omega, by omega, rfl⟩
  · exact ⟨20, by omega, by omega, rfl⟩
theorem rngD_length : ∀ (n : Nat) (lo : Int), (rngD lo n).length = n
  | 0, _ => rfl
  | n + 1, lo => congrArg (· + 1) (rngD_length n (lo + 1))
theorem comp_ints {T : Tab} {elt : E} {i : Nat} {it : Wk} {ρ : Rho} {n : Nat} {lo : Int} (hit : evI T it ρ = some (rngD lo n)) (hn : n ≤ sizeLine) (h : ∀ j : Int, ∃ z : Int, evE T elt (ρ.set i (.v (.int j))) = some (.int z)) : ∃ L : List Int, evE T (.comp elt [i] it) ρ = some (.list (L.map PyData.int)) := by
  obtain ⟨L, hL⟩ := mapO_ints (fun d => (setX ρ [i] d).bind fun ρ' => (evE T elt ρ').map some) (fun j => by
    obtain ⟨z, hz⟩ := h j
    exact ⟨z, by
      show ((evE T elt (ρ.set i (.v (.int j)))).map some) = _
      rw [hz]
      rfl⟩) n lo
  refine ⟨L, ?_⟩
  simp only [evE, hit, Option.bind_some]
  rw [if_pos (by rw [rngD_length]; exact hn), hL]
  rfl
theorem hbb_it (c far n : Int) (r : D) (h0 : 0 ≤ n) (hn : n ≤ 20) : evI tb_law_head_by it_law_head_by_c1 [.v (.int c), .v (.int far), .v r, .v (.str "but"), .v (.int (far + c / 4 % 70)), .v (.int n), .no] = some (rngD 0 n.toNat) := by
  have q1 : (-4611686018427387904 : Int) ≤ n := by omega
  have q2 : n < 4611686018427387904 := by omega
  simp [it_law_head_by_c1, Fx.run, Fx.evS, Fx.evE, Fx.evEs, Fx.evI, Fx.evP, Fx.o2, Fx.bt, Fx.ixD, Fx.slD, Fx.inD, Fx.eqD, Fx.isiD, Fx.isDict, Fx.setX, Fx.setXs, Fx.isNew, Fx.fzE, Fx.fzC, Fx.seqD, Fx.flatD, Fx.small, Fx.atI_0, Fx.atI_1, Fx.atI_2, Fx.atI_3, Fx.atI_4, Fx.atI_5, rngs, inLine, q1, q2]
theorem hbb_el (c far i0 : Int) (x0 x1 x2 : Cel) (i : Int) : evE tb_law_head_by el_law_head_by_c1 [.v (.int c), x0, x1, x2, .v (.int far), .v (.int i0), .v (.int i)] = some (.int (far / 24 + i * (1 + c / 1120 % 3))) := by
  have s1 : -18446744073709551616 < 1 + c / 1120 % 3 := by omega
  have s2 : 1 + c / 1120 % 3 < 18446744073709551616 := by omega
  simp [el_law_head_by_c1, Fx.run, Fx.evS, Fx.evE, Fx.evEs, Fx.evI, Fx.evP, Fx.o2, Fx.bt, Fx.ixD, Fx.slD, Fx.inD, Fx.eqD, Fx.isiD, Fx.isDict, Fx.setX, Fx.setXs, Fx.isNew, Fx.fzE, Fx.fzC, Fx.seqD, Fx.flatD, Fx.small, Fx.atI_0, Fx.atI_1, Fx.atI_2, Fx.atI_3, Fx.atI_4, Fx.atI_5, s1, s2]
theorem le20 {n : Int} (hn : n ≤ 20) : n.toNat ≤ sizeLine := by unfold sizeLine; omega
theorem hbb_cp (c far n : Int) (r : D) (h0 : 0 ≤ n) (hn : n ≤ 20) : ∃ L : List Int, evE tb_law_head_by cp_law_head_by_c1 [.v (.int c), .v (.int far), .v r, .v (.str "but"), .v (.int (far + c / 4 % 70)), .v (.int n), .no] = some (.list (L.map PyData.int)) :=
  comp_ints (i := 6) (elt := el_law_head_by_c1) (hbb_it c far n r h0 hn) (le20 hn) fun i => ⟨_, hbb_el c (far + c / 4 % 70) n (.v (.int far)) (.v r) (.v (.str "but")) i⟩
theorem head_by_but (c far : Int) (r : D) (k : c % 4 = 3) : ∃ L : List Int, m_law_head_by [.int c, .int far, r] = some (Hd.d (.bu L) r) := by
  obtain ⟨n, h0, hn, hm⟩ := many_at c
  obtain ⟨L, hL⟩ := hbb_cp c far n r h0 hn
  refine ⟨L, ?_⟩
  simp [m_law_head_by, ir_law_head_by, Hd.d, Fx.run, Fx.evS, Fx.evE, Fx.evEs, Fx.evI, Fx.evP, Fx.o2, Fx.bt, Fx.ixD, Fx.slD, Fx.inD, Fx.eqD, Fx.isiD, Fx.isDict, Fx.setX, Fx.setXs, Fx.isNew, Fx.fzE, Fx.fzC, Fx.seqD, Fx.flatD, Fx.small, Fx.atI_0, Fx.atI_1, Fx.atI_2, Fx.atI_3, Fx.atI_4, Fx.atI_5, w_once_every, b_once_every, w_once_week, b_once_week, w_once_month, b_once_month, w_once_from, b_once_from, w_once_until, b_once_until, w_once_also, b_once_also, w_once_but, b_once_but, w_every_once, b_every_once, w_every_week, b_every_week, w_every_month, b_every_month, w_every_from, b_every_from, w_every_until, b_every_until, w_every_also, b_every_also, w_every_but, b_every_but, w_week_once, b_week_once, w_week_every, b_week_every, w_week_month, b_week_month, w_week_from, b_week_from, w_week_until, b_week_until, w_week_also, b_week_also, w_week_but, b_week_but, w_month_once, b_month_once, w_month_every, b_month_every, w_month_week, b_month_week, w_month_from, b_month_from, w_month_until, b_month_until, w_month_also, b_month_also, w_month_but, b_month_but, w_from_once, b_from_once, w_from_every, b_from_every, w_from_week, b_from_week, w_from_month, b_from_month, w_from_until, b_from_until, w_from_also, b_from_also, w_from_but, b_from_but, w_until_once, b_until_once, w_until_every, b_until_every, w_until_week, b_until_week, w_until_month, b_until_month, w_until_from, b_until_from, w_until_also, b_until_also, w_until_but, b_until_but, w_also_once, b_also_once, w_also_every, b_also_every, w_also_week, b_also_week, w_also_month, b_also_month, w_also_from, b_also_from, w_also_until, b_also_until, w_also_but, b_also_but, w_but_once, b_but_once, w_but_every, b_but_every, w_but_week, b_but_week, w_but_month, b_but_month, w_but_from, b_but_from, w_but_until, b_but_until, w_but_also, b_but_also, k, sizeLine, hm, hL]
theorem head_by_ok (c far : Int) (r : D) : ∃ h : Hd, m_law_head_by [.int c, .int far, r] = some (h.d r) := by
  have k : c % 4 = 0 ∨ c % 4 = 1 ∨ c % 4 = 2 ∨ c % 4 = 3 := by omega
  rcases k with k | k | k | k
  · exact ⟨.fr (far + c / 4 % 70), by simp [m_law_head_by, ir_law_head_by, tb_law_head_by, Hd.d, Fx.run, Fx.evS, Fx.evE, Fx.evEs, Fx.evI, Fx.evP, Fx.o2, Fx.bt, Fx.ixD, Fx.slD, Fx.inD, Fx.eqD, Fx.isiD, Fx.isDict, Fx.setX, Fx.setXs, Fx.isNew, Fx.fzE, Fx.fzC, Fx.seqD, Fx.flatD, Fx.small, Fx.atI_0, Fx.atI_1, Fx.atI_2, Fx.atI_3, Fx.atI_4, Fx.atI_5, w_once_every, b_once_every, w_once_week, b_once_week, w_once_month, b_once_month, w_once_from, b_once_from, w_once_until, b_once_until, w_once_also, b_once_also, w_once_but, b_once_but, w_every_once, b_every_once, w_every_week, b_every_week, w_every_month, b_every_month, w_every_from, b_every_from, w_every_until, b_every_until, w_every_also, b_every_also, w_every_but, b_every_but, w_week_once, b_week_once, w_week_every, b_week_every, w_week_month, b_week_month, w_week_from, b_week_from, w_week_until, b_week_until, w_week_also, b_week_also, w_week_but, b_week_but, w_month_once, b_month_once, w_month_every, b_month_every, w_month_week, b_month_week, w_month_from, b_month_from, w_month_until, b_month_until, w_month_also, b_month_also, w_month_but, b_month_but, w_from_once, b_from_once, w_from_every, b_from_every, w_from_week, b_from_week, w_from_month, b_from_month, w_from_until, b_from_until, w_from_also, b_from_also, w_from_but, b_from_but, w_until_once, b_until_once, w_until_every, b_until_every, w_until_week, b_until_week, w_until_month, b_until_month, w_until_from, b_until_from, w_until_also, b_until_also, w_until_but, b_until_but, w_also_once, b_also_once, w_also_every, b_also_every, w_also_week, b_also_week, w_also_month, b_also_month, w_also_from, b_also_from, w_also_until, b_also_until, w_also_but, b_also_but, w_but_once, b_but_once, w_but_every, b_but_every, w_but_week, b_but_week, w_but_month, b_but_month, w_but_from, b_but_from, w_but_until, b_but_until, w_but_also, b_but_also, k, sizeLine]⟩
  · exact ⟨.un (far + c / 4 % 70), by simp [m_law_head_by, ir_law_head_by, tb_law_head_by, Hd.d, Fx.run, Fx.evS, Fx.evE, Fx.evEs, Fx.evI, Fx.evP, Fx.o2, Fx.bt, Fx.ixD, Fx.slD, Fx.inD, Fx.eqD, Fx.isiD, Fx.isDict, Fx.setX, Fx.setXs, Fx.isNew, Fx.fzE, Fx.fzC, Fx.seqD, Fx.flatD, Fx.small, Fx.atI_0, Fx.atI_1, Fx.atI_2, Fx.atI_3, Fx.atI_4, Fx.atI_5, w_once_every, b_once_every, w_once_week, b_once_week, w_once_month, b_once_month, w_once_from, b_once_from, w_once_until, b_once_until, w_once_also, b_once_also, w_once_but, b_once_but, w_every_once, b_every_once, w_every_week, b_every_week, w_every_month, b_every_month, w_every_from, b_every_from, w_every_until, b_every_until, w_every_also, b_every_also, w_every_but, b_every_but, w_week_once, b_week_once, w_week_every, b_week_every, w_week_month, b_week_month, w_week_from, b_week_from, w_week_until, b_week_until, w_week_also, b_week_also, w_week_but, b_week_but, w_month_once, b_month_once, w_month_every, b_month_every, w_month_week, b_month_week, w_month_from, b_month_from, w_month_until, b_month_until, w_month_also, b_month_also, w_month_but, b_month_but, w_from_once, b_from_once, w_from_every, b_from_every, w_from_week, b_from_week, w_from_month, b_from_month, w_from_until, b_from_until, w_from_also, b_from_also, w_from_but, b_from_but, w_until_once, b_until_once, w_until_every, b_until_every, w_until_week, b_until_week, w_until_month, b_until_month, w_until_from, b_until_from, w_until_also, b_until_also, w_until_but, b_until_but, w_also_once, b_also_once, w_also_every, b_also_every, w_also_week, b_also_week, w_also_month, b_also_month, w_also_from, b_also_from, w_also_until, b_also_until, w_also_but, b_also_but, w_but_once, b_but_once, w_but_every, b_but_every, w_but_week, b_but_week, w_but_month, b_but_month, w_but_from, b_but_from, w_but_until, b_but_until, w_but_also, b_but_also, k, sizeLine]⟩
  · exact ⟨.al (far + c / 4 % 70), by simp [m_law_head_by, ir_law_head_by, tb_law_head_by, Hd.d, Fx.run, Fx.evS, Fx.evE, Fx.evEs, Fx.evI, Fx.evP, Fx.o2, Fx.bt, Fx.ixD, Fx.slD, Fx.inD, Fx.eqD, Fx.isiD, Fx.isDict, Fx.setX, Fx.setXs, Fx.isNew, Fx.fzE, Fx.fzC, Fx.seqD, Fx.flatD, Fx.small, Fx.atI_0, Fx.atI_1, Fx.atI_2, Fx.atI_3, Fx.atI_4, Fx.atI_5, w_once_every, b_once_every, w_once_week, b_once_week, w_once_month, b_once_month, w_once_from, b_once_from, w_once_until, b_once_until, w_once_also, b_once_also, w_once_but, b_once_but, w_every_once, b_every_once, w_every_week, b_every_week, w_every_month, b_every_month, w_every_from, b_every_from, w_every_until, b_every_until, w_every_also, b_every_also, w_every_but, b_every_but, w_week_once, b_week_once, w_week_every, b_week_every, w_week_month, b_week_month, w_week_from, b_week_from, w_week_until, b_week_until, w_week_also, b_week_also, w_week_but, b_week_but, w_month_once, b_month_once, w_month_every, b_month_every, w_month_week, b_month_week, w_month_from, b_month_from, w_month_until, b_month_until, w_month_also, b_month_also, w_month_but, b_month_but, w_from_once, b_from_once, w_from_every, b_from_every, w_from_week, b_from_week, w_from_month, b_from_month, w_from_until, b_from_until, w_from_also, b_from_also, w_from_but, b_from_but, w_until_once, b_until_once, w_until_every, b_until_every, w_until_week, b_until_week, w_until_month, b_until_month, w_until_from, b_until_from, w_until_also, b_until_also, w_until_but, b_until_but, w_also_once, b_also_once, w_also_every, b_also_every, w_also_week, b_also_week, w_also_month, b_also_month, w_also_from, b_also_from, w_also_until, b_also_until, w_also_but, b_also_but, w_but_once, b_but_once, w_but_every, b_but_every, w_but_week, b_but_week, w_but_month, b_but_month, w_but_from, b_but_from, w_but_until, b_but_until, w_but_also, b_but_also, k, sizeLine]⟩
  · obtain ⟨L, h⟩ := head_by_but c far r k
    exact ⟨.bu L, h⟩

end k08

namespace k08
open PySem L2 Fx
/-! ### rounds and the settled hour -/
def rdP : Pl → Int
  | .once _ _ => 1
  | .every _ _ s => s
  | .week _ _ _ => 168
  | .month _ _ _ => 35064
def stP : Pl → Int
  | .once h _ => h + 1
  | .every h _ _ => h
  | .week _ _ _ => 0
  | .month _ _ _ => 0
def stH : Hd → Int
  | .fr k => k
  | .un k => k
  | .al k => k + 1
  | .bu ds => ((maxL ds).getD (-1) + 1) * 24
theorem rd_c0 (p : Pl) (a : Cel) : evE tb_round_of c_round_of_w1 [a, .v p.d] = some (.bool false) := by
  cases p <;> simp [c_round_of_w1, tb_round_of, Pl.d, Fx.run, Fx.evS, Fx.evE, Fx.evEs, Fx.evI, Fx.evP, Fx.o2, Fx.bt, Fx.ixD, Fx.slD, Fx.inD, Fx.eqD, Fx.isiD, Fx.isDict, Fx.setX, Fx.setXs, Fx.isNew, Fx.fzE, Fx.fzC, Fx.seqD, Fx.flatD, Fx.small, Fx.atI_0, Fx.atI_1, Fx.atI_2, Fx.atI_3, Fx.atI_4, Fx.atI_5, inF, eqF, w_once_every, b_once_every, w_once_week, b_once_week, w_once_month, b_once_month, w_once_from, b_once_from, w_once_until, b_once_until, w_once_also, b_once_also, w_once_but, b_once_but, w_every_once, b_every_once, w_every_week, b_every_week, w_every_month, b_every_month, w_every_from, b_every_from, w_every_until, b_every_until, w_every_also, b_every_also, w_every_but, b_every_but, w_week_once, b_week_once, w_week_every, b_week_every, w_week_month, b_week_month, w_week_from, b_week_from, w_week_until, b_week_until, w_week_also, b_week_also, w_week_but, b_week_but, w_month_once, b_month_once, w_month_every, b_month_every, w_month_week, b_month_week, w_month_from, b_month_from, w_month_until, b_month_until, w_month_also, b_month_also, w_month_but, b_month_but, w_from_once, b_from_once, w_from_every, b_from_every, w_from_week, b_from_week, w_from_month, b_from_month, w_from_until, b_from_until, w_from_also, b_from_also, w_from_but, b_from_but, w_until_once, b_until_once, w_until_every, b_until_every, w_until_week, b_until_week, w_until_month, b_until_month, w_until_from, b_until_from, w_until_also, b_until_also, w_until_but, b_until_but, w_also_once, b_also_once, w_also_every, b_also_every, w_also_week, b_also_week, w_also_month, b_also_month, w_also_from, b_also_from, w_also_until, b_also_until, w_also_but, b_also_but, w_but_once, b_but_once, w_but_every, b_but_every, w_but_week, b_but_week, w_but_month, b_but_month, w_but_from, b_but_from, w_but_until, b_but_until, w_but_also, b_but_also]
theorem rd_c1 (h : Hd) (r : D) (a : Cel) : evE tb_round_of c_round_of_w1 [a, .v (h.d r)] = some (.bool true) := by
  cases h <;> simp [c_round_of_w1, tb_round_of, Hd.d, Fx.run, Fx.evS, Fx.evE, Fx.evEs, Fx.evI, Fx.evP, Fx.o2, Fx.bt, Fx.ixD, Fx.slD, Fx.inD, Fx.eqD, Fx.isiD, Fx.isDict, Fx.setX, Fx.setXs, Fx.isNew, Fx.fzE, Fx.fzC, Fx.seqD, Fx.flatD, Fx.small, Fx.atI_0, Fx.atI_1, Fx.atI_2, Fx.atI_3, Fx.atI_4, Fx.atI_5, inF, eqF, w_once_every, b_once_every, w_once_week, b_once_week, w_once_month, b_once_month, w_once_from, b_once_from, w_once_until, b_once_until, w_once_also, b_once_also, w_once_but, b_once_but, w_every_once, b_every_once, w_every_week, b_every_week, w_every_month, b_every_month, w_every_from, b_every_from, w_every_until, b_every_until, w_every_also, b_every_also, w_every_but, b_every_but, w_week_once, b_week_once, w_week_every, b_week_every, w_week_month, b_week_month, w_week_from, b_week_from, w_week_until, b_week_until, w_week_also, b_week_also, w_week_but, b_week_but, w_month_once, b_month_once, w_month_every, b_month_every, w_month_week, b_month_week, w_month_from, b_month_from, w_month_until, b_month_until, w_month_also, b_month_also, w_month_but, b_month_but, w_from_once, b_from_once, w_from_every, b_from_every, w_from_week, b_from_week, w_from_month, b_from_month, w_from_until, b_from_until, w_from_also, b_from_also, w_from_but, b_from_but, w_until_once, b_until_once, w_until_every, b_until_every, w_until_week, b_until_week, w_until_month, b_until_month, w_until_from, b_until_from, w_until_also, b_until_also, w_until_but, b_until_but, w_also_once, b_also_once, w_also_every, b_also_every, w_also_week, b_also_week, w_also_month, b_also_month, w_also_from, b_also_from, w_also_until, b_also_until, w_also_but, b_also_but, w_but_once, b_but_once, w_but_every, b_but_every, w_but_week, b_but_week, w_but_month, b_but_month, w_but_from, b_but_from, w_but_until, b_but_until, w_but_also, b_but_also]
theorem rd_b (h : Hd) (ps : List D) (a : Cel) : evS tb_round_of b_round_of_w1 [a, .v (h.d (.tuple ps))] = some (.nx [a, .v (.tuple ps)]) := by
  cases h <;> simp [b_round_of_w1, tb_round_of, Hd.d, Fx.run, Fx.evS, Fx.evE, Fx.evEs, Fx.evI, Fx.evP, Fx.o2, Fx.bt, Fx.ixD, Fx.slD, Fx.inD, Fx.eqD, Fx.isiD, Fx.isDict, Fx.setX, Fx.setXs, Fx.isNew, Fx.fzE, Fx.fzC, Fx.seqD, Fx.flatD, Fx.small, Fx.atI_0, Fx.atI_1, Fx.atI_2, Fx.atI_3, Fx.atI_4, Fx.atI_5]
theorem rd_loop (p : Pl) (a : Cel) : ∀ (hs : List Hd) (n : Nat), hs.length < n → whE (evE tb_round_of c_round_of_w1) (evS tb_round_of b_round_of_w1) n [a, .v (bd hs p)] = some (.nx [a, .v p.d])
  | _, 0, h => by omega
  | [], n + 1, _ => whE_f (rd_c0 p a)
  | h :: hs, n + 1, hl => by
    obtain ⟨ps, e⟩ := bd_tup hs p
    have ih := rd_loop p a hs n (by rw [List.length_cons] at hl; omega)
    show whE _ _ (n + 1) [a, .v (h.d (bd hs p))] = _
    rw [e] at ih ⊢
    rw [whE_t (rd_c1 h _ a) (rd_b h ps a)]
    exact ih
theorem round_eq (hs : List Hd) (p : Pl) (hl : hs.length < 200) : m_round_of [bd hs p] = some (.int (rdP p)) := by
  obtain ⟨ps, e0⟩ := bd_tup hs p
  have e := rd_loop p (.v (bd hs p)) hs 200 hl
  rw [e0] at e ⊢
  cases p <;> simp [Pl.d] at e <;> simp [m_round_of, ir_round_of, Pl.d, rdP, Fx.run, Fx.evS, Fx.evE, Fx.evEs, Fx.evI, Fx.evP, Fx.o2, Fx.bt, Fx.ixD, Fx.slD, Fx.inD, Fx.eqD, Fx.isiD, Fx.isDict, Fx.setX, Fx.setXs, Fx.isNew, Fx.fzE, Fx.fzC, Fx.seqD, Fx.flatD, Fx.small, Fx.atI_0, Fx.atI_1, Fx.atI_2, Fx.atI_3, Fx.atI_4, Fx.atI_5, e, inF, eqF, w_once_every, b_once_every, w_once_week, b_once_week, w_once_month, b_once_month, w_once_from, b_once_from, w_once_until, b_once_until, w_once_also, b_once_also, w_once_but, b_once_but, w_every_once, b_every_once, w_every_week, b_every_week, w_every_month, b_every_month, w_every_from, b_every_from, w_every_until, b_every_until, w_every_also, b_every_also, w_every_but, b_every_but, w_week_once, b_week_once, w_week_every, b_week_every, w_week_month, b_week_month, w_week_from, b_week_from, w_week_until, b_week_until, w_week_also, b_week_also, w_week_but, b_week_but, w_month_once, b_month_once, w_month_every, b_month_every, w_month_week, b_month_week, w_month_from, b_month_from, w_month_until, b_month_until, w_month_also, b_month_also, w_month_but, b_month_but, w_from_once, b_from_once, w_from_every, b_from_every, w_from_week, b_from_week, w_from_month, b_from_month, w_from_until, b_from_until, w_from_also, b_from_also, w_from_but, b_from_but, w_until_once, b_until_once, w_until_every, b_until_every, w_until_week, b_until_week, w_until_month, b_until_month, w_until_from, b_until_from, w_until_also, b_until_also, w_until_but, b_until_but, w_also_once, b_also_once, w_also_every, b_also_every, w_also_week, b_also_week, w_also_month, b_also_month, w_also_from, b_also_from, w_also_until, b_also_until, w_also_but, b_also_but, w_but_once, b_but_once, w_but_every, b_but_every, w_but_week, b_but_week, w_but_month, b_but_month, w_but_from, b_but_from, w_but_until, b_but_until, w_but_also, b_but_also, sizeLine] <;> simp [tb_round_of]
theorem st_plain_eq (p : Pl) : m_settled_plain [p.d] = some (.int (stP p)) := by
  cases p <;> simp [m_settled_plain, ir_settled_plain, tb_settled_plain, Pl.d, stP, Fx.run, Fx.evS, Fx.evE, Fx.evEs, Fx.evI, Fx.evP, Fx.o2, Fx.bt, Fx.ixD, Fx.slD, Fx.inD, Fx.eqD, Fx.isiD, Fx.isDict, Fx.setX, Fx.setXs, Fx.isNew, Fx.fzE, Fx.fzC, Fx.seqD, Fx.flatD, Fx.small, Fx.atI_0, Fx.atI_1, Fx.atI_2, Fx.atI_3, Fx.atI_4, Fx.atI_5, w_once_every, b_once_every, w_once_week, b_once_week, w_once_month, b_once_month, w_once_from, b_once_from, w_once_until, b_once_until, w_once_also, b_once_also, w_once_but, b_once_but, w_every_once, b_every_once, w_every_week, b_every_week, w_every_month, b_every_month, w_every_from, b_every_from, w_every_until, b_every_until, w_every_also, b_every_also, w_every_but, b_every_but, w_week_once, b_week_once, w_week_every, b_week_every, w_week_month, b_week_month, w_week_from, b_week_from, w_week_until, b_week_until, w_week_also, b_week_also, w_week_but, b_week_but, w_month_once, b_month_once, w_month_every, b_month_every, w_month_week, b_month_week, w_month_from, b_month_from, w_month_until, b_month_until, w_month_also, b_month_also, w_month_but, b_month_but, w_from_once, b_from_once, w_from_every, b_from_every, w_from_week, b_from_week, w_from_month, b_from_month, w_from_until, b_from_until, w_from_also, b_from_also, w_from_but, b_from_but, w_until_once, b_until_once, w_until_every, b_until_every, w_until_week, b_until_week, w_until_month, b_until_month, w_until_from, b_until_from, w_until_also, b_until_also, w_until_but, b_until_but, w_also_once, b_also_once, w_also_every, b_also_every, w_also_week, b_also_week, w_also_month, b_also_month, w_also_from, b_also_from, w_also_until, b_also_until, w_also_but, b_also_but, w_but_once, b_but_once, w_but_every, b_but_every, w_but_week, b_but_week, w_but_month, b_but_month, w_but_from, b_but_from, w_but_until, b_but_until, w_but_also, b_but_also]
theorem intsD_ints : ∀ L : List Int, intsD (L.map PyData.int) = some L
  | [] => rfl
  | n :: L => by
    show (intsD (L.map PyData.int)).map (n :: ·) = _
    rw [intsD_ints L] <;> rfl
theorem st_around_eq (h : Hd) (r : D) : m_settled_around [h.d r] = some (.int (stH h)) := by
  cases h with
  | bu ds =>
    have e : x2D .mxd (.tuple (ds.map PyData.int)) (.int (-1)) = some (.int ((maxL ds).getD (-1))) := by
      show (intsD (ds.map PyData.int)).map _ = _
      rw [intsD_ints] <;> rfl
    simp [m_settled_around, ir_settled_around, tb_settled_around, Hd.d, stH, Fx.run, Fx.evS, Fx.evE, Fx.evEs, Fx.evI, Fx.evP, Fx.o2, Fx.bt, Fx.ixD, Fx.slD, Fx.inD, Fx.eqD, Fx.isiD, Fx.isDict, Fx.setX, Fx.setXs, Fx.isNew, Fx.fzE, Fx.fzC, Fx.seqD, Fx.flatD, Fx.small, Fx.atI_0, Fx.atI_1, Fx.atI_2, Fx.atI_3, Fx.atI_4, Fx.atI_5, w_once_every, b_once_every, w_once_week, b_once_week, w_once_month, b_once_month, w_once_from, b_once_from, w_once_until, b_once_until, w_once_also, b_once_also, w_once_but, b_once_but, w_every_once, b_every_once, w_every_week, b_every_week, w_every_month, b_every_month, w_every_from, b_every_from, w_every_until, b_every_until, w_every_also, b_every_also, w_every_but, b_every_but, w_week_once, b_week_once, w_week_every, b_week_every, w_week_month, b_week_month, w_week_from, b_week_from, w_week_until, b_week_until, w_week_also, b_week_also, w_week_but, b_week_but, w_month_once, b_month_once, w_month_every, b_month_every, w_month_week, b_month_week, w_month_from, b_month_from, w_month_until, b_month_until, w_month_also, b_month_also, w_month_but, b_month_but, w_from_once, b_from_once, w_from_every, b_from_every, w_from_week, b_from_week, w_from_month, b_from_month, w_from_until, b_from_until, w_from_also, b_from_also, w_from_but, b_from_but, w_until_once, b_until_once, w_until_every, b_until_every, w_until_week, b_until_week, w_until_month, b_until_month, w_until_from, b_until_from, w_until_also, b_until_also, w_until_but, b_until_but, w_also_once, b_also_once, w_also_every, b_also_every, w_also_week, b_also_week, w_also_month, b_also_month, w_also_from, b_also_from, w_also_until, b_also_until, w_also_but, b_also_but, w_but_once, b_but_once, w_but_every, b_but_every, w_but_week, b_but_week, w_but_month, b_but_month, w_but_from, b_but_from, w_but_until, b_but_until, w_but_also, b_but_also, e]
  | _ => simp [m_settled_around, ir_settled_around, tb_settled_around, Hd.d, stH, Fx.run, Fx.evS, Fx.evE, Fx.evEs, Fx.evI, Fx.evP, Fx.o2, Fx.bt, Fx.ixD, Fx.slD, Fx.inD, Fx.eqD, Fx.isiD, Fx.isDict, Fx.setX, Fx.setXs, Fx.isNew, Fx.fzE, Fx.fzC, Fx.seqD, Fx.flatD, Fx.small, Fx.atI_0, Fx.atI_1, Fx.atI_2, Fx.atI_3, Fx.atI_4, Fx.atI_5, w_once_every, b_once_every, w_once_week, b_once_week, w_once_month, b_once_month, w_once_from, b_once_from, w_once_until, b_once_until, w_once_also, b_once_also, w_once_but, b_once_but, w_every_once, b_every_once, w_every_week, b_every_week, w_every_month, b_every_month, w_every_from, b_every_from, w_every_until, b_every_until, w_every_also, b_every_also, w_every_but, b_every_but, w_week_once, b_week_once, w_week_every, b_week_every, w_week_month, b_week_month, w_week_from, b_week_from, w_week_until, b_week_until, w_week_also, b_week_also, w_week_but, b_week_but, w_month_once, b_month_once, w_month_every, b_month_every, w_month_week, b_month_week, w_month_from, b_month_from, w_month_until, b_month_until, w_month_also, b_month_also, w_month_but, b_month_but, w_from_once, b_from_once, w_from_every, b_from_every, w_from_week, b_from_week, w_from_month, b_from_month, w_from_until, b_from_until, w_from_also, b_from_also, w_from_but, b_from_but, w_until_once, b_until_once, w_until_every, b_until_every, w_until_week, b_until_week, w_until_month, b_until_month, w_until_from, b_until_from, w_until_also, b_until_also, w_until_but, b_until_but, w_also_once, b_also_once, w_also_every, b_also_every, w_also_week, b_also_week, w_also_month, b_also_month, w_also_from, b_also_from, w_also_until, b_also_until, w_also_but, b_also_but, w_but_once, b_but_once, w_but_every, b_but_every, w_but_week, b_but_week, w_but_month, b_but_month, w_but_from, b_but_from, w_but_until, b_but_until, w_but_also, b_but_also]
theorem st_c0 (p : Pl) (a b : Cel) : evE tb_settled c_settled_w1 [a, b, .v p.d] = some (.bool false) := by
  cases p <;> simp [c_settled_w1, tb_settled, Pl.d, Fx.run, Fx.evS, Fx.evE, Fx.evEs, Fx.evI, Fx.evP, Fx.o2, Fx.bt, Fx.ixD, Fx.slD, Fx.inD, Fx.eqD, Fx.isiD, Fx.isDict, Fx.setX, Fx.setXs, Fx.isNew, Fx.fzE, Fx.fzC, Fx.seqD, Fx.flatD, Fx.small, Fx.atI_0, Fx.atI_1, Fx.atI_2, Fx.atI_3, Fx.atI_4, Fx.atI_5, inF, eqF, w_once_every, b_once_every, w_once_week, b_once_week, w_once_month, b_once_month, w_once_from, b_once_from, w_once_until, b_once_until, w_once_also, b_once_also, w_once_but, b_once_but, w_every_once, b_every_once, w_every_week, b_every_week, w_every_month, b_every_month, w_every_from, b_every_from, w_every_until, b_every_until, w_every_also, b_every_also, w_every_but, b_every_but, w_week_once, b_week_once, w_week_every, b_week_every, w_week_month, b_week_month, w_week_from, b_week_from, w_week_until, b_week_until, w_week_also, b_week_also, w_week_but, b_week_but, w_month_once, b_month_once, w_month_every, b_month_every, w_month_week, b_month_week, w_month_from, b_month_from, w_month_until, b_month_until, w_month_also, b_month_also, w_month_but, b_month_but, w_from_once, b_from_once, w_from_every, b_from_every, w_from_week, b_from_week, w_from_month, b_from_month, w_from_until, b_from_until, w_from_also, b_from_also, w_from_but, b_from_but, w_until_once, b_until_once, w_until_every, b_until_every, w_until_week, b_until_week, w_until_month, b_until_month, w_until_from, b_until_from, w_until_also, b_until_also, w_until_but, b_until_but, w_also_once, b_also_once, w_also_every, b_also_every, w_also_week, b_also_week, w_also_month, b_also_month, w_also_from, b_also_from, w_also_until, b_also_until, w_also_but, b_also_but, w_but_once, b_but_once, w_but_every, b_but_every, w_but_week, b_but_week, w_but_month, b_but_month, w_but_from, b_but_from, w_but_until, b_but_until, w_but_also, b_but_also]
theorem st_c1 (h : Hd) (r : D) (a b : Cel) : evE tb_settled c_settled_w1 [a, b, .v (h.d r)] = some (.bool true) := by
  cases h <;> simp [c_settled_w1, tb_settled, Hd.d, Fx.run, Fx.evS, Fx.evE, Fx.evEs, Fx.evI, Fx.evP, Fx.o2, Fx.bt, Fx.ixD, Fx.slD, Fx.inD, Fx.eqD, Fx.isiD, Fx.isDict, Fx.setX, Fx.setXs, Fx.isNew, Fx.fzE, Fx.fzC, Fx.seqD, Fx.flatD, Fx.small, Fx.atI_0, Fx.atI_1, Fx.atI_2, Fx.atI_3, Fx.atI_4, Fx.atI_5, inF, eqF, w_once_every, b_once_every, w_once_week, b_once_week, w_once_month, b_once_month, w_once_from, b_once_from, w_once_until, b_once_until, w_once_also, b_once_also, w_once_but, b_once_but, w_every_once, b_every_once, w_every_week, b_every_week, w_every_month, b_every_month, w_every_from, b_every_from, w_every_until, b_every_until, w_every_also, b_every_also, w_every_but, b_every_but, w_week_once, b_week_once, w_week_every, b_week_every, w_week_month, b_week_month, w_week_from, b_week_from, w_week_until, b_week_until, w_week_also, b_week_also, w_week_but, b_week_but, w_month_once, b_month_once, w_month_every, b_month_every, w_month_week, b_month_week, w_month_from, b_month_from, w_month_until, b_month_until, w_month_also, b_month_also, w_month_but, b_month_but, w_from_once, b_from_once, w_from_every, b_from_every, w_from_week, b_from_week, w_from_month, b_from_month, w_from_until, b_from_until, w_from_also, b_from_also, w_from_but, b_from_but, w_until_once, b_until_once, w_until_every, b_until_every, w_until_week, b_until_week, w_until_month, b_until_month, w_until_from, b_until_from, w_until_also, b_until_also, w_until_but, b_until_but, w_also_once, b_also_once, w_also_every, b_also_every, w_also_week, b_also_week, w_also_month, b_also_month, w_also_from, b_also_from, w_also_until, b_also_until, w_also_but, b_also_but, w_but_once, b_but_once, w_but_every, b_but_every, w_but_week, b_but_week, w_but_month, b_but_month, w_but_from, b_but_from, w_but_until, b_but_until, w_but_also, b_but_also]
theorem st_b (h : Hd) (ps : List D) (a : Cel) (L : List Int) (hl : L.length < 1000) : evS tb_settled b_settled_w1 [a, .own (L.map PyData.int), .v (h.d (.tuple ps))] = some (.nx [a, .own ((L ++ [stH h]).map PyData.int), .v (.tuple ps)]) := by
  have e := st_around_eq h (.tuple ps)
  have f1 : tb_settled.fs[1]? = some m_settled_around := rfl
  have e2 : ixD (h.d (.tuple ps)) (.int 2) = some (.tuple ps) := by cases h <;> rfl
  have hl2 : L.length < 16777216 := by omega
  rw [List.map_append]
  obtain ⟨qs, hq⟩ : ∃ qs, h.d (.tuple ps) = .tuple qs := by cases h <;> exact ⟨_, rfl⟩
  rw [hq] at e e2 ⊢
  simp only [Fx.ixD] at e2
  simp [b_settled_w1, Fx.run, Fx.evS, Fx.evE, Fx.evEs, Fx.evI, Fx.evP, Fx.o2, Fx.bt, Fx.ixD, Fx.slD, Fx.inD, Fx.eqD, Fx.isiD, Fx.isDict, Fx.setX, Fx.setXs, Fx.isNew, Fx.fzE, Fx.fzC, Fx.seqD, Fx.flatD, Fx.small, Fx.atI_0, Fx.atI_1, Fx.atI_2, Fx.atI_3, Fx.atI_4, Fx.atI_5, f1, e, e2, hl2, sizeLine]
theorem st_loop (p : Pl) (a : Cel) : ∀ (hs : List Hd) (n : Nat) (L : List Int), hs.length < n → L.length + hs.length ≤ 900 →
    whE (evE tb_settled c_settled_w1) (evS tb_settled b_settled_w1) n [a, .own (L.map PyData.int), .v (bd hs p)] = some (.nx [a, .own ((L ++ hs.map stH).map PyData.int), .v p.d])
  | _, 0, _, h, _ => by omega
  | [], n + 1, L, _, _ => by
    rw [List.map_nil, List.append_nil]
    exact whE_f (st_c0 p a _)
  | h :: hs, n + 1, L, h1, h2 => by
    obtain ⟨ps, e⟩ := bd_tup hs p
    rw [List.length_cons] at h1 h2
    have ih := st_loop p a hs n (L ++ [stH h]) (by omega) (by rw [List.length_append, List.length_singleton]; omega)
    show whE _ _ (n + 1) [a, .own (L.map PyData.int), .v (h.d (bd hs p))] = _
    rw [e] at ih ⊢
    rw [whE_t (st_c1 h _ a _) (st_b h ps a L (by omega)), ih, List.append_assoc]
    rfl
def stB (hs : List Hd) (p : Pl) : Int := (hs.map stH ++ [stP p]).foldl max 0
theorem maxL_app (L : List Int) (m : Int) (h : 0 ≤ m) : maxL (L ++ [m]) = some ((L ++ [m]).foldl max 0) := by
  obtain ⟨k, hk⟩ : ∃ k, maxL (L ++ [m]) = some k := by
    cases L with
    | nil => exact ⟨_, rfl⟩
    | cons => exact ⟨_, rfl⟩
  obtain ⟨h1, h2⟩ := maxL_of hk
  obtain ⟨h3, h4⟩ := foldl_max (L ++ [m]) 0
  have h5 : m ≤ k := h2 m (by simp)
  have h6 := h4 k (List.mem_cons_of_mem _ h1)
  rw [List.mem_cons] at h3
  rw [hk]
  refine congrArg some (Int.le_antisymm h6 ?_)
  rcases h3 with h3 | h3
  · omega
  · exact h2 _ h3
theorem settled_eq (hs : List Hd) (p : Pl) (hl : hs.length < 200) (h0 : 0 ≤ stP p) : m_settled [bd hs p] = some (.int (stB hs p)) := by
  have e := st_loop p (.v (bd hs p)) hs 200 [] hl (by simp; omega)
  have e1 := st_plain_eq p
  have f0 : tb_settled.fs[0]? = some m_settled_plain := rfl
  obtain ⟨ps, hp⟩ := bd_tup hs p
  obtain ⟨qs, hq⟩ := pd_tup p
  have e2 : bt .max [.list ((hs.map stH ++ [stP p]).map PyData.int)] = some (.int (stB hs p)) := by
    show (intsD ((hs.map stH ++ [stP p]).map PyData.int)).bind (fun ns => (maxL ns).map PyData.int) = _
    rw [intsD_ints]
    show (maxL (hs.map stH ++ [stP p])).map PyData.int = _
    rw [maxL_app _ _ h0] <;> rfl
  have hz : (hs.map stH).length + 1 ≤ 16777216 := by rw [List.length_map]; omega
  rw [List.nil_append] at e
  rw [hp] at e ⊢
  rw [hq] at e e1
  simp only [List.map_nil] at e
  have e3 : evE tb_settled (.spl false (.var 1) (.cons (.call 0 (.cons (.var 2) .nil)) .nil)) [.v (.tuple ps), .v (.list ((hs.map stH).map PyData.int)), .v (.tuple qs)] = some (.list ((hs.map stH ++ [stP p]).map PyData.int)) := by
    rw [List.map_append]
    simp [Fx.run, Fx.evS, Fx.evE, Fx.evEs, Fx.evI, Fx.evP, Fx.o2, Fx.bt, Fx.ixD, Fx.slD, Fx.inD, Fx.eqD, Fx.isiD, Fx.isDict, Fx.setX, Fx.setXs, Fx.isNew, Fx.fzE, Fx.fzC, Fx.seqD, Fx.flatD, Fx.small, Fx.atI_0, Fx.atI_1, Fx.atI_2, Fx.atI_3, Fx.atI_4, Fx.atI_5, f0, e1, sizeLine] at hz ⊢
    omega
  have e4 : evS tb_settled (.seq (.asg 1 (.lst .nil)) (.seq (.asg 2 (.var 0)) .pass)) [.v (.tuple ps), .no, .no] = some (.nx [.v (.tuple ps), .own [], .v (.tuple ps)]) := by
    simp [Fx.run, Fx.evS, Fx.evE, Fx.evEs, Fx.evI, Fx.evP, Fx.o2, Fx.bt, Fx.ixD, Fx.slD, Fx.inD, Fx.eqD, Fx.isiD, Fx.isDict, Fx.setX, Fx.setXs, Fx.isNew, Fx.fzE, Fx.fzC, Fx.seqD, Fx.flatD, Fx.small, Fx.atI_0, Fx.atI_1, Fx.atI_2, Fx.atI_3, Fx.atI_4, Fx.atI_5, sizeLine]
  simp only [Fx.evE] at e3
  simp [m_settled, ir_settled, Fx.run, Fx.evS, Fx.evE, Fx.evEs, Fx.evI, Fx.evP, Fx.o2, Fx.bt, Fx.ixD, Fx.slD, Fx.inD, Fx.eqD, Fx.isiD, Fx.isDict, Fx.setX, Fx.setXs, Fx.isNew, Fx.fzE, Fx.fzC, Fx.seqD, Fx.flatD, Fx.small, Fx.atI_0, Fx.atI_1, Fx.atI_2, Fx.atI_3, Fx.atI_4, Fx.atI_5, e, sizeLine] at e3 e2 ⊢
  simp [e3, e2]

end k08

namespace k08
open PySem L2 Fx
/-! ### the law's own reckoning -/
def HOk : Hd → Prop
  | .bu ds => ∃ M m, ds = M ++ [m] ∧ maxL (M ++ [m]) = some m
  | _ => True
theorem max_if (a b : Int) : (if b > a then b else a) = max a b := by
  rw [Int.max_def]
  split <;> split <;> omega
theorem ls_b (h : Hd) (hk : HOk h) (r : D) (a : Cel) (x : Int) : evS tb_law_settled b_law_settled_w1 [a, .v (.int x), .v (h.d r)] = some (.nx [a, .v (.int (max x (stH h))), .v (h.d r)]) := by
  rw [← max_if]
  cases h with
  | bu ds =>
    obtain ⟨M, m, rfl, hm⟩ := hk
    have e1 : atI (M.map PyData.int ++ [.int m]) (-1) = some (.int m) := neg1 _ _
    have e2 : stH (.bu (M ++ [m])) = m * 24 + 24 := by
      show ((maxL (M ++ [m])).getD (-1) + 1) * 24 = _
      rw [hm]
      show (m + 1) * 24 = _
      omega
    rw [e2]
    simp [b_law_settled_w1, tb_law_settled, Hd.d, Fx.run, Fx.evS, Fx.evE, Fx.evEs, Fx.evI, Fx.evP, Fx.o2, Fx.bt, Fx.ixD, Fx.slD, Fx.inD, Fx.eqD, Fx.isiD, Fx.isDict, Fx.setX, Fx.setXs, Fx.isNew, Fx.fzE, Fx.fzC, Fx.seqD, Fx.flatD, Fx.small, Fx.atI_0, Fx.atI_1, Fx.atI_2, Fx.atI_3, Fx.atI_4, Fx.atI_5, inF, eqF, w_once_every, b_once_every, w_once_week, b_once_week, w_once_month, b_once_month, w_once_from, b_once_from, w_once_until, b_once_until, w_once_also, b_once_also, w_once_but, b_once_but, w_every_once, b_every_once, w_every_week, b_every_week, w_every_month, b_every_month, w_every_from, b_every_from, w_every_until, b_every_until, w_every_also, b_every_also, w_every_but, b_every_but, w_week_once, b_week_once, w_week_every, b_week_every, w_week_month, b_week_month, w_week_from, b_week_from, w_week_until, b_week_until, w_week_also, b_week_also, w_week_but, b_week_but, w_month_once, b_month_once, w_month_every, b_month_every, w_month_week, b_month_week, w_month_from, b_month_from, w_month_until, b_month_until, w_month_also, b_month_also, w_month_but, b_month_but, w_from_once, b_from_once, w_from_every, b_from_every, w_from_week, b_from_week, w_from_month, b_from_month, w_from_until, b_from_until, w_from_also, b_from_also, w_from_but, b_from_but, w_until_once, b_until_once, w_until_every, b_until_every, w_until_week, b_until_week, w_until_month, b_until_month, w_until_from, b_until_from, w_until_also, b_until_also, w_until_but, b_until_but, w_also_once, b_also_once, w_also_every, b_also_every, w_also_week, b_also_week, w_also_month, b_also_month, w_also_from, b_also_from, w_also_until, b_also_until, w_also_but, b_also_but, w_but_once, b_but_once, w_but_every, b_but_every, w_but_week, b_but_week, w_but_month, b_but_month, w_but_from, b_but_from, w_but_until, b_but_until, w_but_also, b_but_also, sizeLine, e1]
  | _ => simp [b_law_settled_w1, tb_law_settled, Hd.d, stH, Fx.run, Fx.evS, Fx.evE, Fx.evEs, Fx.evI, Fx.evP, Fx.o2, Fx.bt, Fx.ixD, Fx.slD, Fx.inD, Fx.eqD, Fx.isiD, Fx.isDict, Fx.setX, Fx.setXs, Fx.isNew, Fx.fzE, Fx.fzC, Fx.seqD, Fx.flatD, Fx.small, Fx.atI_0, Fx.atI_1, Fx.atI_2, Fx.atI_3, Fx.atI_4, Fx.atI_5, inF, eqF, w_once_every, b_once_every, w_once_week, b_once_week, w_once_month, b_once_month, w_once_from, b_once_from, w_once_until, b_once_until, w_once_also, b_once_also, w_once_but, b_once_but, w_every_once, b_every_once, w_every_week, b_every_week, w_every_month, b_every_month, w_every_from, b_every_from, w_every_until, b_every_until, w_every_also, b_every_also, w_every_but, b_every_but, w_week_once, b_week_once, w_week_every, b_week_every, w_week_month, b_week_month, w_week_from, b_week_from, w_week_until, b_week_until, w_week_also, b_week_also, w_week_but, b_week_but, w_month_once, b_month_once, w_month_every, b_month_every, w_month_week, b_month_week, w_month_from, b_month_from, w_month_until, b_month_until, w_month_also, b_month_also, w_month_but, b_month_but, w_from_once, b_from_once, w_from_every, b_from_every, w_from_week, b_from_week, w_from_month, b_from_month, w_from_until, b_from_until, w_from_also, b_from_also, w_from_but, b_from_but, w_until_once, b_until_once, w_until_every, b_until_every, w_until_week, b_until_week, w_until_month, b_until_month, w_until_from, b_until_from, w_until_also, b_until_also, w_until_but, b_until_but, w_also_once, b_also_once, w_also_every, b_also_every, w_also_week, b_also_week, w_also_month, b_also_month, w_also_from, b_also_from, w_also_until, b_also_until, w_also_but, b_also_but, w_but_once, b_but_once, w_but_every, b_but_every, w_but_week, b_but_week, w_but_month, b_but_month, w_but_from, b_but_from, w_but_until, b_but_until, w_but_also, b_but_also, sizeLine]
theorem ls_p (p : Pl) (a : Cel) (x : Int) (hx : 0 ≤ x) : evS tb_law_settled b_law_settled_w1 [a, .v (.int x), .v p.d] = some (.nx [a, .v (.int (max x (stP p))), .v p.d]) := by
  rw [← max_if]
  cases p with
  | week =>
    have n : ¬ (0 : Int) > x := by omega
    simp [b_law_settled_w1, tb_law_settled, Pl.d, stP, Fx.run, Fx.evS, Fx.evE, Fx.evEs, Fx.evI, Fx.evP, Fx.o2, Fx.bt, Fx.ixD, Fx.slD, Fx.inD, Fx.eqD, Fx.isiD, Fx.isDict, Fx.setX, Fx.setXs, Fx.isNew, Fx.fzE, Fx.fzC, Fx.seqD, Fx.flatD, Fx.small, Fx.atI_0, Fx.atI_1, Fx.atI_2, Fx.atI_3, Fx.atI_4, Fx.atI_5, inF, eqF, w_once_every, b_once_every, w_once_week, b_once_week, w_once_month, b_once_month, w_once_from, b_once_from, w_once_until, b_once_until, w_once_also, b_once_also, w_once_but, b_once_but, w_every_once, b_every_once, w_every_week, b_every_week, w_every_month, b_every_month, w_every_from, b_every_from, w_every_until, b_every_until, w_every_also, b_every_also, w_every_but, b_every_but, w_week_once, b_week_once, w_week_every, b_week_every, w_week_month, b_week_month, w_week_from, b_week_from, w_week_until, b_week_until, w_week_also, b_week_also, w_week_but, b_week_but, w_month_once, b_month_once, w_month_every, b_month_every, w_month_week, b_month_week, w_month_from, b_month_from, w_month_until, b_month_until, w_month_also, b_month_also, w_month_but, b_month_but, w_from_once, b_from_once, w_from_every, b_from_every, w_from_week, b_from_week, w_from_month, b_from_month, w_from_until, b_from_until, w_from_also, b_from_also, w_from_but, b_from_but, w_until_once, b_until_once, w_until_every, b_until_every, w_until_week, b_until_week, w_until_month, b_until_month, w_until_from, b_until_from, w_until_also, b_until_also, w_until_but, b_until_but, w_also_once, b_also_once, w_also_every, b_also_every, w_also_week, b_also_week, w_also_month, b_also_month, w_also_from, b_also_from, w_also_until, b_also_until, w_also_but, b_also_but, w_but_once, b_but_once, w_but_every, b_but_every, w_but_week, b_but_week, w_but_month, b_but_month, w_but_from, b_but_from, w_but_until, b_but_until, w_but_also, b_but_also, sizeLine, n]
  | month =>
    have n : ¬ (0 : Int) > x := by omega
    simp [b_law_settled_w1, tb_law_settled, Pl.d, stP, Fx.run, Fx.evS, Fx.evE, Fx.evEs, Fx.evI, Fx.evP, Fx.o2, Fx.bt, Fx.ixD, Fx.slD, Fx.inD, Fx.eqD, Fx.isiD, Fx.isDict, Fx.setX, Fx.setXs, Fx.isNew, Fx.fzE, Fx.fzC, Fx.seqD, Fx.flatD, Fx.small, Fx.atI_0, Fx.atI_1, Fx.atI_2, Fx.atI_3, Fx.atI_4, Fx.atI_5, inF, eqF, w_once_every, b_once_every, w_once_week, b_once_week, w_once_month, b_once_month, w_once_from, b_once_from, w_once_until, b_once_until, w_once_also, b_once_also, w_once_but, b_once_but, w_every_once, b_every_once, w_every_week, b_every_week, w_every_month, b_every_month, w_every_from, b_every_from, w_every_until, b_every_until, w_every_also, b_every_also, w_every_but, b_every_but, w_week_once, b_week_once, w_week_every, b_week_every, w_week_month, b_week_month, w_week_from, b_week_from, w_week_until, b_week_until, w_week_also, b_week_also, w_week_but, b_week_but, w_month_once, b_month_once, w_month_every, b_month_every, w_month_week, b_month_week, w_month_from, b_month_from, w_month_until, b_month_until, w_month_also, b_month_also, w_month_but, b_month_but, w_from_once, b_from_once, w_from_every, b_from_every, w_from_week, b_from_week, w_from_month, b_from_month, w_from_until, b_from_until, w_from_also, b_from_also, w_from_but, b_from_but, w_until_once, b_until_once, w_until_every, b_until_every, w_until_week, b_until_week, w_until_month, b_until_month, w_until_from, b_until_from, w_until_also, b_until_also, w_until_but, b_until_but, w_also_once, b_also_once, w_also_every, b_also_every, w_also_week, b_also_week, w_also_month, b_also_month, w_also_from, b_also_from, w_also_until, b_also_until, w_also_but, b_also_but, w_but_once, b_but_once, w_but_every, b_but_every, w_but_week, b_but_week, w_but_month, b_but_month, w_but_from, b_but_from, w_but_until, b_but_until, w_but_also, b_but_also, sizeLine, n]
  | _ => simp [b_law_settled_w1, tb_law_settled, Pl.d, stP, Fx.run, Fx.evS, Fx.evE, Fx.evEs, Fx.evI, Fx.evP, Fx.o2, Fx.bt, Fx.ixD, Fx.slD, Fx.inD, Fx.eqD, Fx.isiD, Fx.isDict, Fx.setX, Fx.setXs, Fx.isNew, Fx.fzE, Fx.fzC, Fx.seqD, Fx.flatD, Fx.small, Fx.atI_0, Fx.atI_1, Fx.atI_2, Fx.atI_3, Fx.atI_4, Fx.atI_5, inF, eqF, w_once_every, b_once_every, w_once_week, b_once_week, w_once_month, b_once_month, w_once_from, b_once_from, w_once_until, b_once_until, w_once_also, b_once_also, w_once_but, b_once_but, w_every_once, b_every_once, w_every_week, b_every_week, w_every_month, b_every_month, w_every_from, b_every_from, w_every_until, b_every_until, w_every_also, b_every_also, w_every_but, b_every_but, w_week_once, b_week_once, w_week_every, b_week_every, w_week_month, b_week_month, w_week_from, b_week_from, w_week_until, b_week_until, w_week_also, b_week_also, w_week_but, b_week_but, w_month_once, b_month_once, w_month_every, b_month_every, w_month_week, b_month_week, w_month_from, b_month_from, w_month_until, b_month_until, w_month_also, b_month_also, w_month_but, b_month_but, w_from_once, b_from_once, w_from_every, b_from_every, w_from_week, b_from_week, w_from_month, b_from_month, w_from_until, b_from_until, w_from_also, b_from_also, w_from_but, b_from_but, w_until_once, b_until_once, w_until_every, b_until_every, w_until_week, b_until_week, w_until_month, b_until_month, w_until_from, b_until_from, w_until_also, b_until_also, w_until_but, b_until_but, w_also_once, b_also_once, w_also_every, b_also_every, w_also_week, b_also_week, w_also_month, b_also_month, w_also_from, b_also_from, w_also_until, b_also_until, w_also_but, b_also_but, w_but_once, b_but_once, w_but_every, b_but_every, w_but_week, b_but_week, w_but_month, b_but_month, w_but_from, b_but_from, w_but_until, b_but_until, w_but_also, b_but_also, sizeLine]
theorem ls_loop (p : Pl) (a : Cel) : ∀ (hs : List Hd), (∀ h ∈ hs, HOk h) → ∀ (x : Int) (z0 : Cel), 0 ≤ x → ∃ z, frE [2] (evS tb_law_settled b_law_settled_w1) (hl hs p ++ [p.d]) [a, .v (.int x), z0] = some (.nx [a, .v (.int ((hs.map stH ++ [stP p]).foldl max x)), z])
  | [], _, x, z0, hx => by
    have e1 : setX [a, .v (.int x), z0] [2] p.d = some [a, .v (.int x), .v p.d] := rfl
    refine ⟨.v p.d, ?_⟩
    show frE [2] _ (p.d :: []) _ = _
    rw [frE_cons e1 (ls_p p a x hx)]
    rfl
  | h :: hs, hk, x, z0, hx => by
    obtain ⟨z, ih⟩ := ls_loop p a hs (fun k m => hk k (List.mem_cons_of_mem _ m)) (max x (stH h)) (.v (h.d (bd hs p))) (by have := Int.le_max_left x (stH h); omega)
    refine ⟨z, ?_⟩
    have e1 : setX [a, .v (.int x), z0] [2] (h.d (bd hs p)) = some [a, .v (.int x), .v (h.d (bd hs p))] := rfl
    show frE [2] _ (h.d (bd hs p) :: (hl hs p ++ [p.d])) _ = _
    rw [frE_cons e1 (ls_b h (hk h List.mem_cons_self) _ a x), ih]
    rfl
theorem law_settled_eq (hs : List Hd) (p : Pl) (hl' : hs.length < 200) (hk : ∀ h ∈ hs, HOk h) : m_law_settled [bd hs p] = some (.int (stB hs p)) := by
  have e1 := heads_eq hs p hl'
  obtain ⟨z, e2⟩ := ls_loop p (.v (bd hs p)) hs hk 0 .no (by omega)
  have f0 : tb_law_settled.fs[0]? = some m_law_heads := rfl
  show run _ _ _ _ _ = _
  simp [m_law_settled, ir_law_settled, i_law_settled_w1, Fx.run, Fx.evS, Fx.evE, Fx.evEs, Fx.evI, Fx.evP, Fx.o2, Fx.bt, Fx.ixD, Fx.slD, Fx.inD, Fx.eqD, Fx.isiD, Fx.isDict, Fx.setX, Fx.setXs, Fx.isNew, Fx.fzE, Fx.fzC, Fx.seqD, Fx.flatD, Fx.small, Fx.atI_0, Fx.atI_1, Fx.atI_2, Fx.atI_3, Fx.atI_4, Fx.atI_5, f0, e1, e2, stB]
theorem ix_once : x2D .idx (.list [.str "once", .str "week", .str "month"]) (.str "once") = some (.int 0) := by kernel_rfl
theorem ix_week : x2D .idx (.list [.str "once", .str "week", .str "month"]) (.str "week") = some (.int 1) := by kernel_rfl
theorem ix_month : x2D .idx (.list [.str "once", .str "week", .str "month"]) (.str "month") = some (.int 2) := by kernel_rfl
theorem law_round_eq (hs : List Hd) (p : Pl) (hl' : hs.length < 200) : m_law_round [bd hs p] = some (.int (rdP p)) := by
  have e1 := heads_eq hs p hl'
  have f0 : tb_law_round.fs[0]? = some m_law_heads := rfl
  obtain ⟨qs, hq⟩ := pd_tup p
  have e2 := neg1 (hl hs p) p.d
  rw [hq] at e1 e2
  cases p <;> cases hq <;> simp [m_law_round, ir_law_round, Fx.run, Fx.evS, Fx.evE, Fx.evEs, Fx.evI, Fx.evP, Fx.o2, Fx.bt, Fx.ixD, Fx.slD, Fx.inD, Fx.eqD, Fx.isiD, Fx.isDict, Fx.setX, Fx.setXs, Fx.isNew, Fx.fzE, Fx.fzC, Fx.seqD, Fx.flatD, Fx.small, Fx.atI_0, Fx.atI_1, Fx.atI_2, Fx.atI_3, Fx.atI_4, Fx.atI_5, f0, e1, e2, rdP, w_once_every, b_once_every, w_once_week, b_once_week, w_once_month, b_once_month, w_once_from, b_once_from, w_once_until, b_once_until, w_once_also, b_once_also, w_once_but, b_once_but, w_every_once, b_every_once, w_every_week, b_every_week, w_every_month, b_every_month, w_every_from, b_every_from, w_every_until, b_every_until, w_every_also, b_every_also, w_every_but, b_every_but, w_week_once, b_week_once, w_week_every, b_week_every, w_week_month, b_week_month, w_week_from, b_week_from, w_week_until, b_week_until, w_week_also, b_week_also, w_week_but, b_week_but, w_month_once, b_month_once, w_month_every, b_month_every, w_month_week, b_month_week, w_month_from, b_month_from, w_month_until, b_month_until, w_month_also, b_month_also, w_month_but, b_month_but, w_from_once, b_from_once, w_from_every, b_from_every, w_from_week, b_from_week, w_from_month, b_from_month, w_from_until, b_from_until, w_from_also, b_from_also, w_from_but, b_from_but, w_until_once, b_until_once, w_until_every, b_until_every, w_until_week, b_until_week, w_until_month, b_until_month, w_until_from, b_until_from, w_until_also, b_until_also, w_until_but, b_until_but, w_also_once, b_also_once, w_also_every, b_also_every, w_also_week, b_also_week, w_also_month, b_also_month, w_also_from, b_also_from, w_also_until, b_also_until, w_also_but, b_also_but, w_but_once, b_but_once, w_but_every, b_but_every, w_but_week, b_but_week, w_but_month, b_but_month, w_but_from, b_but_from, w_but_until, b_but_until, w_but_also, b_but_also, sizeLine, ix_once, ix_week, ix_month]
/-! ### from the settled hour on -/
theorem inI_out {x : Int} : ∀ {ds : List Int}, (∀ y ∈ ds, y < x) → inI x ds = false
  | [], _ => rfl
  | d :: ds, h => by
    show (d == x || inI x ds) = false
    rw [inI_out fun y m => h y (List.mem_cons_of_mem _ m), Bool.or_false]
    have := h d List.mem_cons_self
    simpa using (by omega : ¬ d = x)
theorem hdB_st (h : Hd) (x y : Int) (b : Bool) (hx : stH h ≤ x) (hy : stH h ≤ y) : hdB h x b = hdB h y b := by
  cases h with
  | fr k =>
    simp only [stH] at hx hy
    simp only [hdB, decide_eq_true hx, decide_eq_true hy]
  | un k =>
    simp only [stH] at hx hy
    simp only [hdB, decide_eq_false (show ¬ x < k by omega), decide_eq_false (show ¬ y < k by omega)]
  | al k =>
    simp only [stH] at hx hy
    simp only [hdB, decide_eq_false (show ¬ x = k by omega), decide_eq_false (show ¬ y = k by omega)]
  | bu ds =>
    have out : ∀ z : Int, stH (.bu ds) ≤ z → inI (z / 24) ds = false := fun z hz => by
      refine inI_out fun w hw => ?_
      cases hm : maxL ds with
      | none =>
        cases ds with
        | nil => cases hw
        | cons => cases hm
      | some m =>
        have h1 := (maxL_of hm).2 w hw
        have h2 : stH (.bu ds) = (m + 1) * 24 := by
          show ((maxL ds).getD (-1) + 1) * 24 = _
          rw [hm] <;> rfl
        omega
    simp only [hdB, out x hx, out y hy]
theorem dN_per (d n : Int) : dN (d + 1461 * n) = dN d := by
  have e : (d + 1461 * n) % 1461 = d % 1461 := by omega
  unfold dN dE dL
  rw [e]
theorem fe_per (d n : Int) : fe (d + 1461 * n) = fe d := by
  have e : (d + 1461 * n) % 1461 = d % 1461 := by omega
  unfold fe dN dM dE dL
  rw [e]
theorem plB_rd (p : Pl) (g : p.Good) (x n : Int) (hx : stP p ≤ x) (hn : 0 ≤ n) : plB p (x + rdP p * n) = plB p x := by
  cases p with
  | once h m =>
    simp only [stP] at hx
    show decide (x + 1 * n = h) = decide (x = h)
    rw [decide_eq_false (show ¬ x = h by omega), decide_eq_false (show ¬ x + 1 * n = h by omega)]
  | every h m s =>
    simp only [stP] at hx
    have h1 : 0 ≤ s * n := Int.mul_nonneg (by have := g.1; omega) hn
    have e : x + s * n - h = (x - h) + s * n := by omega
    show (decide (h ≤ x + s * n) && decide ((x + s * n - h) % s = 0)) = (decide (h ≤ x) && decide ((x - h) % s = 0))
    rw [decide_eq_true hx, decide_eq_true (show h ≤ x + s * n by omega), e, Int.add_mul_emod_self_left]
  | week ds h m =>
    have e1 : (x + 168 * n) % 24 = x % 24 := by omega
    have e2 : (x + 168 * n) / 24 % 7 = x / 24 % 7 := by omega
    simp only [plB, rdP, e1, e2]
  | month d h m =>
    have e1 : (x + 35064 * n) % 24 = x % 24 := by omega
    have e2 : (x + 35064 * n) / 24 = x / 24 + 1461 * n := by omega
    simp only [plB, rdP, e1, e2, dN_per, fe_per]
theorem begB_st (p : Pl) (x y : Int) (e : plB p y = plB p x) : ∀ hs : List Hd, (∀ h ∈ hs, stH h ≤ x ∧ stH h ≤ y) → begB hs p y = begB hs p x
  | [], _ => e
  | h :: hs, a => by
    have ih := begB_st p x y e hs fun k m => a k (List.mem_cons_of_mem _ m)
    show hdB h y (begB hs p y) = hdB h x (begB hs p x)
    rw [ih]
    exact hdB_st h y x _ (a h List.mem_cons_self).2 (a h List.mem_cons_self).1
theorem stB_ge (hs : List Hd) (p : Pl) : 0 ≤ stB hs p ∧ stP p ≤ stB hs p ∧ ∀ h ∈ hs, stH h ≤ stB hs p := by
  obtain ⟨_, h4⟩ := foldl_max (hs.map stH ++ [stP p]) 0
  exact ⟨h4 0 List.mem_cons_self, h4 _ (by simp), fun h m => h4 _ (by simp; exact Or.inr (Or.inl ⟨h, m, rfl⟩))⟩
theorem rdP_pos (p : Pl) (g : p.Good) : 1 ≤ rdP p ∧ rdP p ≤ 1000000 := by
  cases p with
  | every h m s => exact g
  | _ => exact ⟨by simp [rdP], by simp [rdP]⟩
theorem come_round (hs : List Hd) (p : Pl) (g : p.Good) (x n : Int) (hx : stB hs p ≤ x) (hn : 0 ≤ n) : begB hs p (x + rdP p * n) = begB hs p x := by
  obtain ⟨h1, h2, h3⟩ := stB_ge hs p
  have h4 : 0 ≤ rdP p * n := Int.mul_nonneg (by have := (rdP_pos p g).1; omega) hn
  exact begB_st p _ _ (plB_rd p g x n (by omega) hn) hs fun h m => ⟨by have := h3 h m; omega, by have := h3 h m; omega⟩

end k08

namespace k08
open PySem L2 Fx
/-! ### the law's making of rules, once more -/
theorem many_at1 (c : Int) : ∃ n : Int, 1 ≤ n ∧ n ≤ 20 ∧ atI [PyData.int 1, .int 2, .int 5, .int 20] (c / 280 % 4) = some (.int n) := by
  have h : c / 280 % 4 = 0 ∨ c / 280 % 4 = 1 ∨ c / 280 % 4 = 2 ∨ c / 280 % 4 = 3 := by omega
  rcases h with h | h | h | h <;> rw [h]
  · exact ⟨1, by omega, by omega, rfl⟩
  · exact ⟨2, by omega, by omega, rfl⟩
  · exact ⟨5, by omega, by omega, rfl⟩
  · exact ⟨20, by omega, by omega, rfl⟩
def gl (a s : Int) : Int → Nat → List Int
  | _, 0 => []
  | lo, n + 1 => (a + lo * s) :: gl a s (lo + 1) n
theorem gl_last (a s : Int) (hs : 0 ≤ s) : ∀ (n : Nat) (lo : Int), ∃ M m, gl a s lo (n + 1) = M ++ [m] ∧ a + lo * s ≤ m ∧ ∀ y ∈ gl a s lo (n + 1), y ≤ m
  | 0, lo => ⟨[], a + lo * s, rfl, Int.le_refl _, fun y hy => by
    rw [List.mem_singleton.mp (show y ∈ [a + lo * s] from hy)]
    exact Int.le_refl _⟩
  | n + 1, lo => by
    obtain ⟨M, m, e, h1, h2⟩ := gl_last a s hs n (lo + 1)
    have h3 : (lo + 1) * s = lo * s + s := by rw [Int.add_mul, Int.one_mul]
    refine ⟨(a + lo * s) :: M, m, ?_, by omega, fun y hy => ?_⟩
    · show (a + lo * s) :: gl a s (lo + 1) (n + 1) = _
      rw [e] <;> rfl
    · rcases List.mem_cons.mp (show y ∈ (a + lo * s) :: gl a s (lo + 1) (n + 1) from hy) with rfl | hy
      · omega
      · exact h2 y hy
theorem gl_ok (a s : Int) (hs : 0 ≤ s) (n : Nat) (hn : 1 ≤ n) (lo : Int) : HOk (.bu (gl a s lo n)) := by
  obtain ⟨k, rfl⟩ : ∃ k, n = k + 1 := ⟨n - 1, by omega⟩
  obtain ⟨M, m, e, h1, h2⟩ := gl_last a s hs k lo
  refine ⟨M, m, e, ?_⟩
  rw [← e]
  obtain ⟨j, hj⟩ : ∃ j, maxL (gl a s lo (k + 1)) = some j := ⟨_, rfl⟩
  obtain ⟨h3, h4⟩ := maxL_of hj
  have h5 := h4 m (by rw [e]; simp)
  have h6 := h2 j h3
  rw [hj, show j = m by omega]
theorem mapO_gl (f : D → Option (Option D)) (a s : Int) (h : ∀ i : Int, f (.int i) = some (some (.int (a + i * s)))) : ∀ (n : Nat) (lo : Int), mapO f (rngD lo n) = some ((gl a s lo n).map PyData.int)
  | 0, _ => rfl
  | n + 1, lo => by
    show ((f (.int lo)).bind fun o => (mapO f (rngD (lo + 1) n)).bind fun l => _) = _
    rw [h lo, mapO_gl f a s h n (lo + 1)]
    rfl
theorem comp_gl {T : Tab} {elt : E} {i : Nat} {it : Wk} {ρ : Rho} {n : Nat} {lo a s : Int} (hit : evI T it ρ = some (rngD lo n)) (hn : n ≤ sizeLine) (h : ∀ j : Int, evE T elt (ρ.set i (.v (.int j))) = some (.int (a + j * s))) : evE T (.comp elt [i] it) ρ = some (.list ((gl a s lo n).map PyData.int)) := by
  have hL := mapO_gl (fun d => (setX ρ [i] d).bind fun ρ' => (evE T elt ρ').map some) a s (fun j => by
      show ((evE T elt (ρ.set i (.v (.int j)))).map some) = _
      rw [h j]
      rfl) n lo
  simp only [evE, hit, Option.bind_some]
  rw [if_pos (by rw [rngD_length]; exact hn), hL]
  rfl
theorem head_by_but1 (c far : Int) (r : D) (k : c % 4 = 3) : ∃ L : List Int, HOk (.bu L) ∧ m_law_head_by [.int c, .int far, r] = some (Hd.d (.bu L) r) := by
  obtain ⟨n, h0, hn, hm⟩ := many_at1 c
  have hL := comp_gl (i := 6) (elt := el_law_head_by_c1) (hbb_it c far n r (by omega) hn) (le20 hn) fun i => hbb_el c (far + c / 4 % 70) n (.v (.int far)) (.v r) (.v (.str "but")) i
  have hL2 : evE tb_law_head_by cp_law_head_by_c1 [.v (.int c), .v (.int far), .v r, .v (.str "but"), .v (.int (far + c / 4 % 70)), .v (.int n), .no] = some (.list ((gl ((far + c / 4 % 70) / 24) (1 + c / 1120 % 3) 0 n.toNat).map PyData.int)) := hL
  refine ⟨_, gl_ok ((far + c / 4 % 70) / 24) (1 + c / 1120 % 3) (by omega) n.toNat (by omega) 0, ?_⟩
  simp [m_law_head_by, ir_law_head_by, Hd.d, Fx.run, Fx.evS, Fx.evE, Fx.evEs, Fx.evI, Fx.evP, Fx.o2, Fx.bt, Fx.ixD, Fx.slD, Fx.inD, Fx.eqD, Fx.isiD, Fx.isDict, Fx.setX, Fx.setXs, Fx.isNew, Fx.fzE, Fx.fzC, Fx.seqD, Fx.flatD, Fx.small, Fx.atI_0, Fx.atI_1, Fx.atI_2, Fx.atI_3, Fx.atI_4, Fx.atI_5, w_once_every, b_once_every, w_once_week, b_once_week, w_once_month, b_once_month, w_once_from, b_once_from, w_once_until, b_once_until, w_once_also, b_once_also, w_once_but, b_once_but, w_every_once, b_every_once, w_every_week, b_every_week, w_every_month, b_every_month, w_every_from, b_every_from, w_every_until, b_every_until, w_every_also, b_every_also, w_every_but, b_every_but, w_week_once, b_week_once, w_week_every, b_week_every, w_week_month, b_week_month, w_week_from, b_week_from, w_week_until, b_week_until, w_week_also, b_week_also, w_week_but, b_week_but, w_month_once, b_month_once, w_month_every, b_month_every, w_month_week, b_month_week, w_month_from, b_month_from, w_month_until, b_month_until, w_month_also, b_month_also, w_month_but, b_month_but, w_from_once, b_from_once, w_from_every, b_from_every, w_from_week, b_from_week, w_from_month, b_from_month, w_from_until, b_from_until, w_from_also, b_from_also, w_from_but, b_from_but, w_until_once, b_until_once, w_until_every, b_until_every, w_until_week, b_until_week, w_until_month, b_until_month, w_until_from, b_until_from, w_until_also, b_until_also, w_until_but, b_until_but, w_also_once, b_also_once, w_also_every, b_also_every, w_also_week, b_also_week, w_also_month, b_also_month, w_also_from, b_also_from, w_also_until, b_also_until, w_also_but, b_also_but, w_but_once, b_but_once, w_but_every, b_but_every, w_but_week, b_but_week, w_but_month, b_but_month, w_but_from, b_but_from, w_but_until, b_but_until, w_but_also, b_but_also, k, sizeLine, hm, hL2]
theorem head_by_st (c far : Int) (r : D) : ∃ h : Hd, HOk h ∧ m_law_head_by [.int c, .int far, r] = some (h.d r) := by
  have k : c % 4 = 0 ∨ c % 4 = 1 ∨ c % 4 = 2 ∨ c % 4 = 3 := by omega
  rcases k with k | k | k | k
  · exact ⟨.fr (far + c / 4 % 70), trivial, by simp [m_law_head_by, ir_law_head_by, tb_law_head_by, Hd.d, Fx.run, Fx.evS, Fx.evE, Fx.evEs, Fx.evI, Fx.evP, Fx.o2, Fx.bt, Fx.ixD, Fx.slD, Fx.inD, Fx.eqD, Fx.isiD, Fx.isDict, Fx.setX, Fx.setXs, Fx.isNew, Fx.fzE, Fx.fzC, Fx.seqD, Fx.flatD, Fx.small, Fx.atI_0, Fx.atI_1, Fx.atI_2, Fx.atI_3, Fx.atI_4, Fx.atI_5, w_once_every, b_once_every, w_once_week, b_once_week, w_once_month, b_once_month, w_once_from, b_once_from, w_once_until, b_once_until, w_once_also, b_once_also, w_once_but, b_once_but, w_every_once, b_every_once, w_every_week, b_every_week, w_every_month, b_every_month, w_every_from, b_every_from, w_every_until, b_every_until, w_every_also, b_every_also, w_every_but, b_every_but, w_week_once, b_week_once, w_week_every, b_week_every, w_week_month, b_week_month, w_week_from, b_week_from, w_week_until, b_week_until, w_week_also, b_week_also, w_week_but, b_week_but, w_month_once, b_month_once, w_month_every, b_month_every, w_month_week, b_month_week, w_month_from, b_month_from, w_month_until, b_month_until, w_month_also, b_month_also, w_month_but, b_month_but, w_from_once, b_from_once, w_from_every, b_from_every, w_from_week, b_from_week, w_from_month, b_from_month, w_from_until, b_from_until, w_from_also, b_from_also, w_from_but, b_from_but, w_until_once, b_until_once, w_until_every, b_until_every, w_until_week, b_until_week, w_until_month, b_until_month, w_until_from, b_until_from, w_until_also, b_until_also, w_until_but, b_until_but, w_also_once, b_also_once, w_also_every, b_also_every, w_also_week, b_also_week, w_also_month, b_also_month, w_also_from, b_also_from, w_also_until, b_also_until, w_also_but, b_also_but, w_but_once, b_but_once, w_but_every, b_but_every, w_but_week, b_but_week, w_but_month, b_but_month, w_but_from, b_but_from, w_but_until, b_but_until, w_but_also, b_but_also, k, sizeLine]⟩
  · exact ⟨.un (far + c / 4 % 70), trivial, by simp [m_law_head_by, ir_law_head_by, tb_law_head_by, Hd.d, Fx.run, Fx.evS, Fx.evE, Fx.evEs, Fx.evI, Fx.evP, Fx.o2, Fx.bt, Fx.ixD, Fx.slD, Fx.inD, Fx.eqD, Fx.isiD, Fx.isDict, Fx.setX, Fx.setXs, Fx.isNew, Fx.fzE, Fx.fzC, Fx.seqD, Fx.flatD, Fx.small, Fx.atI_0, Fx.atI_1, Fx.atI_2, Fx.atI_3, Fx.atI_4, Fx.atI_5, w_once_every, b_once_every, w_once_week, b_once_week, w_once_month, b_once_month, w_once_from, b_once_from, w_once_until, b_once_until, w_once_also, b_once_also, w_once_but, b_once_but, w_every_once, b_every_once, w_every_week, b_every_week, w_every_month, b_every_month, w_every_from, b_every_from, w_every_until, b_every_until, w_every_also, b_every_also, w_every_but, b_every_but, w_week_once, b_week_once, w_week_every, b_week_every, w_week_month, b_week_month, w_week_from, b_week_from, w_week_until, b_week_until, w_week_also, b_week_also, w_week_but, b_week_but, w_month_once, b_month_once, w_month_every, b_month_every, w_month_week, b_month_week, w_month_from, b_month_from, w_month_until, b_month_until, w_month_also, b_month_also, w_month_but, b_month_but, w_from_once, b_from_once, w_from_every, b_from_every, w_from_week, b_from_week, w_from_month, b_from_month, w_from_until, b_from_until, w_from_also, b_from_also, w_from_but, b_from_but, w_until_once, b_until_once, w_until_every, b_until_every, w_until_week, b_until_week, w_until_month, b_until_month, w_until_from, b_until_from, w_until_also, b_until_also, w_until_but, b_until_but, w_also_once, b_also_once, w_also_every, b_also_every, w_also_week, b_also_week, w_also_month, b_also_month, w_also_from, b_also_from, w_also_until, b_also_until, w_also_but, b_also_but, w_but_once, b_but_once, w_but_every, b_but_every, w_but_week, b_but_week, w_but_month, b_but_month, w_but_from, b_but_from, w_but_until, b_but_until, w_but_also, b_but_also, k, sizeLine]⟩
  · exact ⟨.al (far + c / 4 % 70), trivial, by simp [m_law_head_by, ir_law_head_by, tb_law_head_by, Hd.d, Fx.run, Fx.evS, Fx.evE, Fx.evEs, Fx.evI, Fx.evP, Fx.o2, Fx.bt, Fx.ixD, Fx.slD, Fx.inD, Fx.eqD, Fx.isiD, Fx.isDict, Fx.setX, Fx.setXs, Fx.isNew, Fx.fzE, Fx.fzC, Fx.seqD, Fx.flatD, Fx.small, Fx.atI_0, Fx.atI_1, Fx.atI_2, Fx.atI_3, Fx.atI_4, Fx.atI_5, w_once_every, b_once_every, w_once_week, b_once_week, w_once_month, b_once_month, w_once_from, b_once_from, w_once_until, b_once_until, w_once_also, b_once_also, w_once_but, b_once_but, w_every_once, b_every_once, w_every_week, b_every_week, w_every_month, b_every_month, w_every_from, b_every_from, w_every_until, b_every_until, w_every_also, b_every_also, w_every_but, b_every_but, w_week_once, b_week_once, w_week_every, b_week_every, w_week_month, b_week_month, w_week_from, b_week_from, w_week_until, b_week_until, w_week_also, b_week_also, w_week_but, b_week_but, w_month_once, b_month_once, w_month_every, b_month_every, w_month_week, b_month_week, w_month_from, b_month_from, w_month_until, b_month_until, w_month_also, b_month_also, w_month_but, b_month_but, w_from_once, b_from_once, w_from_every, b_from_every, w_from_week, b_from_week, w_from_month, b_from_month, w_from_until, b_from_until, w_from_also, b_from_also, w_from_but, b_from_but, w_until_once, b_until_once, w_until_every, b_until_every, w_until_week, b_until_week, w_until_month, b_until_month, w_until_from, b_until_from, w_until_also, b_until_also, w_until_but, b_until_but, w_also_once, b_also_once, w_also_every, b_also_every, w_also_week, b_also_week, w_also_month, b_also_month, w_also_from, b_also_from, w_also_until, b_also_until, w_also_but, b_also_but, w_but_once, b_but_once, w_but_every, b_but_every, w_but_week, b_but_week, w_but_month, b_but_month, w_but_from, b_but_from, w_but_until, b_but_until, w_but_also, b_but_also, k, sizeLine]⟩
  · obtain ⟨L, h1, h⟩ := head_by_but1 c far r k
    exact ⟨.bu L, h1, h⟩
theorem plain_by_st (c0 c1 c2 far : Int) (hf : 0 ≤ far) : ∃ p : Pl, m_law_plain_by [.list [.int c0, .int c1, .int c2], .int far, .int 48] = some p.d ∧ p.Good ∧ 0 ≤ stP p := by
  have hk : c0 % 4 = 0 ∨ c0 % 4 = 1 ∨ c0 % 4 = 2 ∨ c0 % 4 = 3 := by omega
  rcases hk with k | k | k | k
  · refine ⟨.once (far + c1 % 60) (1 + c0 / 4 % 48), ?_, trivial, by show 0 ≤ far + c1 % 60 + 1; omega⟩
    simp [m_law_plain_by, ir_law_plain_by, tb_law_plain_by, Pl.d, Fx.run, Fx.evS, Fx.evE, Fx.evEs, Fx.evI, Fx.evP, Fx.o2, Fx.bt, Fx.ixD, Fx.slD, Fx.inD, Fx.eqD, Fx.isiD, Fx.isDict, Fx.setX, Fx.setXs, Fx.isNew, Fx.fzE, Fx.fzC, Fx.seqD, Fx.flatD, Fx.small, Fx.atI_0, Fx.atI_1, Fx.atI_2, Fx.atI_3, Fx.atI_4, Fx.atI_5, k, sizeLine]
  · refine ⟨.every (far + c1 % 60) (1 + c0 / 4 % 48) (1 + c2 % 30), ?_, ⟨by omega, by omega⟩, by show 0 ≤ far + c1 % 60; omega⟩
    simp [m_law_plain_by, ir_law_plain_by, tb_law_plain_by, Pl.d, Fx.run, Fx.evS, Fx.evE, Fx.evEs, Fx.evI, Fx.evP, Fx.o2, Fx.bt, Fx.ixD, Fx.slD, Fx.inD, Fx.eqD, Fx.isiD, Fx.isDict, Fx.setX, Fx.setXs, Fx.isNew, Fx.fzE, Fx.fzC, Fx.seqD, Fx.flatD, Fx.small, Fx.atI_0, Fx.atI_1, Fx.atI_2, Fx.atI_3, Fx.atI_4, Fx.atI_5, k, sizeLine]
  · refine ⟨.week (wd (1 + c2 % 127)) (c1 % 24) (1 + c0 / 4 % 48), ?_, wd_some (by omega) (by omega), Int.le_refl 0⟩
    simp [m_law_plain_by, ir_law_plain_by, tb_law_plain_by, Pl.d, Fx.run, Fx.evS, Fx.evE, Fx.evEs, Fx.evI, Fx.evP, Fx.o2, Fx.bt, Fx.ixD, Fx.slD, Fx.inD, Fx.eqD, Fx.isiD, Fx.isDict, Fx.setX, Fx.setXs, Fx.isNew, Fx.fzE, Fx.fzC, Fx.seqD, Fx.flatD, Fx.small, Fx.atI_0, Fx.atI_1, Fx.atI_2, Fx.atI_3, Fx.atI_4, Fx.atI_5, k, sizeLine, weekdays_eq]
  · refine ⟨.month (dd c2 + (if 0 ≤ dd c2 then 1 else 0)) (c1 % 24) (1 + c0 / 4 % 48), ?_, ?_, Int.le_refl 0⟩
    · have t := dtab_at c2
      by_cases q : c2 / 62 % 2 = 1
      · have e : dd c2 = dtab.getD (c2 / 124 % 10).toNat 0 := if_pos q
        rw [← e] at t
        simp [m_law_plain_by, ir_law_plain_by, tb_law_plain_by, Pl.d, Fx.run, Fx.evS, Fx.evE, Fx.evEs, Fx.evI, Fx.evP, Fx.o2, Fx.bt, Fx.ixD, Fx.slD, Fx.inD, Fx.eqD, Fx.isiD, Fx.isDict, Fx.setX, Fx.setXs, Fx.isNew, Fx.fzE, Fx.fzC, Fx.seqD, Fx.flatD, Fx.small, Fx.atI_0, Fx.atI_1, Fx.atI_2, Fx.atI_3, Fx.atI_4, Fx.atI_5, k, sizeLine, q, t]
      · have e : dd c2 = c2 % 62 - 31 := if_neg q
        simp [m_law_plain_by, ir_law_plain_by, tb_law_plain_by, Pl.d, Fx.run, Fx.evS, Fx.evE, Fx.evEs, Fx.evI, Fx.evP, Fx.o2, Fx.bt, Fx.ixD, Fx.slD, Fx.inD, Fx.eqD, Fx.isiD, Fx.isDict, Fx.setX, Fx.setXs, Fx.isNew, Fx.fzE, Fx.fzC, Fx.seqD, Fx.flatD, Fx.small, Fx.atI_0, Fx.atI_1, Fx.atI_2, Fx.atI_3, Fx.atI_4, Fx.atI_5, k, sizeLine, q, e]
    · show dd c2 + (if 0 ≤ dd c2 then 1 else 0) ≠ 0
      split <;> omega
theorem hd_tup (h : Hd) (r : D) : ∃ ps, h.d r = .tuple ps := by cases h <;> exact ⟨_, rfl⟩
theorem law_turn (ns : List Int) (base far k : Int) (r : List D) (hk : 0 ≤ k) (x5 x6 x7 x8 x9 x10 x11 : Cel) : ∃ h : Hd, HOk h ∧
    evS tb_law b_law_w1 [.v (scr ns), .v (.int base), .v (.int far), .v (.tuple r), .v (.int k), x5, x6, x7, x8, x9, x10, x11] = some (.nx [.v (scr ns), .v (.int base), .v (.int far), .v (h.d (.tuple r)), .v (.int k), x5, x6, x7, x8, x9, x10, x11]) := by
  obtain ⟨ck, ek⟩ := cellI ns (7 + k) (by omega)
  generalize scr ns = sc at *
  have f0 : tb_law.fs[0]? = some m_law_cell_at := rfl
  have f2 : tb_law.fs[2]? = some m_law_head_by := rfl
  obtain ⟨h, h1, hh⟩ := head_by_st ck far (.tuple r)
  obtain ⟨ps, hp⟩ := hd_tup h (.tuple r)
  refine ⟨h, h1, ?_⟩
  rw [hp] at hh ⊢
  simp [b_law_w1, Fx.run, Fx.evS, Fx.evE, Fx.evEs, Fx.evI, Fx.evP, Fx.o2, Fx.bt, Fx.ixD, Fx.slD, Fx.inD, Fx.eqD, Fx.isiD, Fx.isDict, Fx.setX, Fx.setXs, Fx.isNew, Fx.fzE, Fx.fzC, Fx.seqD, Fx.flatD, Fx.small, Fx.atI_0, Fx.atI_1, Fx.atI_2, Fx.atI_3, Fx.atI_4, Fx.atI_5, f0, f2, ek, hh]
theorem law_loop (ns : List Int) (base far : Int) (p : Pl) (x5 x6 x7 x8 x9 x10 x11 : Cel) : ∀ (n : Nat) (k : Int) (hs : List Hd) (x4 : Cel), 0 ≤ k → (∀ h ∈ hs, HOk h) → ∃ (hs' : List Hd) (y4 : Cel), hs'.length = hs.length + n ∧ (∀ h ∈ hs', HOk h) ∧
    frE [4] (evS tb_law b_law_w1) (rngD k n) [.v (scr ns), .v (.int base), .v (.int far), .v (bd hs p), x4, x5, x6, x7, x8, x9, x10, x11] = some (.nx [.v (scr ns), .v (.int base), .v (.int far), .v (bd hs' p), y4, x5, x6, x7, x8, x9, x10, x11])
  | 0, k, hs, x4, _, ho => ⟨hs, x4, rfl, ho, rfl⟩
  | n + 1, k, hs, x4, hk, ho => by
    obtain ⟨r, hr⟩ := bd_tup hs p
    obtain ⟨h, h1, e⟩ := law_turn ns base far k r hk x5 x6 x7 x8 x9 x10 x11
    obtain ⟨hs', z4, hl, ho', ih⟩ := law_loop ns base far p x5 x6 x7 x8 x9 x10 x11 n (k + 1) (h :: hs) (.v (.int k)) (by omega) (fun j m => by
      rcases List.mem_cons.mp m with rfl | m
      · exact h1
      · exact ho j m)
    refine ⟨hs', z4, by rw [hl, List.length_cons]; omega, ho', ?_⟩
    rw [← hr, show h.d (bd hs p) = bd (h :: hs) p from rfl] at e
    have e1 : setX [.v (scr ns), .v (.int base), .v (.int far), .v (bd hs p), x4, x5, x6, x7, x8, x9, x10, x11] [4] (.int k) = some [.v (scr ns), .v (.int base), .v (.int far), .v (bd hs p), .v (.int k), x5, x6, x7, x8, x9, x10, x11] := rfl
    show frE [4] _ (.int k :: rngD (k + 1) n) _ = _
    rw [frE_cons e1 e]
    exact ih
theorem bd_word (hs : List Hd) (p : Pl) : ∃ w ps, bd hs p = .tuple (.str w :: ps) := by
  cases hs with
  | nil => cases p <;> exact ⟨_, _, rfl⟩
  | cons h hs => cases h <;> exact ⟨_, _, rfl⟩
theorem pick (c b m n : Int) (hm : 0 < m) (hn : 0 < n) : ∃ z, 0 ≤ z ∧ atI [PyData.int (c % m), .int (c % n)] (b % 2) = some (.int z) := by
  have h : b % 2 = 0 ∨ b % 2 = 1 := by omega
  rcases h with h | h <;> rw [h]
  · exact ⟨_, Int.emod_nonneg _ (by omega), rfl⟩
  · exact ⟨_, Int.emod_nonneg _ (by omega), rfl⟩
theorem pick2 (c b : Int) : ∃ z, 0 ≤ z ∧ z < 2000000000 ∧ atI [PyData.int (c % 5), .int (c % 1000000000)] (b % 2) = some (.int z) := by
  have h : b % 2 = 0 ∨ b % 2 = 1 := by omega
  rcases h with h | h <;> rw [h]
  · exact ⟨_, by omega, by omega, rfl⟩
  · exact ⟨_, by omega, by omega, rfl⟩

end k08

namespace k08
open PySem L2 Fx
theorem law_end (ns : List Int) (base far : Int) (p : Pl) (gp : p.Good) (h0 : 0 ≤ stP p) (hs : List Hd) (hl : hs.length < 200) (hk : ∀ h ∈ hs, HOk h) (x4 : Cel) :
    evS tb_law t_law_6 [.v (scr ns), .v (.int base), .v (.int far), .v (bd hs p), x4, .no, .no, .no, .no, .no, .no, .no] = some (.rt (.bool true)) := by
  obtain ⟨c5, e5⟩ := cellI ns 5 (by omega)
  obtain ⟨c6, e6⟩ := cellI ns 6 (by omega)
  obtain ⟨c12, e12⟩ := cellI ns 12 (by omega)
  obtain ⟨w, qs, hp⟩ := bd_word hs p
  have h1 := round_eq hs p hl
  have h2 := settled_eq hs p hl h0
  have h3 := law_round_eq hs p hl
  have h4 := law_settled_eq hs p hl hk
  have hb : ∀ x, m_begins [bd hs p, .int x] = some (.bool (decide (0 ≤ x) && begB hs p x)) := fun x => beginsH_eq hs p gp x hl
  have hg : ∀ x, 0 ≤ x → m_law_begun [bd hs p, .int x] = some (.bool (begB hs p x)) := fun x hx => begun_eq hs p gp x hx hl
  have hc := come_round hs p gp
  obtain ⟨g1, _, _⟩ := stB_ge hs p
  obtain ⟨r1, r2⟩ := rdP_pos p gp
  have r3 : (-18446744073709551616 : Int) < rdP p := by omega
  have r4 : rdP p < (18446744073709551616 : Int) := by omega
  have wh : ∀ i : Int, m_law_whole [.int i] = some (.bool true) := fun i => by simp [m_law_whole, ir_law_whole, tb_law_whole, Fx.run, Fx.evS, Fx.evE, Fx.evEs, Fx.evI, Fx.evP, Fx.o2, Fx.bt, Fx.ixD, Fx.slD, Fx.inD, Fx.eqD, Fx.isiD, Fx.isDict, Fx.setX, Fx.setXs, Fx.isNew, Fx.fzE, Fx.fzC, Fx.seqD, Fx.flatD, Fx.small, Fx.atI_0, Fx.atI_1, Fx.atI_2, Fx.atI_3, Fx.atI_4, Fx.atI_5]
  have sh : ∀ a b : Int, SeqAt.shaped (.list [PyData.int a, .int b]) = true := fun a b => shaped_lints [a, b]
  have f0 : tb_law.fs[0]? = some m_law_cell_at := rfl
  have f3 : tb_law.fs[3]? = some m_settled := rfl
  have f4 : tb_law.fs[4]? = some m_round_of := rfl
  have f5 : tb_law.fs[5]? = some m_law_settled := rfl
  have f6 : tb_law.fs[6]? = some m_law_round := rfl
  have f7 : tb_law.fs[7]? = some m_law_whole := rfl
  have f8 : tb_law.fs[8]? = some m_begins := rfl
  have f9 : tb_law.fs[9]? = some m_law_begun := rfl
  rw [hp] at h1 h2 h3 h4 hb hg ⊢
  generalize scr ns = sc at *
  generalize hT : stB hs p = T at *
  generalize hR : rdP p = R at *
  have s6 : evS tb_law q_law_6 [.v sc, .v (.int base), .v (.int far), .v (.tuple (.str w :: qs)), x4, .no, .no, .no, .no, .no, .no, .no] = some (.nx [.v sc, .v (.int base), .v (.int far), .v (.tuple (.str w :: qs)), x4, .own [.int R, .int T], .no, .no, .no, .no, .no, .no]) := by
    simp [q_law_6, Fx.run, Fx.evS, Fx.evE, Fx.evEs, Fx.evI, Fx.evP, Fx.o2, Fx.bt, Fx.ixD, Fx.slD, Fx.inD, Fx.eqD, Fx.isiD, Fx.isDict, Fx.setX, Fx.setXs, Fx.isNew, Fx.fzE, Fx.fzC, Fx.seqD, Fx.flatD, Fx.small, Fx.atI_0, Fx.atI_1, Fx.atI_2, Fx.atI_3, Fx.atI_4, Fx.atI_5, f3, f4, h1, h2, sizeLine]
  have s7 : evS tb_law q_law_7 [.v sc, .v (.int base), .v (.int far), .v (.tuple (.str w :: qs)), x4, .own [.int R, .int T], .no, .no, .no, .no, .no, .no] = some (.nx [.v sc, .v (.int base), .v (.int far), .v (.tuple (.str w :: qs)), x4, .v (.list [.int R, .int T]), .no, .no, .no, .no, .no, .no]) := by
    simp [q_law_7, Fx.run, Fx.evS, Fx.evE, Fx.evEs, Fx.evI, Fx.evP, Fx.o2, Fx.bt, Fx.ixD, Fx.slD, Fx.inD, Fx.eqD, Fx.isiD, Fx.isDict, Fx.setX, Fx.setXs, Fx.isNew, Fx.fzE, Fx.fzC, Fx.seqD, Fx.flatD, Fx.small, Fx.atI_0, Fx.atI_1, Fx.atI_2, Fx.atI_3, Fx.atI_4, Fx.atI_5]
  have s8 : evS tb_law q_law_8 [.v sc, .v (.int base), .v (.int far), .v (.tuple (.str w :: qs)), x4, .v (.list [.int R, .int T]), .no, .no, .no, .no, .no, .no] = some (.nx [.v sc, .v (.int base), .v (.int far), .v (.tuple (.str w :: qs)), x4, .v (.list [.int R, .int T]), .no, .no, .no, .no, .no, .no]) := by
    simp [q_law_8, cp_law_c2, el_law_c2, it_law_c2, Fx.run, Fx.evS, Fx.evE, Fx.evEs, Fx.evI, Fx.evP, Fx.o2, Fx.bt, Fx.ixD, Fx.slD, Fx.inD, Fx.eqD, Fx.isiD, Fx.isDict, Fx.setX, Fx.setXs, Fx.isNew, Fx.fzE, Fx.fzC, Fx.seqD, Fx.flatD, Fx.small, Fx.atI_0, Fx.atI_1, Fx.atI_2, Fx.atI_3, Fx.atI_4, Fx.atI_5, f5, f6, f7, wh, h3, h4, sizeLine, mapO, boolsD, sh, PyData.eqv, PyData.eqvAll]
  have s9 : evS tb_law q_law_9 [.v sc, .v (.int base), .v (.int far), .v (.tuple (.str w :: qs)), x4, .v (.list [.int R, .int T]), .no, .no, .no, .no, .no, .no] = some (.nx [.v sc, .v (.int base), .v (.int far), .v (.tuple (.str w :: qs)), x4, .v (.list [.int R, .int T]), .no, .v (.int c5), .no, .no, .no, .no]) := by
    simp [q_law_9, Fx.run, Fx.evS, Fx.evE, Fx.evEs, Fx.evI, Fx.evP, Fx.o2, Fx.bt, Fx.ixD, Fx.slD, Fx.inD, Fx.eqD, Fx.isiD, Fx.isDict, Fx.setX, Fx.setXs, Fx.isNew, Fx.fzE, Fx.fzC, Fx.seqD, Fx.flatD, Fx.small, Fx.atI_0, Fx.atI_1, Fx.atI_2, Fx.atI_3, Fx.atI_4, Fx.atI_5, f0, e5]
  have s10 : evS tb_law q_law_10 [.v sc, .v (.int base), .v (.int far), .v (.tuple (.str w :: qs)), x4, .v (.list [.int R, .int T]), .no, .v (.int c5), .no, .no, .no, .no] = some (.nx [.v sc, .v (.int base), .v (.int far), .v (.tuple (.str w :: qs)), x4, .v (.list [.int R, .int T]), .no, .v (.int c5), .no, .no, .no, .no]) := by
    simp [q_law_10, Fx.run, Fx.evS, Fx.evE, Fx.evEs, Fx.evI, Fx.evP, Fx.o2, Fx.bt, Fx.ixD, Fx.slD, Fx.inD, Fx.eqD, Fx.isiD, Fx.isDict, Fx.setX, Fx.setXs, Fx.isNew, Fx.fzE, Fx.fzC, Fx.seqD, Fx.flatD, Fx.small, Fx.atI_0, Fx.atI_1, Fx.atI_2, Fx.atI_3, Fx.atI_4, Fx.atI_5]
  obtain ⟨z, hz0, hz⟩ := pick (c5 / 2) c5 100 1000000000000000000000000000000 (by decide) (by decide)
  have s11 : evS tb_law q_law_11 [.v sc, .v (.int base), .v (.int far), .v (.tuple (.str w :: qs)), x4, .v (.list [.int R, .int T]), .no, .v (.int c5), .no, .no, .no, .no] = some (.nx [.v sc, .v (.int base), .v (.int far), .v (.tuple (.str w :: qs)), x4, .v (.list [.int R, .int T]), .no, .v (.int c5), .v (.int (T + z)), .no, .no, .no]) := by
    simp [q_law_11, Fx.run, Fx.evS, Fx.evE, Fx.evEs, Fx.evI, Fx.evP, Fx.o2, Fx.bt, Fx.ixD, Fx.slD, Fx.inD, Fx.eqD, Fx.isiD, Fx.isDict, Fx.setX, Fx.setXs, Fx.isNew, Fx.fzE, Fx.fzC, Fx.seqD, Fx.flatD, Fx.small, Fx.atI_0, Fx.atI_1, Fx.atI_2, Fx.atI_3, Fx.atI_4, Fx.atI_5, hz, sizeLine]
  have s12 : ∃ u : Int, 0 ≤ u ∧ evS tb_law q_law_12 [.v sc, .v (.int base), .v (.int far), .v (.tuple (.str w :: qs)), x4, .v (.list [.int R, .int T]), .no, .v (.int c5), .v (.int (T + z)), .no, .no, .no] = some (.nx [.v sc, .v (.int base), .v (.int far), .v (.tuple (.str w :: qs)), x4, .v (.list [.int R, .int T]), .no, .v (.int c5), .v (.int (T + u)), .no, .no, .no]) := by
    by_cases a : c6 % 3 = 0
    · by_cases b : w = "every"
      · refine ⟨c5 / 2 % 1000000 * R, Int.mul_nonneg (Int.emod_nonneg _ (by decide)) (by omega), ?_⟩
        simp [q_law_12, Fx.run, Fx.evS, Fx.evE, Fx.evEs, Fx.evI, Fx.evP, Fx.o2, Fx.bt, Fx.ixD, Fx.slD, Fx.inD, Fx.eqD, Fx.isiD, Fx.isDict, Fx.setX, Fx.setXs, Fx.isNew, Fx.fzE, Fx.fzC, Fx.seqD, Fx.flatD, Fx.small, Fx.atI_0, Fx.atI_1, Fx.atI_2, Fx.atI_3, Fx.atI_4, Fx.atI_5, f0, e6, a, b, r3, r4]
      · exact ⟨z, hz0, by simp [q_law_12, Fx.run, Fx.evS, Fx.evE, Fx.evEs, Fx.evI, Fx.evP, Fx.o2, Fx.bt, Fx.ixD, Fx.slD, Fx.inD, Fx.eqD, Fx.isiD, Fx.isDict, Fx.setX, Fx.setXs, Fx.isNew, Fx.fzE, Fx.fzC, Fx.seqD, Fx.flatD, Fx.small, Fx.atI_0, Fx.atI_1, Fx.atI_2, Fx.atI_3, Fx.atI_4, Fx.atI_5, f0, e6, a, b]⟩
    · exact ⟨z, hz0, by simp [q_law_12, Fx.run, Fx.evS, Fx.evE, Fx.evEs, Fx.evI, Fx.evP, Fx.o2, Fx.bt, Fx.ixD, Fx.slD, Fx.inD, Fx.eqD, Fx.isiD, Fx.isDict, Fx.setX, Fx.setXs, Fx.isNew, Fx.fzE, Fx.fzC, Fx.seqD, Fx.flatD, Fx.small, Fx.atI_0, Fx.atI_1, Fx.atI_2, Fx.atI_3, Fx.atI_4, Fx.atI_5, f0, e6, a]⟩
  obtain ⟨u, hu, s12⟩ := s12
  have s13 : evS tb_law q_law_13 [.v sc, .v (.int base), .v (.int far), .v (.tuple (.str w :: qs)), x4, .v (.list [.int R, .int T]), .no, .v (.int c5), .v (.int (T + u)), .no, .no, .no] = some (.nx [.v sc, .v (.int base), .v (.int far), .v (.tuple (.str w :: qs)), x4, .v (.list [.int R, .int T]), .no, .v (.int c5), .v (.int (T + u)), .v (.int (c6 / 3)), .no, .no]) := by
    simp [q_law_13, Fx.run, Fx.evS, Fx.evE, Fx.evEs, Fx.evI, Fx.evP, Fx.o2, Fx.bt, Fx.ixD, Fx.slD, Fx.inD, Fx.eqD, Fx.isiD, Fx.isDict, Fx.setX, Fx.setXs, Fx.isNew, Fx.fzE, Fx.fzC, Fx.seqD, Fx.flatD, Fx.small, Fx.atI_0, Fx.atI_1, Fx.atI_2, Fx.atI_3, Fx.atI_4, Fx.atI_5, f0, e6]
  obtain ⟨v, hv0, hv1, hv⟩ := pick2 (c6 / 3) c12
  have s14 : evS tb_law q_law_14 [.v sc, .v (.int base), .v (.int far), .v (.tuple (.str w :: qs)), x4, .v (.list [.int R, .int T]), .no, .v (.int c5), .v (.int (T + u)), .v (.int (c6 / 3)), .no, .no] = some (.nx [.v sc, .v (.int base), .v (.int far), .v (.tuple (.str w :: qs)), x4, .v (.list [.int R, .int T]), .no, .v (.int c5), .v (.int (T + u)), .v (.int (c6 / 3)), .v (.int (1 + v)), .no]) := by
    simp [q_law_14, Fx.run, Fx.evS, Fx.evE, Fx.evEs, Fx.evI, Fx.evP, Fx.o2, Fx.bt, Fx.ixD, Fx.slD, Fx.inD, Fx.eqD, Fx.isiD, Fx.isDict, Fx.setX, Fx.setXs, Fx.isNew, Fx.fzE, Fx.fzC, Fx.seqD, Fx.flatD, Fx.small, Fx.atI_0, Fx.atI_1, Fx.atI_2, Fx.atI_3, Fx.atI_4, Fx.atI_5, f0, e12, hv, sizeLine]
  have s15 : evS tb_law q_law_15 [.v sc, .v (.int base), .v (.int far), .v (.tuple (.str w :: qs)), x4, .v (.list [.int R, .int T]), .no, .v (.int c5), .v (.int (T + u)), .v (.int (c6 / 3)), .v (.int (1 + v)), .no] = some (.nx [.v sc, .v (.int base), .v (.int far), .v (.tuple (.str w :: qs)), x4, .v (.list [.int R, .int T]), .no, .v (.int c5), .v (.int (T + u)), .v (.int (c6 / 3)), .v (.int (1 + v)), .no]) := by
    simp [q_law_15, Fx.run, Fx.evS, Fx.evE, Fx.evEs, Fx.evI, Fx.evP, Fx.o2, Fx.bt, Fx.ixD, Fx.slD, Fx.inD, Fx.eqD, Fx.isiD, Fx.isDict, Fx.setX, Fx.setXs, Fx.isNew, Fx.fzE, Fx.fzC, Fx.seqD, Fx.flatD, Fx.small, Fx.atI_0, Fx.atI_1, Fx.atI_2, Fx.atI_3, Fx.atI_4, Fx.atI_5]
  have hm : 0 ≤ R * (1 + v) := Int.mul_nonneg (by omega) (by omega)
  have hb2 := hb (T + u + R * (1 + v))
  rw [hc (T + u) (1 + v) (by omega) (by omega), decide_eq_true (show 0 ≤ T + u + R * (1 + v) by omega), Bool.true_and] at hb2
  have hg2 := hg (T + u) (by omega)
  generalize begB hs p (T + u) = B at *
  have v1 : (-18446744073709551616 : Int) < 1 + v := by omega
  have v2 : 1 + v < (18446744073709551616 : Int) := by omega
  have s16 : evS tb_law q_law_16 [.v sc, .v (.int base), .v (.int far), .v (.tuple (.str w :: qs)), x4, .v (.list [.int R, .int T]), .no, .v (.int c5), .v (.int (T + u)), .v (.int (c6 / 3)), .v (.int (1 + v)), .no] = some (.nx [.v sc, .v (.int base), .v (.int far), .v (.tuple (.str w :: qs)), x4, .v (.list [.int R, .int T]), .no, .v (.int c5), .v (.int (T + u)), .v (.int (c6 / 3)), .v (.int (1 + v)), .v (.bool B)]) := by
    simp [q_law_16, Fx.run, Fx.evS, Fx.evE, Fx.evEs, Fx.evI, Fx.evP, Fx.o2, Fx.bt, Fx.ixD, Fx.slD, Fx.inD, Fx.eqD, Fx.isiD, Fx.isDict, Fx.setX, Fx.setXs, Fx.isNew, Fx.fzE, Fx.fzC, Fx.seqD, Fx.flatD, Fx.small, Fx.atI_0, Fx.atI_1, Fx.atI_2, Fx.atI_3, Fx.atI_4, Fx.atI_5, f8, v1, v2, hb2]
  have s17 : evS tb_law q_law_17 [.v sc, .v (.int base), .v (.int far), .v (.tuple (.str w :: qs)), x4, .v (.list [.int R, .int T]), .no, .v (.int c5), .v (.int (T + u)), .v (.int (c6 / 3)), .v (.int (1 + v)), .v (.bool B)] = some (.rt (.bool true)) := by
    simp [q_law_17, Fx.run, Fx.evS, Fx.evE, Fx.evEs, Fx.evI, Fx.evP, Fx.o2, Fx.bt, Fx.ixD, Fx.slD, Fx.inD, Fx.eqD, Fx.isiD, Fx.isDict, Fx.setX, Fx.setXs, Fx.isNew, Fx.fzE, Fx.fzC, Fx.seqD, Fx.flatD, Fx.small, Fx.atI_0, Fx.atI_1, Fx.atI_2, Fx.atI_3, Fx.atI_4, Fx.atI_5, f9, hg2]
  rw [show t_law_6 = .seq q_law_6 t_law_7 from rfl, st_nx s6, show t_law_7 = .seq q_law_7 t_law_8 from rfl, st_nx s7, show t_law_8 = .seq q_law_8 t_law_9 from rfl, st_nx s8, show t_law_9 = .seq q_law_9 t_law_10 from rfl, st_nx s9, show t_law_10 = .seq q_law_10 t_law_11 from rfl, st_nx s10, show t_law_11 = .seq q_law_11 t_law_12 from rfl, st_nx s11, show t_law_12 = .seq q_law_12 t_law_13 from rfl, st_nx s12, show t_law_13 = .seq q_law_13 t_law_14 from rfl, st_nx s13, show t_law_14 = .seq q_law_14 t_law_15 from rfl, st_nx s14, show t_law_15 = .seq q_law_15 t_law_16 from rfl, st_nx s15, show t_law_16 = .seq q_law_16 t_law_17 from rfl, st_nx s16, show t_law_17 = .seq q_law_17 t_law_18 from rfl, st_rt s17]
theorem law_true : ∀ ns : List Int, ns.length ≤ 63 → m_law [scr ns] = some (.bool true) := by
  intro ns _
  obtain ⟨c0, e0⟩ := cellI ns 0 (by omega)
  obtain ⟨c1, e1⟩ := cellI ns 1 (by omega)
  obtain ⟨c2, e2⟩ := cellI ns 2 (by omega)
  obtain ⟨c3, e3⟩ := cellI ns 3 (by omega)
  obtain ⟨c4, e4⟩ := cellI ns 4 (by omega)
  have far : ∃ far, 0 ≤ far ∧ atI [PyData.int 0, .int (c3 / 3 % 1000000), .int (c3 / 3 % 999999999800)] (c3 % 3) = some (.int far) := by
    have h : c3 % 3 = 0 ∨ c3 % 3 = 1 ∨ c3 % 3 = 2 := by omega
    rcases h with h | h | h
    · exact ⟨0, by omega, by rw [h]; rfl⟩
    · exact ⟨c3 / 3 % 1000000, by omega, by rw [h]; rfl⟩
    · exact ⟨c3 / 3 % 999999999800, by omega, by rw [h]; rfl⟩
  obtain ⟨far, hf, hfar⟩ := far
  obtain ⟨p, hp, gp, sp⟩ := plain_by_st c0 c1 c2 far hf
  have f0 : tb_law.fs[0]? = some m_law_cell_at := rfl
  have f1 : tb_law.fs[1]? = some m_law_plain_by := rfl
  have b1 : (-4611686018427387904 : Int) ≤ c4 % 6 := by omega
  have b2 : c4 % 6 < (4611686018427387904 : Int) := by omega
  refine run_of rfl ?_
  show evS tb_law t_law_1 [.v (scr ns), .no, .no, .no, .no, .no, .no, .no, .no, .no, .no, .no] = _
  have s1 : evS tb_law q_law_1 [.v (scr ns), .no, .no, .no, .no, .no, .no, .no, .no, .no, .no, .no] = some (.nx [.v (scr ns), .v (.int c3), .no, .no, .no, .no, .no, .no, .no, .no, .no, .no]) := by
    simp [q_law_1, Fx.run, Fx.evS, Fx.evE, Fx.evEs, Fx.evI, Fx.evP, Fx.o2, Fx.bt, Fx.ixD, Fx.slD, Fx.inD, Fx.eqD, Fx.isiD, Fx.isDict, Fx.setX, Fx.setXs, Fx.isNew, Fx.fzE, Fx.fzC, Fx.seqD, Fx.flatD, Fx.small, Fx.atI_0, Fx.atI_1, Fx.atI_2, Fx.atI_3, Fx.atI_4, Fx.atI_5, f0, e3]
  have s2 : evS tb_law q_law_2 [.v (scr ns), .v (.int c3), .no, .no, .no, .no, .no, .no, .no, .no, .no, .no] = some (.nx [.v (scr ns), .v (.int c3), .v (.int far), .no, .no, .no, .no, .no, .no, .no, .no, .no]) := by
    simp [q_law_2, Fx.run, Fx.evS, Fx.evE, Fx.evEs, Fx.evI, Fx.evP, Fx.o2, Fx.bt, Fx.ixD, Fx.slD, Fx.inD, Fx.eqD, Fx.isiD, Fx.isDict, Fx.setX, Fx.setXs, Fx.isNew, Fx.fzE, Fx.fzC, Fx.seqD, Fx.flatD, Fx.small, Fx.atI_0, Fx.atI_1, Fx.atI_2, Fx.atI_3, Fx.atI_4, Fx.atI_5, hfar, sizeLine]
  have s3 : evS tb_law q_law_3 [.v (scr ns), .v (.int c3), .v (.int far), .no, .no, .no, .no, .no, .no, .no, .no, .no] = some (.nx [.v (scr ns), .v (.int c3), .v (.int far), .v p.d, .no, .no, .no, .no, .no, .no, .no, .no]) := by
    obtain ⟨qs, hq⟩ := pd_tup p
    rw [hq] at hp ⊢
    simp [q_law_3, cp_law_c1, el_law_c1, it_law_c1, Fx.run, Fx.evS, Fx.evE, Fx.evEs, Fx.evI, Fx.evP, Fx.o2, Fx.bt, Fx.ixD, Fx.slD, Fx.inD, Fx.eqD, Fx.isiD, Fx.isDict, Fx.setX, Fx.setXs, Fx.isNew, Fx.fzE, Fx.fzC, Fx.seqD, Fx.flatD, Fx.small, Fx.atI_0, Fx.atI_1, Fx.atI_2, Fx.atI_3, Fx.atI_4, Fx.atI_5, f0, f1, e0, e1, e2, mapO, rngs, rngD, inLine, sizeLine, hp]
  have s4 : ∃ p' : Pl, p'.Good ∧ 0 ≤ stP p' ∧ evS tb_law q_law_4 [.v (scr ns), .v (.int c3), .v (.int far), .v p.d, .no, .no, .no, .no, .no, .no, .no, .no] = some (.nx [.v (scr ns), .v (.int c3), .v (.int far), .v (bd [] p'), .no, .no, .no, .no, .no, .no, .no, .no]) := by
    cases p with
    | every h n s =>
      by_cases a : c4 / 6 % 2 = 1
      · refine ⟨.every h n (1 + c2 % 1000000), ⟨by omega, by omega⟩, sp, ?_⟩
        show _ = some (Out.nx [.v (scr ns), .v (.int c3), .v (.int far), .v (Pl.every h n (1 + c2 % 1000000)).d, .no, .no, .no, .no, .no, .no, .no, .no])
        simp [q_law_4, Pl.d, Fx.run, Fx.evS, Fx.evE, Fx.evEs, Fx.evI, Fx.evP, Fx.o2, Fx.bt, Fx.ixD, Fx.slD, Fx.inD, Fx.eqD, Fx.isiD, Fx.isDict, Fx.setX, Fx.setXs, Fx.isNew, Fx.fzE, Fx.fzC, Fx.seqD, Fx.flatD, Fx.small, Fx.atI_0, Fx.atI_1, Fx.atI_2, Fx.atI_3, Fx.atI_4, Fx.atI_5, f0, e2, e4, a, sizeLine]
      · refine ⟨.every h n s, gp, sp, ?_⟩
        show _ = some (Out.nx [.v (scr ns), .v (.int c3), .v (.int far), .v (Pl.every h n s).d, .no, .no, .no, .no, .no, .no, .no, .no])
        simp [q_law_4, Pl.d, Fx.run, Fx.evS, Fx.evE, Fx.evEs, Fx.evI, Fx.evP, Fx.o2, Fx.bt, Fx.ixD, Fx.slD, Fx.inD, Fx.eqD, Fx.isiD, Fx.isDict, Fx.setX, Fx.setXs, Fx.isNew, Fx.fzE, Fx.fzC, Fx.seqD, Fx.flatD, Fx.small, Fx.atI_0, Fx.atI_1, Fx.atI_2, Fx.atI_3, Fx.atI_4, Fx.atI_5, f0, e2, e4, a, sizeLine]
    | once h n =>
      refine ⟨.once h n, gp, sp, ?_⟩
      show _ = some (Out.nx [.v (scr ns), .v (.int c3), .v (.int far), .v (Pl.once h n).d, .no, .no, .no, .no, .no, .no, .no, .no])
      simp [q_law_4, Pl.d, Fx.run, Fx.evS, Fx.evE, Fx.evEs, Fx.evI, Fx.evP, Fx.o2, Fx.bt, Fx.ixD, Fx.slD, Fx.inD, Fx.eqD, Fx.isiD, Fx.isDict, Fx.setX, Fx.setXs, Fx.isNew, Fx.fzE, Fx.fzC, Fx.seqD, Fx.flatD, Fx.small, Fx.atI_0, Fx.atI_1, Fx.atI_2, Fx.atI_3, Fx.atI_4, Fx.atI_5, w_once_every, b_once_every, w_once_week, b_once_week, w_once_month, b_once_month, w_once_from, b_once_from, w_once_until, b_once_until, w_once_also, b_once_also, w_once_but, b_once_but, w_every_once, b_every_once, w_every_week, b_every_week, w_every_month, b_every_month, w_every_from, b_every_from, w_every_until, b_every_until, w_every_also, b_every_also, w_every_but, b_every_but, w_week_once, b_week_once, w_week_every, b_week_every, w_week_month, b_week_month, w_week_from, b_week_from, w_week_until, b_week_until, w_week_also, b_week_also, w_week_but, b_week_but, w_month_once, b_month_once, w_month_every, b_month_every, w_month_week, b_month_week, w_month_from, b_month_from, w_month_until, b_month_until, w_month_also, b_month_also, w_month_but, b_month_but, w_from_once, b_from_once, w_from_every, b_from_every, w_from_week, b_from_week, w_from_month, b_from_month, w_from_until, b_from_until, w_from_also, b_from_also, w_from_but, b_from_but, w_until_once, b_until_once, w_until_every, b_until_every, w_until_week, b_until_week, w_until_month, b_until_month, w_until_from, b_until_from, w_until_also, b_until_also, w_until_but, b_until_but, w_also_once, b_also_once, w_also_every, b_also_every, w_also_week, b_also_week, w_also_month, b_also_month, w_also_from, b_also_from, w_also_until, b_also_until, w_also_but, b_also_but, w_but_once, b_but_once, w_but_every, b_but_every, w_but_week, b_but_week, w_but_month, b_but_month, w_but_from, b_but_from, w_but_until, b_but_until, w_but_also, b_but_also]
    | week ds h n =>
      refine ⟨.week ds h n, gp, sp, ?_⟩
      show _ = some (Out.nx [.v (scr ns), .v (.int c3), .v (.int far), .v (Pl.week ds h n).d, .no, .no, .no, .no, .no, .no, .no, .no])
      simp [q_law_4, Pl.d, Fx.run, Fx.evS, Fx.evE, Fx.evEs, Fx.evI, Fx.evP, Fx.o2, Fx.bt, Fx.ixD, Fx.slD, Fx.inD, Fx.eqD, Fx.isiD, Fx.isDict, Fx.setX, Fx.setXs, Fx.isNew, Fx.fzE, Fx.fzC, Fx.seqD, Fx.flatD, Fx.small, Fx.atI_0, Fx.atI_1, Fx.atI_2, Fx.atI_3, Fx.atI_4, Fx.atI_5, w_once_every, b_once_every, w_once_week, b_once_week, w_once_month, b_once_month, w_once_from, b_once_from, w_once_until, b_once_until, w_once_also, b_once_also, w_once_but, b_once_but, w_every_once, b_every_once, w_every_week, b_every_week, w_every_month, b_every_month, w_every_from, b_every_from, w_every_until, b_every_until, w_every_also, b_every_also, w_every_but, b_every_but, w_week_once, b_week_once, w_week_every, b_week_every, w_week_month, b_week_month, w_week_from, b_week_from, w_week_until, b_week_until, w_week_also, b_week_also, w_week_but, b_week_but, w_month_once, b_month_once, w_month_every, b_month_every, w_month_week, b_month_week, w_month_from, b_month_from, w_month_until, b_month_until, w_month_also, b_month_also, w_month_but, b_month_but, w_from_once, b_from_once, w_from_every, b_from_every, w_from_week, b_from_week, w_from_month, b_from_month, w_from_until, b_from_until, w_from_also, b_from_also, w_from_but, b_from_but, w_until_once, b_until_once, w_until_every, b_until_every, w_until_week, b_until_week, w_until_month, b_until_month, w_until_from, b_until_from, w_until_also, b_until_also, w_until_but, b_until_but, w_also_once, b_also_once, w_also_every, b_also_every, w_also_week, b_also_week, w_also_month, b_also_month, w_also_from, b_also_from, w_also_until, b_also_until, w_also_but, b_also_but, w_but_once, b_but_once, w_but_every, b_but_every, w_but_week, b_but_week, w_but_month, b_but_month, w_but_from, b_but_from, w_but_until, b_but_until, w_but_also, b_but_also]
    | month d h n =>
      refine ⟨.month d h n, gp, sp, ?_⟩
      show _ = some (Out.nx [.v (scr ns), .v (.int c3), .v (.int far), .v (Pl.month d h n).d, .no, .no, .no, .no, .no, .no, .no, .no])
      simp [q_law_4, Pl.d, Fx.run, Fx.evS, Fx.evE, Fx.evEs, Fx.evI, Fx.evP, Fx.o2, Fx.bt, Fx.ixD, Fx.slD, Fx.inD, Fx.eqD, Fx.isiD, Fx.isDict, Fx.setX, Fx.setXs, Fx.isNew, Fx.fzE, Fx.fzC, Fx.seqD, Fx.flatD, Fx.small, Fx.atI_0, Fx.atI_1, Fx.atI_2, Fx.atI_3, Fx.atI_4, Fx.atI_5, w_once_every, b_once_every, w_once_week, b_once_week, w_once_month, b_once_month, w_once_from, b_once_from, w_once_until, b_once_until, w_once_also, b_once_also, w_once_but, b_once_but, w_every_once, b_every_once, w_every_week, b_every_week, w_every_month, b_every_month, w_every_from, b_every_from, w_every_until, b_every_until, w_every_also, b_every_also, w_every_but, b_every_but, w_week_once, b_week_once, w_week_every, b_week_every, w_week_month, b_week_month, w_week_from, b_week_from, w_week_until, b_week_until, w_week_also, b_week_also, w_week_but, b_week_but, w_month_once, b_month_once, w_month_every, b_month_every, w_month_week, b_month_week, w_month_from, b_month_from, w_month_until, b_month_until, w_month_also, b_month_also, w_month_but, b_month_but, w_from_once, b_from_once, w_from_every, b_from_every, w_from_week, b_from_week, w_from_month, b_from_month, w_from_until, b_from_until, w_from_also, b_from_also, w_from_but, b_from_but, w_until_once, b_until_once, w_until_every, b_until_every, w_until_week, b_until_week, w_until_month, b_until_month, w_until_from, b_until_from, w_until_also, b_until_also, w_until_but, b_until_but, w_also_once, b_also_once, w_also_every, b_also_every, w_also_week, b_also_week, w_also_month, b_also_month, w_also_from, b_also_from, w_also_until, b_also_until, w_also_but, b_also_but, w_but_once, b_but_once, w_but_every, b_but_every, w_but_week, b_but_week, w_but_month, b_but_month, w_but_from, b_but_from, w_but_until, b_but_until, w_but_also, b_but_also]
  obtain ⟨p', gp', sp', s4⟩ := s4
  obtain ⟨hs, y4, hl, hk, hloop⟩ := law_loop ns c3 far p' .no .no .no .no .no .no .no (c4 % 6).toNat 0 [] .no (by omega) (fun h m => by cases m)
  have hl' : hs.length < 200 := by rw [hl]; simp; omega
  have s5 : evS tb_law q_law_5 [.v (scr ns), .v (.int c3), .v (.int far), .v (bd [] p'), .no, .no, .no, .no, .no, .no, .no, .no] = some (.nx [.v (scr ns), .v (.int c3), .v (.int far), .v (bd hs p'), y4, .no, .no, .no, .no, .no, .no, .no]) := by
    rw [q_law_5, fr_nx (ds := rngD 0 (c4 % 6).toNat) (by simp [i_law_w1, Fx.run, Fx.evS, Fx.evE, Fx.evEs, Fx.evI, Fx.evP, Fx.o2, Fx.bt, Fx.ixD, Fx.slD, Fx.inD, Fx.eqD, Fx.isiD, Fx.isDict, Fx.setX, Fx.setXs, Fx.isNew, Fx.fzE, Fx.fzC, Fx.seqD, Fx.flatD, Fx.small, Fx.atI_0, Fx.atI_1, Fx.atI_2, Fx.atI_3, Fx.atI_4, Fx.atI_5, f0, e4, rngs, inLine, b1, b2])]
    exact hloop
  rw [show t_law_1 = .seq q_law_1 t_law_2 from rfl, st_nx s1, show t_law_2 = .seq q_law_2 t_law_3 from rfl, st_nx s2, show t_law_3 = .seq q_law_3 t_law_4 from rfl, st_nx s3, show t_law_4 = .seq q_law_4 t_law_5 from rfl, st_nx s4, show t_law_5 = .seq q_law_5 t_law_6 from rfl, st_nx s5]
  exact law_end ns c3 far p' gp' sp' hs hl' hk y4

end k08

open PySem PySem.W PyProof.Rows
set_option maxHeartbeats 0 in
theorem PySem.Challenge.cw_freehour_k08_rules_come_round_holds : PySem.Challenge.rw_freehour_k08_rules_come_round.Holds := by
  w_on; o_law; k_head; (case hw => w_witness2)
  k_fill
  refine L2.walk_of (l := PySem.Challenge.rw_freehour_k08_rules_come_round) (n := 63) (k := 8) (x := "_law_script") (CX := fun _ => L2.CX0) (sp := fun w => Fx.spLaw _) rfl (by decide) rfl ⟨rfl, by decide, by decide⟩ (fun w h Y => PySem.W.kIn_of Y) ?F (fun _ _ a ns hl _ hS => ⟨a, ns, rfl, hS, hl, fun _ => rfl⟩) (fun _ _ _ _ _ h => h)
  case F =>
    intro w mg fa h KX G hmg
    refine' k08.all_mk k08.law_true KX G hmg ?T
    refine' ⟨?d_is_long, ?d_year_length, ?d_month_length, ?d_date_of, ?d_from_end, ?d_comes_again, ?d_is_day_of_month, ?d_begins_plain, ?d_is_cut, ?d_begins, ?d_round_of, ?d_settled_plain, ?d_settled_around, ?d_settled, ?d_law_cell_at, ?d_law_whole, ?d_law_weekdays, ?d_law_plain_by, ?d_law_bearing, ?d_law_heads, ?d_law_head_by, ?d_law_days, ?d_law_in_month, ?d_law_plain_begins, ?d_law_begun, ?d_law_settled, ?d_law_round, ?d_law, ?c_YEAR_LENGTH, ?c_MONTH_LENGTHS, ?c_FOUR_YEARS_LENGTH, ?c_WEEK_DAYS, ?c_DAY_HOURS, ?c_WORDS_AROUND, ?c_MONTH_ROUND, ?c_WEEK_ROUND, ?c_ONCE_ROUND, ?bt⟩
    case d_is_long => (refine' Fx.def_at ?a ?l ?c ?k; (case a => k_is); (case l => k_is); (case c => k_is); (case k => k_is))
    case d_year_length => (refine' Fx.def_at ?a ?l ?c ?k; (case a => k_is); (case l => k_is); (case c => k_is); (case k => k_is))
    case d_month_length => (refine' Fx.def_at ?a ?l ?c ?k; (case a => k_is); (case l => k_is); (case c => k_is); (case k => k_is))
    case d_date_of => (refine' Fx.def_at ?a ?l ?c ?k; (case a => k_is); (case l => k_is); (case c => k_is); (case k => k_is))
    case d_from_end => (refine' Fx.def_at ?a ?l ?c ?k; (case a => k_is); (case l => k_is); (case c => k_is); (case k => k_is))
    case d_comes_again => (refine' Fx.def_at ?a ?l ?c ?k; (case a => k_is); (case l => k_is); (case c => k_is); (case k => k_is))
    case d_is_day_of_month => (refine' Fx.def_at ?a ?l ?c ?k; (case a => k_is); (case l => k_is); (case c => k_is); (case k => k_is))
    case d_begins_plain => (refine' Fx.def_at ?a ?l ?c ?k; (case a => k_is); (case l => k_is); (case c => k_is); (case k => k_is))
    case d_is_cut => (refine' Fx.def_at ?a ?l ?c ?k; (case a => k_is); (case l => k_is); (case c => k_is); (case k => k_is))
    case d_begins => (refine' Fx.def_at ?a ?l ?c ?k; (case a => k_is); (case l => k_is); (case c => k_is); (case k => k_is))
    case d_round_of => (refine' Fx.def_at ?a ?l ?c ?k; (case a => k_is); (case l => k_is); (case c => k_is); (case k => k_is))
    case d_settled_plain => (refine' Fx.def_at ?a ?l ?c ?k; (case a => k_is); (case l => k_is); (case c => k_is); (case k => k_is))
    case d_settled_around => (refine' Fx.def_at ?a ?l ?c ?k; (case a => k_is); (case l => k_is); (case c => k_is); (case k => k_is))
    case d_settled => (refine' Fx.def_at ?a ?l ?c ?k; (case a => k_is); (case l => k_is); (case c => k_is); (case k => k_is))
    case d_law_cell_at => (refine' Fx.def_at ?a ?l ?c ?k; (case a => k_is); (case l => k_is); (case c => k_is); (case k => k_is))
    case d_law_whole => (refine' Fx.def_at ?a ?l ?c ?k; (case a => k_is); (case l => k_is); (case c => k_is); (case k => k_is))
    case d_law_weekdays => (refine' Fx.def_at ?a ?l ?c ?k; (case a => k_is); (case l => k_is); (case c => k_is); (case k => k_is))
    case d_law_plain_by => (refine' Fx.def_at ?a ?l ?c ?k; (case a => k_is); (case l => k_is); (case c => k_is); (case k => k_is))
    case d_law_bearing => (refine' Fx.def_at ?a ?l ?c ?k; (case a => k_is); (case l => k_is); (case c => k_is); (case k => k_is))
    case d_law_heads => (refine' Fx.def_at ?a ?l ?c ?k; (case a => k_is); (case l => k_is); (case c => k_is); (case k => k_is))
    case d_law_head_by => (refine' Fx.def_at ?a ?l ?c ?k; (case a => k_is); (case l => k_is); (case c => k_is); (case k => k_is))
    case d_law_days => (refine' Fx.def_at ?a ?l ?c ?k; (case a => k_is); (case l => k_is); (case c => k_is); (case k => k_is))
    case d_law_in_month => (refine' Fx.def_at ?a ?l ?c ?k; (case a => k_is); (case l => k_is); (case c => k_is); (case k => k_is))
    case d_law_plain_begins => (refine' Fx.def_at ?a ?l ?c ?k; (case a => k_is); (case l => k_is); (case c => k_is); (case k => k_is))
    case d_law_begun => (refine' Fx.def_at ?a ?l ?c ?k; (case a => k_is); (case l => k_is); (case c => k_is); (case k => k_is))
    case d_law_settled => (refine' Fx.def_at ?a ?l ?c ?k; (case a => k_is); (case l => k_is); (case c => k_is); (case k => k_is))
    case d_law_round => (refine' Fx.def_at ?a ?l ?c ?k; (case a => k_is); (case l => k_is); (case c => k_is); (case k => k_is))
    case d_law => (refine' Fx.def_at ?a ?l ?c ?k; (case a => k_is); (case l => k_is); (case c => k_is); (case k => k_is))
    case c_YEAR_LENGTH => (refine' Fx.int_at ?a; (case a => k_is))
    case c_MONTH_LENGTHS => (refine' Fx.tup_at ?a ?l ?h1 ?h2 ?s ?v; (case a => k_is); (case l => k_is); (case h1 => rfl); (case h2 => rfl); (case s => decide); (case v => exact .cons ⟨_, rfl⟩ (.cons ⟨_, rfl⟩ (.cons ⟨_, rfl⟩ (.cons ⟨_, rfl⟩ (.cons ⟨_, rfl⟩ (.cons ⟨_, rfl⟩ (.cons ⟨_, rfl⟩ (.cons ⟨_, rfl⟩ (.cons ⟨_, rfl⟩ (.cons ⟨_, rfl⟩ (.cons ⟨_, rfl⟩ (.cons ⟨_, rfl⟩ (.nil))))))))))))))
    case c_FOUR_YEARS_LENGTH => (refine' Fx.int_at ?a; (case a => k_is))
    case c_WEEK_DAYS => (refine' Fx.int_at ?a; (case a => k_is))
    case c_DAY_HOURS => (refine' Fx.int_at ?a; (case a => k_is))
    case c_WORDS_AROUND => (refine' Fx.tup_at ?a ?l ?h1 ?h2 ?s ?v; (case a => k_is); (case l => k_is); (case h1 => rfl); (case h2 => rfl); (case s => decide); (case v => exact .cons ⟨_, rfl⟩ (.cons ⟨_, rfl⟩ (.cons ⟨_, rfl⟩ (.cons ⟨_, rfl⟩ (.nil))))))
    case c_MONTH_ROUND => (refine' Fx.int_at ?a; (case a => k_is))
    case c_WEEK_ROUND => (refine' Fx.int_at ?a; (case a => k_is))
    case c_ONCE_ROUND => (refine' Fx.int_at ?a; (case a => k_is))
    case bt =>
      intro x hx
      simp only [Fx.bNames, List.mem_cons, List.not_mem_nil, or_false] at hx
      rcases hx with rfl | rfl | rfl | rfl | rfl | rfl | rfl | rfl | rfl | rfl | rfl | rfl | rfl | rfl | rfl | rfl | rfl
      all_goals k_is

