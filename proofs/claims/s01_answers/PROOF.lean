import PyProof.Rows.All
import Wide.All
import OpenK.AllK
import Wide.FinOn
import Open.SpecLaws
import KE.OsHead
import KE.OsGo
import HandS.ForSpec
import HandS.Comp
import HandS.Evl
import HandS.Text
import PySem.Challenge.RW_crossgreen_s01_answers
set_option Elab.async false
set_option linter.all false
set_option maxRecDepth 100000
set_option maxHeartbeats 2000000

/-! The mirror: each def of the program as a total function over records. -/
namespace Xg
abbrev Strm := Sa38.Stream
/-- a stream as it stands now: 0 red, 1 green, 2 yellow, 3 clearing -/
structure Dy where
  col : Nat
  time : Nat
  rest : Nat
  waited : Nat
  go : Bool
  car : Bool
  but : Bool
def Dy.new (p : Strm) : Dy := ⟨0, 0, 0, 0, false, p.remembers, decide (0 < p.walk)⟩
def grn (d : Dy) : Bool := decide (d.col = 1)
def ylw (d : Dy) : Bool := decide (d.col = 2)
def inc (d : Dy) : Bool := !decide (d.col = 0)
def walks (p : Strm) (d : Dy) : Bool := grn d && (d.go && decide (d.time < p.walk))
def clears (p : Strm) (d : Dy) : Bool := if (!grn d || !d.go) = true then false else (decide (p.walk ≤ d.time) && decide (d.time < p.walk + p.clear))
def done (p : Strm) (d : Dy) : Bool := !walks p d && !clears p d
def hear1 (p : Strm) (d : Dy) (b : Bool) : Dy := if (b && (decide (0 < p.walk) && !walks p d)) = true then { d with but := true } else d
def hear2 (p : Strm) (d : Dy) (c : Bool) : Dy := if (c && (p.remembers && !grn d)) = true then { d with car := true } else d
def hear (p : Strm) (d : Dy) (c b : Bool) : Dy := hear2 p (hear1 p d b) c
def isCalled (p : Strm) (d : Dy) (c : Bool) : Bool := if (p.always || (d.car || d.but)) = true then true else (c && !grn d)
def tick (d : Dy) : Dy := if inc d = true then { d with time := d.time + 1 } else d
def gapR (p : Strm) (d : Dy) (c : Bool) : Dy := if c = true then { d with rest := p.gap } else if 0 < d.rest then { d with rest := d.rest - 1 } else d
def endW (p : Strm) (d : Dy) : Dy := if walks p d = true then { d with time := p.walk } else d
def mayEnd (p : Strm) (d : Dy) : Bool := if (decide (d.time < p.least) || !done p d) = true then false else if p.most ≤ d.waited then true else (decide (d.rest = 0) && !p.tillMost)
def takeC (c : Nat) (d : Dy) : Dy := { d with col := c, time := 0 }
def becomeG (p : Strm) (d : Dy) : Dy := ⟨1, 0, p.gap, 0, d.but || (p.tillMost && decide (0 < p.walk)), false, false⟩
def fade1 (p : Strm) (d : Dy) : Dy := if (ylw d && decide (p.yellow ≤ d.time)) = true then takeC 3 d else d
def fade2 (p : Strm) (d : Dy) : Dy := if (decide (d.col = 3) && decide (p.red ≤ d.time)) = true then takeC 0 d else d
def fade (p : Strm) (d : Dy) : Dy := fade2 p (fade1 p d)
def wait (b : Bool) (d : Dy) : Dy := if b = true then { d with waited := d.waited + 1 } else d
def endF (p : Strm) (b : Bool) (d : Dy) : Dy := if b = true then endW p d else d
def clock1 (p : Strm) (d : Dy) (byF c pr : Bool) : Dy := if grn (tick d) = true then endF p byF (wait pr (gapR p (tick d) c)) else tick d

/-- a crossing: its streams, how they stand, the group, the last in colour by rings -/
structure Cm where
  P : List Strm
  dy : Nat → Dy
  group : Nat
  latest : Nat → Option Nat
def Cm.n (m : Cm) : Nat := m.P.length
def stP (P : List Strm) (k : Nat) : Strm := P.getD k Sa38.none_
abbrev Cm.st (m : Cm) (k : Nat) : Strm := stP m.P k
def Cm.new (P : List Strm) : Cm := ⟨P, fun k => Dy.new (stP P k), 7, fun _ => none⟩
def setF {α : Type} (f : Nat → α) (k : Nat) (x : α) : Nat → α := fun j => if j = k then x else f j
def Cm.setD (m : Cm) (k : Nat) (d : Dy) : Cm := { m with dy := setF m.dy k d }
/-- the first i streams by g -/
def upTo (g : Nat → Dy → Dy) (i : Nat) (m : Cm) : Cm := { m with dy := fun j => if j < i then g j (m.dy j) else m.dy j }
def greens (m : Cm) : List Nat := (List.range m.n).filter fun k => grn (m.dy k)
def inCol (m : Cm) (r : Nat) : Option Nat := match m.latest r with
  | some k => if inc (m.dy k) = true then some k else none
  | none => none
def allRed (m : Cm) : Bool := (List.range 4).all fun r => (inCol m r).isNone
def crossP (P : List Strm) (j k : Nat) : Bool := if j = k then false else (decide ((stP P j).ring = (stP P k).ring) || !decide ((stP P j).group = (stP P k).group))
def besideP (P : List Strm) (j k : Nat) : Bool := decide ((stP P j).ring = (stP P k).ring) && decide ((stP P j).group = (stP P k).group)
def isStuck (m : Cm) (k : Nat) : Bool := if (!decide ((m.st k).group = m.group) || (inCol m (m.st k).ring).isSome) = true then false else match m.latest (m.st k).ring with
  | some l => decide (k ≤ l)
  | none => false
def isFirst (f : Option Nat) (k : Nat) : Bool := match f with
  | some j => decide (j = k)
  | none => false
def byFirst (P : List Strm) (f : Option Nat) (k : Nat) : Bool := match f with
  | some j => crossP P j k
  | none => false
def pressed (m : Cm) (c : List Nat) : Bool := if greens m = [] then false else c.any fun j => isStuck m j || (greens m).any fun g => crossP m.P j g
def ready (m : Cm) (f : Option Nat) (k : Nat) : Bool := if isFirst f k = true then false else if byFirst m.P f k = true then done (m.st k) (m.dy k) else mayEnd (m.st k) (m.dy k)
def heir (P : List Strm) (c : List Nat) (f : Option Nat) (k : Nat) : Option Nat := if byFirst P f k = true then (match f with
    | some j => if besideP P j k = true then some j else none
    | none => none) else c.find? fun j => decide (k < j) && besideP P j k
def car (cars : Nat) (k : Nat) : Bool := cars.testBit k
/-- what comes: cars, people, who's first -/
structure Inp where
  cars : Nat
  people : Nat
  f : Option Nat
def hearF (P : List Strm) (i : Inp) (k : Nat) (d : Dy) : Dy := hear (stP P k) d (i.cars.testBit k) (i.people.testBit k)
def hears (m : Cm) (i : Inp) : Cm := upTo (hearF m.P i) m.n m
/-- is it called, by how it stands behind its own hearing -/
def callF (m : Cm) (i : Inp) (k : Nat) : Bool := isCalled (m.st k) (hearF m.P i k (m.dy k)) (i.cars.testBit k) || isFirst i.f k
def calledL (m : Cm) (i : Inp) (k : Nat) : List Nat := (List.range k).filter (callF m i)
def calls (m : Cm) (i : Inp) : List Nat := calledL m i m.n
def clockF (P : List Strm) (i : Inp) (pr : Bool) (k : Nat) (d : Dy) : Dy := clock1 (stP P k) d (byFirst P i.f k) (i.cars.testBit k) pr
def clocks (m : Cm) (i : Inp) (c : List Nat) : Cm := upTo (clockF m.P i (pressed m c)) m.n m
def fades (m : Cm) : Cm := upTo (fun k d => fade (stP m.P k) d) m.n m
def rdy (m : Cm) (i : Inp) (k : Nat) : Bool := !grn (m.dy k) || ready m i.f k
def hasHeir (m : Cm) (i : Inp) (c : List Nat) (k : Nat) : Bool := (heir m.P c i.f k).isSome
/-- the turn of the loop over the ends: whether it may be over; how it stands then -/
def overF (m : Cm) (i : Inp) (c : List Nat) (k : Nat) : Bool := !inc (m.dy k) || (rdy m i k && !hasHeir m i c k)
def endD (m : Cm) (i : Inp) (c : List Nat) (k : Nat) : Dy := if (inc (m.dy k) && (grn (m.dy k) && (rdy m i k && hasHeir m i c k))) = true then takeC 2 (m.dy k) else m.dy k
def ends1 (m : Cm) (i : Inp) (c : List Nat) (j : Nat) : Cm := { m with dy := fun k => if k < j then endD m i c k else m.dy k }
def allOver (m : Cm) (i : Inp) (c : List Nat) (j : Nat) : Bool := (List.range j).all (overF m i c)
def partY (m : Cm) (l : List Nat) : Cm := { m with dy := fun k => if k ∈ l then takeC 2 (m.dy k) else m.dy k }
def toY (m : Cm) : Cm := partY m (greens m)
def ends2 (m : Cm) (i : Inp) (c : List Nat) (m2 : Cm) : Cm := if (allOver m i c m.n && pressed m2 c) = true then toY m2 else m2
def ends (m : Cm) (i : Inp) (c : List Nat) : Cm := ends2 (fades m) i c (ends1 (fades m) i c m.n)
def give (m : Cm) (k : Nat) : Cm := { m with dy := setF m.dy k (becomeG (m.st k) (m.dy k)), latest := setF m.latest (m.st k).ring (some k) }
def giveO (m : Cm) (o : Option Nat) : Cm := match o with
  | some k => give m k
  | none => m
def firstCalled (m : Cm) (i : Inp) (c : List Nat) (r : Nat) : Option Nat := c.find? fun k => (decide ((m.st k).ring = r) && decide ((m.st k).group = m.group)) && !byFirst m.P i.f k
def ringB (m : Cm) (i : Inp) (c : List Nat) (sg : Bool) (r : Nat) : Cm := match m.latest r with
  | some l => giveO m (heir m.P c i.f l)
  | none => if sg = true then giveO m (firstCalled m i c r) else m
def ringT (i : Inp) (c : List Nat) (sg : Bool) (m : Cm) (r : Nat) : Cm := if (inCol m r).isNone = true then ringB m i c sg r else m
def rings (m : Cm) (i : Inp) (c : List Nat) (sg : Bool) (j : Nat) : Cm := (List.range j).foldl (ringT i c sg) m
/-- how far behind a group lies -/
def dist (m : Cm) (k : Nat) : Nat := ((m.st k).group + 8 - (m.group + 1)) % 8
def minL : List Nat → Nat
  | [] => 0
  | [a] => a
  | a :: r => min a (minL r)
def nextGroup (m : Cm) (i : Inp) (c : List Nat) : Nat := match i.f with
  | some j => (m.st j).group
  | none => (m.group + 1 + minL (c.map (dist m))) % 8
def beginG (m : Cm) (g : Nat) : Cm := { m with group := g, latest := fun _ => none }
def nextT (i : Inp) (c : List Nat) (m : Cm) (r : Nat) : Cm := giveO m (firstCalled m i c r)
def nexts (m : Cm) (i : Inp) (c : List Nat) (j : Nat) : Cm := (List.range j).foldl (nextT i c) m
def beginNext (m : Cm) (i : Inp) (c : List Nat) : Cm := nexts (beginG m (nextGroup m i c)) i c 4
def begins2 (m : Cm) (i : Inp) (c : List Nat) : Cm := if (allRed m && !decide (c = [])) = true then beginNext m i c else m
def begins (m : Cm) (i : Inp) (c : List Nat) : Cm := begins2 (rings m i c (!decide (greens m = [])) 4) i c
def run2 (m : Cm) (i : Inp) (c : List Nat) : Cm := begins (ends (clocks m i c) i c) i c
def run (m : Cm) (i : Inp) : Cm := run2 (hears m i) i (calls m i)
/-- numbers by their bits -/
def bits : List Nat → Nat
  | [] => 0
  | k :: r => 2 ^ k ||| bits r
def bitsL (l : List Nat) : Nat := l.foldl (fun b k => b ||| 2 ^ k) 0
def sel (m : Cm) (g : Nat → Bool) : List Nat := (List.range m.n).filter g
def lights (m : Cm) : List Nat := [bitsL (greens m), bitsL (sel m fun k => ylw (m.dy k)), bitsL (sel m fun k => walks (m.st k) (m.dy k)), bitsL (sel m fun k => clears (m.st k) (m.dy k))]
def kept (m : Cm) : List Nat := [bitsL (sel m fun k => (m.dy k).car), bitsL (sel m fun k => (m.dy k).but)]
/-! ### the line -/
def lows : List Int := [0, 0, 1, 0, 1, 1, 0, 0, 0, 0]
def highs : List Int := [3, 7, 6000, 6000, 36000, 1000, 1000, 6000, 6000, 7]
def badAt (ns : List Int) (j : Nat) : Bool := decide (ns.getD j 0 < lows.getD j 0) || decide (highs.getD j 0 < ns.getD j 0)
def allowed (ns : List Int) : Bool := ((List.range 10).all fun j => !badAt ns j) && decide (ns.getD 2 0 ≤ ns.getD 4 0)
/-- the ten numbers of the k-th -/
def ten (ns : List Int) (k : Nat) : List Int := (ns.drop (10 * k)).take 10
def good (n : Int) (ns : List Int) : Bool := if n < 1 ∨ 16 < n then false else (List.range n.toNat).all fun k => allowed (ten ns k)
def strmOf (ns : List Int) : Strm := ⟨(ns.getD 0 0).toNat, (ns.getD 1 0).toNat, (ns.getD 2 0).toNat, (ns.getD 3 0).toNat, (ns.getD 4 0).toNat, (ns.getD 5 0).toNat, (ns.getD 6 0).toNat, (ns.getD 7 0).toNat, (ns.getD 8 0).toNat, (ns.getD 9 0).toNat⟩
def strmsOf (n : Nat) (ns : List Int) : List Strm := (List.range n).map fun k => strmOf (ten ns k)
/-- two crossings -/
structure Ms where
  c0 : Option Cm
  c1 : Option Cm
def Ms.get (s : Ms) (e : Int) : Option Cm := if e = 0 then s.c0 else s.c1
def Ms.put (s : Ms) (e : Int) (o : Option Cm) : Ms := if e = 0 then ⟨o, s.c1⟩ else ⟨s.c0, o⟩
def fo (f : Int) : Option Nat := if f = -1 then none else some f.toNat
def told0 (l : List Nat) : List Int := 0 :: l.map fun (x : Nat) => (x : Int)
def mbegin (s : Ms) (e n : Int) (r : List Int) : Ms × List Int := if good n r = true then (s.put e (some (Cm.new (strmsOf n.toNat r))), [0]) else (s, [-2])
def mstep (s : Ms) (e cars people f : Int) : Ms × List Int := match s.get e with
  | none => (s, [-9])
  | some m => if f < -1 ∨ (m.n : Int) ≤ f then (s, [-2]) else (s.put e (some (run m ⟨cars.toNat, people.toNat, fo f⟩)), told0 (lights (run m ⟨cars.toNat, people.toNat, fo f⟩)))
def mcalls (s : Ms) (e : Int) : Ms × List Int := match s.get e with
  | none => (s, [-9])
  | some m => (s, told0 (kept m))
def mcall (s : Ms) : List (List Int) → Ms × List Int
  | [[_, e, n], r] => mbegin s e n r
  | [[_, e, cars, people, f]] => mstep s e cars people f
  | [[_, e]] => mcalls s e
  | _ => (s, [])
/-- a call's numbers in the line -/
def flat : List (List Int) → List Int
  | [[p, e, n], r] => p :: e :: n :: (r.length : Int) :: r
  | [[p, e, cars, people, f]] => [p, e, cars, people, f]
  | [[p, e]] => [p, e]
  | _ => []
/-- a call as it may be handed in -/
inductive Form : List (List Int) → Prop where
  | begin_ {e n : Int} {r : List Int} : (e = 0 ∨ e = 1) → r.length = (if 1 ≤ n ∧ n ≤ 16 then 10 * n.toNat else 0) → Form [[0, e, n], r]
  | step {e cars people f : Int} : (e = 0 ∨ e = 1) → 0 ≤ cars → 0 ≤ people → Form [[1, e, cars, people, f]]
  | calls {e : Int} : (e = 0 ∨ e = 1) → Form [[2, e]]
end Xg

/-! The mirror is the specification. -/
namespace Xg
open Sa38 (St Lit Colour)
/-! ### lists -/
theorem getD_map {α : Type} {f : Nat → α} {n k : Nat} {x : α} (h : k < n) : ((List.range n).map f).getD k x = f k := by
  rw [List.getD_eq_getElem?_getD, List.getElem?_map, List.getElem?_range h]
  rfl
theorem getD_out {α : Type} {f : Nat → α} {n k : Nat} {x : α} (h : ¬ k < n) : ((List.range n).map f).getD k x = x := by
  rw [List.getD_eq_getElem?_getD, List.getElem?_map, List.getElem?_eq_none (by simpa using h)]
  rfl
theorem zip_map {α β : Type} {f : Nat → α} {g : α × Nat → β} {n : Nat} : (((List.range n).map f).zipIdx.map g) = (List.range n).map fun k => g (f k, k) := by
  refine List.ext_getElem (by simp) fun i h1 h2 => ?_
  simp
theorem set_map {α : Type} {f : Nat → α} {n k : Nat} {x : α} : ((List.range n).map f).set k x = (List.range n).map (fun j => if j = k then x else f j) := by
  refine List.ext_getElem (by simp) fun i h1 h2 => ?_
  simp only [List.length_set, List.length_map, List.length_range] at h1
  rw [List.getElem_set]
  simp only [List.getElem_map, List.getElem_range]
  by_cases e : k = i
  · rw [if_pos e, if_pos e.symm]
  · rw [if_neg e, if_neg fun z => e z.symm]
theorem map_range {α : Type} {f g : Nat → α} {n : Nat} (h : ∀ k, k < n → f k = g k) : (List.range n).map f = (List.range n).map g := List.map_congr_left fun k hk => h k (List.mem_range.mp hk)
theorem find_congr {l : List Nat} {p q : Nat → Bool} (h : ∀ x, x ∈ l → p x = q x) : l.find? p = l.find? q := by
  induction l with
  | nil => rfl
  | cons a l ih =>
    have ha := h a List.mem_cons_self
    have ih' := ih fun x hx => h x (List.mem_cons_of_mem _ hx)
    simp only [List.find?_cons, ha, ih']
theorem find_filter {l : List Nat} {p q : Nat → Bool} : (l.filter p).find? q = l.find? fun x => p x && q x := by
  induction l with
  | nil => rfl
  | cons a l ih =>
    by_cases hp : p a = true
    · rw [List.filter_cons_of_pos hp]
      simp only [List.find?_cons, hp, ih, Bool.true_and]
    · have hp' : p a = false := by simpa using hp
      rw [List.filter_cons_of_neg hp]
      simp only [List.find?_cons, hp', ih, Bool.false_and]
theorem all_range {n : Nat} {p : Nat → Bool} : (List.range n).all p = true ↔ ∀ k, k < n → p k = true := by
  rw [List.all_eq_true]
  exact ⟨fun h k hk => h k (List.mem_range.mpr hk), fun h k hk => h k (List.mem_range.mp hk)⟩
theorem any_range {n : Nat} {p : Nat → Bool} : (List.range n).any p = true ↔ ∃ k, k < n ∧ p k = true := by
  rw [List.any_eq_true]
  exact ⟨fun ⟨k, hk, h⟩ => ⟨k, List.mem_range.mp hk, h⟩, fun ⟨k, hk, h⟩ => ⟨k, List.mem_range.mpr hk, h⟩⟩
theorem bool_ext {a b : Bool} (h : a = true ↔ b = true) : a = b := by
  cases a <;> cases b <;> simp_all
theorem sF_same {α : Type} {f : Nat → α} {k : Nat} {x : α} : setF f k x k = x := if_pos rfl
theorem sF_ne {α : Type} {f : Nat → α} {j k : Nat} {x : α} (h : j ≠ k) : setF f k x j = f j := if_neg h
/-! ### bits -/
theorem bitsL_lt {g : Nat → Bool} : ∀ n, bitsL ((List.range n).filter g) < 2 ^ n ∧ bitsL ((List.range n).filter g) = ((List.range n).map fun k => if g k = true then 2 ^ k else 0).sum
  | 0 => ⟨by show 0 < 1; decide, rfl⟩
  | n + 1 => by
    obtain ⟨h1, h2⟩ := bitsL_lt (g := g) n
    rw [List.range_succ, List.filter_append, List.map_append, List.sum_append, ← h2]
    by_cases hg : g n = true
    · have e : (List.filter g [n]) = [n] := by simp [hg]
      have e2 : bitsL ((List.range n).filter g ++ [n]) = bitsL ((List.range n).filter g) ||| 2 ^ n := by
        unfold bitsL
        rw [List.foldl_append]
        rfl
      have e3 : bitsL ((List.range n).filter g) ||| 2 ^ n = 2 ^ n + bitsL ((List.range n).filter g) := by
        have := Nat.two_pow_add_eq_or_of_lt h1 1
        rw [Nat.mul_one] at this
        rw [this, Nat.or_comm]
      rw [e, e2, e3]
      refine ⟨by rw [Nat.pow_succ]; omega, ?_⟩
      simp [hg]
      omega
    · have e : (List.filter g [n]) = [] := by simp [hg]
      rw [e, List.append_nil]
      refine ⟨by rw [Nat.pow_succ]; omega, ?_⟩
      simp [hg]
/-! ### the specification's state -/
def colr (c : Nat) : Colour := if c = 1 then .green else if c = 2 then .yellow else .clearing
def litD (k : Nat) (d : Dy) : Lit := ⟨k, colr d.col, d.time, d.rest, d.waited, d.go⟩
def litOf (m : Cm) (r : Nat) : Option Lit := match m.latest r with
  | some k => if (m.dy k).col = 0 then none else some (litD k (m.dy k))
  | none => none
def ab (m : Cm) : St := ⟨m.P, (List.range 4).map (litOf m), (List.range 4).map m.latest, m.group, (List.range m.n).map fun k => (m.dy k).car, (List.range m.n).map fun k => (m.dy k).but⟩
def inS (i : Inp) : Sa38.In := ⟨i.cars, i.people, i.f⟩
structure Wf (m : Cm) : Prop where
  ring : ∀ k, k < m.n → (m.st k).ring < 4
  grp : ∀ k, k < m.n → (m.st k).group < 8
  grp0 : m.group < 8
  lat : ∀ r, r < 4 → ∀ k, m.latest r = some k → k < m.n ∧ (m.st k).ring = r
  col : ∀ k, k < m.n → (m.dy k).col ≠ 0 → m.latest (m.st k).ring = some k
  c3 : ∀ k, k < m.n → (m.dy k).col ≤ 3
section
variable {m : Cm} {i : Inp} {k j r : Nat}
theorem ab_stream : (ab m).stream k = m.st k := rfl
theorem ab_all : (ab m).all = List.range m.n := rfl
theorem ab_of (hr : r < 4) : (ab m).of r = litOf m r := getD_map hr
theorem ab_last (hr : r < 4) : (ab m).last.getD r none = m.latest r := getD_map hr
theorem ab_car (hk : k < m.n) : (ab m).cars.getD k false = (m.dy k).car := getD_map hk
theorem ab_but (hk : k < m.n) : (ab m).people.getD k false = (m.dy k).but := getD_map hk
theorem lit_in (h : Wf m) (hk : k < m.n) (hc : (m.dy k).col ≠ 0) : litOf m (m.st k).ring = some (litD k (m.dy k)) := by
  unfold litOf
  rw [h.col k hk hc]
  exact if_neg hc
theorem lit_some (h : Wf m) (hr : r < 4) {x : Lit} (e : litOf m r = some x) : x.k < m.n ∧ (m.st x.k).ring = r ∧ (m.dy x.k).col ≠ 0 ∧ x = litD x.k (m.dy x.k) := by
  unfold litOf at e
  cases hl : m.latest r with
  | none =>
    rw [hl] at e
    cases e
  | some k =>
    rw [hl] at e
    by_cases hc : (m.dy k).col = 0
    · replace e : (if (m.dy k).col = 0 then none else some (litD k (m.dy k))) = some x := e
      rw [if_pos hc] at e
      cases e
    · replace e : (if (m.dy k).col = 0 then none else some (litD k (m.dy k))) = some x := e
      rw [if_neg hc] at e
      have ex := Option.some.inj e
      obtain ⟨h1, h2⟩ := h.lat r hr k hl
      subst ex
      exact ⟨h1, h2, hc, rfl⟩
theorem colr_green {c : Nat} : colr c = .green ↔ c = 1 := by
  unfold colr
  by_cases h : c = 1
  · simp [h]
  · by_cases h2 : c = 2
    · simp [h2]
    · simp [h, h2]
theorem colr_yellow {c : Nat} : colr c = .yellow ↔ c = 2 := by
  unfold colr
  by_cases h : c = 1
  · simp [h]
  · by_cases h2 : c = 2
    · simp [h2]
    · simp [h, h2]
theorem green_eq (h : Wf m) (hk : k < m.n) : (ab m).green k = if grn (m.dy k) = true then some (litD k (m.dy k)) else none := by
  unfold St.green
  rw [ab_stream, ab_of (h.ring k hk)]
  by_cases hg : grn (m.dy k) = true
  · have hc : (m.dy k).col = 1 := of_decide_eq_true hg
    rw [if_pos hg, lit_in h hk (by omega)]
    exact if_pos ⟨rfl, colr_green.mpr hc⟩
  · rw [if_neg hg]
    cases hl : litOf m (m.st k).ring with
    | none => rfl
    | some x =>
      obtain ⟨h1, h2, h3, h4⟩ := lit_some h (h.ring k hk) hl
      refine if_neg fun z => hg ?_
      obtain ⟨z1, z2⟩ := z
      rw [h4] at z2
      have z3 : colr (m.dy x.k).col = .green := z2
      rw [z1] at z3
      exact decide_eq_true (colr_green.mp z3)
theorem green_some (h : Wf m) (hk : k < m.n) : ((ab m).green k).isSome = grn (m.dy k) := by
  rw [green_eq h hk]
  cases grn (m.dy k) <;> rfl
theorem green_none (h : Wf m) (hk : k < m.n) : ((ab m).green k).isNone = !grn (m.dy k) := by
  rw [green_eq h hk]
  cases grn (m.dy k) <;> rfl
theorem walks_eq (h : Wf m) (hk : k < m.n) : Sa38.walks (ab m) k = walks (m.st k) (m.dy k) := by
  unfold Sa38.walks walks
  rw [green_eq h hk]
  cases grn (m.dy k) <;> rfl
theorem clears_eq (h : Wf m) (hk : k < m.n) : Sa38.clears (ab m) k = clears (m.st k) (m.dy k) := by
  unfold Sa38.clears clears
  rw [green_eq h hk]
  cases hg : grn (m.dy k)
  · rfl
  · cases hgo : (m.dy k).go
    · simp [litD, hgo]
    · simp [litD, hgo, ab_stream]
      rfl
theorem yellow_eq (h : Wf m) (hk : k < m.n) : Sa38.isYellow (ab m) k = ylw (m.dy k) := by
  unfold Sa38.isYellow ylw
  rw [ab_stream, ab_of (h.ring k hk)]
  refine bool_ext ?_
  constructor
  · intro e
    cases hl : litOf m (m.st k).ring with
    | none =>
      rw [hl] at e
      cases e
    | some x =>
      rw [hl] at e
      obtain ⟨h1, h2, h3, h4⟩ := lit_some h (h.ring k hk) hl
      simp only [Option.any_some, Bool.and_eq_true, beq_iff_eq] at e
      obtain ⟨e1, e2⟩ := e
      rw [h4] at e2
      rw [e1] at e2
      exact decide_eq_true (colr_yellow.mp e2)
  · intro e
    have hc : (m.dy k).col = 2 := of_decide_eq_true e
    rw [lit_in h hk (by omega)]
    simp [litD, colr_yellow.mpr hc]
theorem cross_eq {s : St} {j k : Nat} : Sa38.crosses s j k = crossP s.streams j k := by
  unfold Sa38.crosses crossP
  by_cases e : j = k
  · rw [if_pos e]
    simp [e]
  · rw [if_neg e]
    have e2 : (j != k) = true := by simpa using e
    rw [e2, Bool.true_and]
    show _ = (decide ((s.stream j).ring = (s.stream k).ring) || !decide ((s.stream j).group = (s.stream k).group))
    refine bool_ext ?_
    simp
theorem beside_eq {s : St} {j k : Nat} : Sa38.beside s j k = besideP s.streams j k := by
  unfold Sa38.beside besideP
  show _ = (decide ((s.stream j).ring = (s.stream k).ring) && decide ((s.stream j).group = (s.stream k).group))
  refine bool_ext ?_
  simp
theorem firstCrosses_eq {s : St} {i : Inp} {k : Nat} : Sa38.firstCrosses s (inS i) k = byFirst s.streams i.f k := by
  unfold Sa38.firstCrosses byFirst inS
  cases i.f with
  | none => rfl
  | some j => exact cross_eq
/-! ### who is called -/
/-- called, by how it stands -/
def calledD (p : Strm) (d : Dy) (i : Inp) (k : Nat) : Bool := p.always || (d.car || (d.but || (isFirst i.f k || (i.cars.testBit k && !grn d))))
theorem called_eq (h : Wf m) (hk : k < m.n) : Sa38.called (ab m) (inS i) k = calledD (m.st k) (m.dy k) i k := by
  unfold Sa38.called calledD
  rw [ab_stream, ab_car hk, ab_but hk, green_none h hk]
  have e : ((inS i).first == some k) = isFirst i.f k := by
    unfold isFirst inS
    cases i.f with
    | none => rfl
    | some j =>
      refine bool_ext ?_
      simp
  rw [e]
  rfl
theorem hear_keep {p : Strm} {d : Dy} {c b : Bool} : (hear p d c b).col = d.col ∧ (hear p d c b).time = d.time ∧ (hear p d c b).rest = d.rest ∧ (hear p d c b).waited = d.waited ∧ (hear p d c b).go = d.go := by
  unfold hear hear2 hear1
  split <;> split <;> exact ⟨rfl, rfl, rfl, rfl, rfl⟩
theorem hear_but {p : Strm} {d : Dy} {c b : Bool} : (hear p d c b).but = (d.but || (b && (decide (0 < p.walk) && !walks p d))) := by
  unfold hear hear2
  have e : (hear1 p d b).but = (d.but || (b && (decide (0 < p.walk) && !walks p d))) := by
    unfold hear1
    cases hb : (b && (decide (0 < p.walk) && !walks p d))
    · simp
    · simp
  split <;> exact e
theorem hear_car {p : Strm} {d : Dy} {c b : Bool} : (hear p d c b).car = (d.car || (c && (p.remembers && !grn d))) := by
  have e1 : grn (hear1 p d b) = grn d := by
    unfold hear1
    split <;> rfl
  have e2 : (hear1 p d b).car = d.car := by
    unfold hear1
    split <;> rfl
  unfold hear hear2
  rw [e1]
  cases hb : (c && (p.remembers && !grn d))
  · simp [e2]
  · simp
theorem hear_grn {p : Strm} {d : Dy} {c b : Bool} : grn (hear p d c b) = grn d := by
  unfold grn
  rw [hear_keep.1]
theorem callF_eq : callF m i k = calledD (m.st k) (hearF m.P i k (m.dy k)) i k := by
  unfold callF isCalled calledD
  generalize (m.st k).always = a
  generalize hearF m.P i k (m.dy k) = d
  generalize isFirst i.f k = f
  cases a <;> cases d.car <;> cases d.but <;> cases f <;> simp
theorem hears_dy (hk : k < m.n) : (hears m i).dy k = hearF m.P i k (m.dy k) := if_pos hk
end
end Xg

namespace Xg
open Sa38 (St Lit Colour)
section
variable {m : Cm} {i : Inp} {k j r : Nat} {c : List Nat} {cp : Nat → Bool}
theorem litOf_congr {m' : Cm} (h1 : m'.latest r = m.latest r) (h2 : ∀ k, m.latest r = some k → (m'.dy k).col = (m.dy k).col ∧ (m'.dy k).time = (m.dy k).time ∧ (m'.dy k).rest = (m.dy k).rest ∧ (m'.dy k).waited = (m.dy k).waited ∧ (m'.dy k).go = (m.dy k).go) : litOf m' r = litOf m r := by
  unfold litOf
  rw [h1]
  cases hl : m.latest r with
  | none => rfl
  | some k =>
    obtain ⟨a, b, c, d, e⟩ := h2 k hl
    show (if (m'.dy k).col = 0 then none else some (litD k (m'.dy k))) = if (m.dy k).col = 0 then none else some (litD k (m.dy k))
    unfold litD
    rw [a, b, c, d, e]
/-- only how the streams stand changes -/
theorem Wf.dys {f : Nat → Dy} (h : Wf m) (h1 : ∀ k, k < m.n → (f k).col ≠ 0 → (m.dy k).col ≠ 0) (h2 : ∀ k, k < m.n → (f k).col ≤ 3) : Wf { m with dy := f } :=
  ⟨h.ring, h.grp, h.grp0, h.lat, fun k hk hc => h.col k hk (h1 k hk hc), h2⟩
/-! ### calls -/
theorem wf_hears (h : Wf m) : Wf (hears m i) := by
  refine h.dys (fun k hk hc => ?_) fun k hk => ?_
  · rw [show (if k < m.n then hearF m.P i k (m.dy k) else m.dy k) = hearF m.P i k (m.dy k) from if_pos hk] at hc
    unfold hearF at hc
    rw [hear_keep.1] at hc
    exact hc
  · rw [show (if k < m.n then hearF m.P i k (m.dy k) else m.dy k) = hearF m.P i k (m.dy k) from if_pos hk]
    unfold hearF
    rw [hear_keep.1]
    exact h.c3 k hk
theorem remember_eq (h : Wf m) : Sa38.remember (ab m) (inS i) = ab (hears m i) := by
  unfold Sa38.remember
  have e1 : ((ab m).people.zipIdx.map fun x => x.1 || ((inS i).people.testBit x.2 && (decide (0 < ((ab m).stream x.2).walk) && !Sa38.walks (ab m) x.2))) = (ab (hears m i)).people := by
    refine zip_map.trans (map_range fun k hk => ?_)
    rw [hears_dy hk]
    unfold hearF
    rw [hear_but, walks_eq h hk]
    rfl
  have e2 : ((ab m).cars.zipIdx.map fun x => x.1 || ((inS i).cars.testBit x.2 && (((ab m).stream x.2).remembers && ((ab m).green x.2).isNone))) = (ab (hears m i)).cars := by
    refine zip_map.trans (map_range fun k hk => ?_)
    rw [hears_dy hk]
    unfold hearF
    rw [hear_car, green_none h hk]
    rfl
  have e3 : (ab m).lit = (ab (hears m i)).lit := by
    refine map_range fun r hr => (litOf_congr (m := m) (m' := hears m i) rfl fun k hk => ?_).symm
    have hkn := (h.lat r hr k hk).1
    rw [hears_dy hkn]
    exact hear_keep
  rw [e1, e2, e3]
  rfl
/-! ### who presses -/
theorem lit_none : (litOf m r).isNone = (inCol m r).isNone := by
  unfold litOf inCol
  cases m.latest r with
  | none => rfl
  | some k =>
    show (if (m.dy k).col = 0 then none else some (litD k (m.dy k))).isNone = (if inc (m.dy k) = true then some k else none).isNone
    unfold inc
    by_cases hc : (m.dy k).col = 0
    · simp [hc]
    · simp [hc]
theorem stuck_eq (h : Wf m) (hj : j < m.n) (hc : Sa38.called (ab m) (inS i) j = cp j) : Sa38.stuck (ab m) (inS i) j = (cp j && isStuck m j) := by
  have hr := h.ring j hj
  unfold Sa38.stuck isStuck
  rw [hc, ab_stream, ab_of hr, ab_last hr, lit_none]
  refine congrArg (cp j && ·) ?_
  have e : ((m.st j).group == (ab m).group) = decide ((m.st j).group = m.group) := by
    refine bool_ext ?_
    simp [ab]
  rw [e]
  cases decide ((m.st j).group = m.group)
  · simp
  · cases hi : inCol m (m.st j).ring with
    | some x => simp
    | none =>
      simp only [Option.isNone_none, Bool.true_and, Bool.not_true, Option.isSome_none, Bool.or_self, Bool.false_eq_true, if_false]
      cases m.latest (m.st j).ring <;> rfl
theorem greens_nil : greens m = [] ↔ ∀ k, k < m.n → grn (m.dy k) = false := by
  unfold greens
  rw [List.filter_eq_nil_iff]
  constructor
  · intro h k hk
    simpa using h k (List.mem_range.mpr hk)
  · intro h k hk
    simpa using h k (List.mem_range.mp hk)
theorem someGreen_eq (h : Wf m) : Sa38.someGreen (ab m) = !decide (greens m = []) := by
  refine bool_ext ?_
  unfold Sa38.someGreen
  rw [ab_all, any_range]
  constructor
  · rintro ⟨k, hk, hg⟩
    rw [green_some h hk] at hg
    have : ¬ greens m = [] := fun z => by
      rw [greens_nil.mp z k hk] at hg
      cases hg
    simp [this]
  · intro hn
    have hn' : ¬ greens m = [] := by simpa using hn
    rw [greens_nil] at hn'
    have ⟨k, hk⟩ := Classical.not_forall.mp hn'
    have ⟨hk1, hk2⟩ := Classical.not_imp.mp hk
    exact ⟨k, hk1, by rw [green_some h hk1]; simpa using hk2⟩
theorem pressed_eq (h : Wf m) (hcp : ∀ k, k < m.n → Sa38.called (ab m) (inS i) k = cp k) : Sa38.pressed (ab m) (inS i) = pressed m ((List.range m.n).filter cp) := by
  unfold Sa38.pressed pressed
  rw [someGreen_eq h]
  by_cases hg : greens m = []
  · rw [if_pos hg]
    have hz := greens_nil.mp hg
    have e : ((ab m).all.any fun j => Sa38.called (ab m) (inS i) j && (ab m).all.any fun k => ((ab m).green k).isSome && Sa38.crosses (ab m) j k) = false := by
      rw [Bool.eq_false_iff]
      intro z
      rw [ab_all, any_range] at z
      obtain ⟨j, hj, z⟩ := z
      rw [Bool.and_eq_true, any_range] at z
      obtain ⟨_, k, hk, z⟩ := z
      rw [green_some h hk, hz k hk] at z
      cases z
    rw [e]
    simp [hg]
  · rw [if_neg hg]
    refine bool_ext ?_
    simp only [Bool.or_eq_true, Bool.and_eq_true, hg, decide_false, Bool.not_false, true_and, ab_all, any_range, List.any_eq_true, List.mem_filter, List.mem_range]
    constructor
    · rintro (⟨j, hj, hc, k, hk, hgk, hx⟩ | ⟨j, hj, hs⟩)
      · rw [hcp j hj] at hc
        rw [green_some h hk] at hgk
        rw [cross_eq] at hx
        exact ⟨j, ⟨hj, hc⟩, Or.inr ⟨k, List.mem_filter.mpr ⟨List.mem_range.mpr hk, hgk⟩, hx⟩⟩
      · rw [stuck_eq h hj (hcp j hj), Bool.and_eq_true] at hs
        exact ⟨j, ⟨hj, hs.1⟩, Or.inl hs.2⟩
    · rintro ⟨j, ⟨hj, hc⟩, hs | ⟨k, hk, hx⟩⟩
      · refine Or.inr ⟨j, hj, ?_⟩
        rw [stuck_eq h hj (hcp j hj), hc, hs]
        rfl
      · have hk' := List.mem_filter.mp hk
        have hkn := List.mem_range.mp hk'.1
        exact Or.inl ⟨j, hj, by rw [hcp j hj]; exact hc, k, hkn, by rw [green_some h hkn]; exact hk'.2, by rw [cross_eq]; exact hx⟩
/-! ### clocks -/
theorem tick_col {d : Dy} : (tick d).col = d.col := by
  unfold tick
  split <;> rfl
theorem clock1_keep {p : Strm} {d : Dy} {b c pr : Bool} : (clock1 p d b c pr).col = d.col ∧ (clock1 p d b c pr).car = d.car ∧ (clock1 p d b c pr).but = d.but := by
  have e0 : (tick d).col = d.col ∧ (tick d).car = d.car ∧ (tick d).but = d.but := by
    unfold tick
    split <;> exact ⟨rfl, rfl, rfl⟩
  have e1 : ∀ x : Dy, (gapR p x c).col = x.col ∧ (gapR p x c).car = x.car ∧ (gapR p x c).but = x.but := fun x => by
    unfold gapR
    split
    · exact ⟨rfl, rfl, rfl⟩
    · split <;> exact ⟨rfl, rfl, rfl⟩
  have e2 : ∀ x : Dy, (wait pr x).col = x.col ∧ (wait pr x).car = x.car ∧ (wait pr x).but = x.but := fun x => by
    unfold wait
    split <;> exact ⟨rfl, rfl, rfl⟩
  have e3 : ∀ x : Dy, (endF p b x).col = x.col ∧ (endF p b x).car = x.car ∧ (endF p b x).but = x.but := fun x => by
    unfold endF endW
    split
    · split <;> exact ⟨rfl, rfl, rfl⟩
    · exact ⟨rfl, rfl, rfl⟩
  unfold clock1
  split
  · rw [(e3 _).1, (e3 _).2.1, (e3 _).2.2, (e2 _).1, (e2 _).2.1, (e2 _).2.2, (e1 _).1, (e1 _).2.1, (e1 _).2.2]
    exact e0
  · exact e0
theorem clocks_dy (hk : k < m.n) : (clocks m i c).dy k = clockF m.P i (pressed m c) k (m.dy k) := if_pos hk
theorem wf_clocks (h : Wf m) : Wf (clocks m i c) := by
  refine h.dys (fun k hk hc => ?_) fun k hk => ?_
  · rw [show (if k < m.n then clockF m.P i (pressed m c) k (m.dy k) else m.dy k) = clockF m.P i (pressed m c) k (m.dy k) from if_pos hk] at hc
    unfold clockF at hc
    rw [clock1_keep.1] at hc
    exact hc
  · rw [show (if k < m.n then clockF m.P i (pressed m c) k (m.dy k) else m.dy k) = clockF m.P i (pressed m c) k (m.dy k) from if_pos hk]
    unfold clockF
    rw [clock1_keep.1]
    exact h.c3 k hk
theorem clock_lit {d : Dy} (hp : Sa38.pressed (ab m) (inS i) = pressed m c) (hc : d.col ≠ 0) : litD k (clockF m.P i (pressed m c) k d) = Sa38.clock (ab m) (inS i) (litD k d) := by
  have ht : tick d = { d with time := d.time + 1 } := if_pos (by unfold inc; simp [hc])
  unfold clockF clock1 Sa38.clock
  rw [hp, firstCrosses_eq, ht]
  by_cases hg : d.col = 1
  · have e1 : grn { d with time := d.time + 1 } = true := decide_eq_true hg
    have e2 : (litD k d).colour = .green := colr_green.mpr hg
    rw [if_pos e1, if_pos e2]
    have es : (ab m).streams = m.P := rfl
    have ek : (litD k d).k = k := rfl
    rw [es, ek]
    show litD k (endF (stP m.P k) (byFirst m.P i.f k) (wait (pressed m c) (gapR (stP m.P k) { d with time := d.time + 1 } (i.cars.testBit k)))) = _
    generalize byFirst m.P i.f k = b
    generalize pressed m c = pr
    have eb : (inS i).cars = i.cars := rfl
    rw [eb]
    generalize i.cars.testBit k = ca
    show _ = Lit.mk k (litD k d).colour (if b = true ∧ d.go = true ∧ d.time + 1 < (stP m.P k).walk then (stP m.P k).walk else d.time + 1) (if ca = true then (stP m.P k).gap else d.rest - 1) (if pr = true then d.waited + 1 else d.waited) d.go
    generalize stP m.P k = p
    obtain ⟨col, time, rest, waited, go, car, but⟩ := d
    obtain rfl : col = 1 := hg
    unfold endF endW walks grn wait gapR
    cases ca <;> cases pr <;> cases b <;> cases go <;> by_cases hw : time + 1 < p.walk <;> by_cases hr : 0 < rest <;> simp [litD, colr, hw, hr] <;> omega
  · have e1 : ¬ grn { d with time := d.time + 1 } = true := by
      unfold grn
      simp [hg]
    have e2 : ¬ (litD k d).colour = .green := fun z => hg (colr_green.mp z)
    rw [if_neg e1, if_neg e2]
    rfl
theorem clocks_eq (h : Wf m) (hp : Sa38.pressed (ab m) (inS i) = pressed m c) : Sa38.clocks (ab m) (inS i) = ab (clocks m i c) := by
  unfold Sa38.clocks
  have e1 : ((ab m).lit.map fun x => x.map (Sa38.clock (ab m) (inS i))) = (ab (clocks m i c)).lit := by
    show ((List.range 4).map (litOf m)).map _ = (List.range 4).map (litOf (clocks m i c))
    rw [List.map_map]
    refine map_range fun r hr => ?_
    show (litOf m r).map (Sa38.clock (ab m) (inS i)) = litOf (clocks m i c) r
    unfold litOf
    have el : (clocks m i c).latest r = m.latest r := rfl
    rw [el]
    cases hl : m.latest r with
    | none => rfl
    | some k =>
      have hkn := (h.lat r hr k hl).1
      show (if (m.dy k).col = 0 then none else some (litD k (m.dy k))).map _ = if ((clocks m i c).dy k).col = 0 then none else some (litD k ((clocks m i c).dy k))
      rw [clocks_dy hkn]
      have ec : (clockF m.P i (pressed m c) k (m.dy k)).col = (m.dy k).col := clock1_keep.1
      rw [ec]
      by_cases hc : (m.dy k).col = 0
      · rw [if_pos hc, if_pos hc]
        rfl
      · rw [if_neg hc, if_neg hc, clock_lit hp hc]
        rfl
  have e2 : (ab m).cars = (ab (clocks m i c)).cars := map_range fun k hk => by
    rw [clocks_dy hk]
    exact clock1_keep.2.1.symm
  have e3 : (ab m).people = (ab (clocks m i c)).people := map_range fun k hk => by
    rw [clocks_dy hk]
    exact clock1_keep.2.2.symm
  rw [e1, e2, e3]
  rfl
/-! ### what fades -/
theorem fade_keep {p : Strm} {d : Dy} : (fade p d).car = d.car ∧ (fade p d).but = d.but ∧ grn (fade p d) = grn d ∧ ((fade p d).col ≠ 0 → d.col ≠ 0) ∧ (d.col ≤ 3 → (fade p d).col ≤ 3) := by
  obtain ⟨col, time, rest, waited, go, car, but⟩ := d
  unfold fade fade2 fade1 ylw grn takeC
  by_cases h1 : (decide (col = 2) && decide (p.yellow ≤ time)) = true
  · rw [if_pos h1]
    rw [Bool.and_eq_true] at h1
    have h1' : col = 2 := of_decide_eq_true h1.1
    subst h1'
    by_cases h2 : (decide ((3 : Nat) = 3) && decide (p.red ≤ 0)) = true
    · rw [if_pos h2]
      simp
    · rw [if_neg h2]
      simp
  · rw [if_neg h1]
    by_cases h2 : (decide (col = 3) && decide (p.red ≤ time)) = true
    · rw [if_pos h2]
      rw [Bool.and_eq_true] at h2
      have h2' : col = 3 := of_decide_eq_true h2.1
      subst h2'
      simp
    · rw [if_neg h2]
      exact ⟨rfl, rfl, rfl, id, id⟩
theorem fade_lit {d : Dy} (hc : d.col ≠ 0) (h3 : d.col ≤ 3) : Sa38.faded (ab m) (some (litD k d)) = if (fade (m.st k) d).col = 0 then none else some (litD k (fade (m.st k) d)) := by
  unfold Sa38.faded
  obtain ⟨col, time, rest, waited, go, car, but⟩ := d
  show (if colr col = .yellow ∧ (m.st k).yellow ≤ time then (if (m.st k).red = 0 then none else some { litD k ⟨col, time, rest, waited, go, car, but⟩ with colour := .clearing, time := 0 }) else if colr col = .clearing ∧ (m.st k).red ≤ time then none else some (litD k ⟨col, time, rest, waited, go, car, but⟩)) = _
  generalize m.st k = p
  have h3' : col ≤ 3 := h3
  have hc' : col ≠ 0 := hc
  have hcases : col = 1 ∨ col = 2 ∨ col = 3 := by omega
  unfold fade fade2 fade1 ylw takeC
  rcases hcases with rfl | rfl | rfl
  · simp [colr]
  · by_cases hy : p.yellow ≤ time
    · by_cases hr : p.red = 0
      · simp [colr, hy, hr]
      · have hr' : ¬ p.red ≤ 0 := by omega
        simp [colr, hy, hr, litD]
    · simp [colr, hy]
  · by_cases hr : p.red ≤ time
    · simp [colr, hr]
    · simp [colr, hr]
theorem fades_dy (hk : k < m.n) : (fades m).dy k = fade (m.st k) (m.dy k) := if_pos hk
theorem wf_fades (h : Wf m) : Wf (fades m) := by
  refine h.dys (fun k hk hc => ?_) fun k hk => ?_
  · rw [show (if k < m.n then fade (stP m.P k) (m.dy k) else m.dy k) = fade (stP m.P k) (m.dy k) from if_pos hk] at hc
    exact fade_keep.2.2.2.1 hc
  · rw [show (if k < m.n then fade (stP m.P k) (m.dy k) else m.dy k) = fade (stP m.P k) (m.dy k) from if_pos hk]
    exact fade_keep.2.2.2.2 (h.c3 k hk)
theorem fades_eq (h : Wf m) : { ab m with lit := (ab m).lit.map (Sa38.faded (ab m)) } = ab (fades m) := by
  have e1 : ((ab m).lit.map (Sa38.faded (ab m))) = (ab (fades m)).lit := by
    show ((List.range 4).map (litOf m)).map _ = (List.range 4).map (litOf (fades m))
    rw [List.map_map]
    refine map_range fun r hr => ?_
    show Sa38.faded (ab m) (litOf m r) = litOf (fades m) r
    unfold litOf
    have el : (fades m).latest r = m.latest r := rfl
    rw [el]
    cases hl : m.latest r with
    | none => rfl
    | some k =>
      have hkn := (h.lat r hr k hl).1
      show Sa38.faded (ab m) (if (m.dy k).col = 0 then none else some (litD k (m.dy k))) = if ((fades m).dy k).col = 0 then none else some (litD k ((fades m).dy k))
      rw [fades_dy hkn]
      by_cases hc : (m.dy k).col = 0
      · rw [if_pos hc, if_pos (by
          by_cases hz : (fade (m.st k) (m.dy k)).col = 0
          · exact hz
          · exact absurd hc (fade_keep.2.2.2.1 hz))]
        rfl
      · rw [if_neg hc]
        exact fade_lit hc (h.c3 k hkn)
  have e2 : (ab m).cars = (ab (fades m)).cars := map_range fun k hk => by
    rw [fades_dy hk]
    exact fade_keep.1.symm
  have e3 : (ab m).people = (ab (fades m)).people := map_range fun k hk => by
    rw [fades_dy hk]
    exact fade_keep.2.1.symm
  rw [e1]
  show St.mk (ab m).streams (ab (fades m)).lit (ab m).last (ab m).group (ab m).cars (ab m).people = _
  rw [e2, e3]
  rfl
end
end Xg

namespace Xg
open Sa38 (St Lit Colour)
section
variable {m : Cm} {i : Inp} {k j r : Nat} {c : List Nat} {cp : Nat → Bool}
/-! ### heirs, the ready ones -/
theorem cross_of_beside {P : List Strm} (h : besideP P j k = true) (hne : j ≠ k) : crossP P j k = true := by
  unfold besideP at h
  unfold crossP
  rw [Bool.and_eq_true] at h
  rw [if_neg hne, h.1]
  rfl
theorem heir_eq (hn : (ab m).streams.length = m.n) (hcp : ∀ j, j < m.n → k < j → besideP m.P j k = true → Sa38.called (ab m) (inS i) j = cp j) : Sa38.heir (ab m) (inS i) k = heir m.P ((List.range m.n).filter cp) i.f k := by
  unfold Sa38.heir heir
  rw [firstCrosses_eq]
  have es : (ab m).streams = m.P := rfl
  rw [es]
  have ef : ((ab m).all.find? fun j => decide (k < j) && (Sa38.called (ab m) (inS i) j && (((ab m).stream j).ring == ((ab m).stream k).ring && ((ab m).stream j).group == ((ab m).stream k).group))) = ((List.range m.n).filter cp).find? fun j => decide (k < j) && besideP m.P j k := by
    rw [find_filter, ab_all]
    refine find_congr fun j hj => ?_
    have hj' := List.mem_range.mp hj
    have eb : (((ab m).stream j).ring == ((ab m).stream k).ring && ((ab m).stream j).group == ((ab m).stream k).group) = besideP m.P j k := beside_eq (s := ab m)
    rw [eb]
    by_cases hkj : k < j
    · by_cases hb : besideP m.P j k = true
      · rw [hcp j hj' hkj hb]
        generalize besideP m.P j k = b
        generalize decide (k < j) = b2
        cases cp j <;> cases b <;> cases b2 <;> rfl
      · have hb' : besideP m.P j k = false := by simpa using hb
        rw [hb']
        simp
    · simp [hkj]
  cases hf : i.f with
  | none =>
    have e0 : ((inS i).first.any fun f => f != k && Sa38.beside (ab m) f k) = false := by
      show (i.f.any _) = false
      rw [hf]
      rfl
    rw [e0, if_neg (by decide)]
    show (if byFirst m.P none k = true then none else _) = if byFirst m.P none k = true then _ else _
    rw [if_neg (show ¬ byFirst m.P none k = true by intro z; cases z), if_neg (show ¬ byFirst m.P none k = true by intro z; cases z)]
    exact ef
  | some f =>
    have e0 : ((inS i).first.any fun f => f != k && Sa38.beside (ab m) f k) = (f != k && besideP m.P f k) := by
      show (i.f.any _) = _
      rw [hf]
      show (f != k && Sa38.beside (ab m) f k) = _
      rw [beside_eq]
      rfl
    have e1 : (inS i).first = some f := hf
    rw [e0, e1]
    by_cases hb : besideP m.P f k = true
    · by_cases hne : f = k
      · have e2 : (f != k && besideP m.P f k) = false := by simp [hne]
        have e3 : byFirst m.P (some f) k = false := if_pos hne
        rw [e2, e3, if_neg (by decide), if_neg (by decide), if_neg (by decide)]
        exact ef
      · have e2 : (f != k && besideP m.P f k) = true := by simp [hne, hb]
        have e3 : byFirst m.P (some f) k = true := cross_of_beside hb hne
        rw [e2, e3, if_pos rfl, if_pos rfl]
        exact (if_pos hb).symm
    · have hb' : besideP m.P f k = false := by simpa using hb
      have e2 : (f != k && besideP m.P f k) = false := by simp [hb']
      rw [e2, if_neg (by decide)]
      by_cases hx : byFirst m.P (some f) k = true
      · rw [if_pos hx, if_pos hx]
        exact (if_neg hb).symm
      · rw [if_neg hx, if_neg hx]
        exact ef
theorem done_eq {p : Strm} {d : Dy} (hg : grn d = true) : done p d = (!d.go || decide (p.walk + p.clear ≤ d.time)) := by
  unfold done clears walks
  rw [hg]
  cases d.go
  · rfl
  · by_cases h1 : d.time < p.walk
    · have h2 : ¬ p.walk + p.clear ≤ d.time := by omega
      simp [h1, h2]
    · have h3 : p.walk ≤ d.time := by omega
      by_cases h4 : d.time < p.walk + p.clear
      · have h5 : ¬ p.walk + p.clear ≤ d.time := by omega
        simp [h1, h3, h4, h5]
      · have h5 : p.walk + p.clear ≤ d.time := by omega
        simp [h1, h3, h4, h5]
theorem ready_eq : Sa38.ready (ab m) (inS i) (litD k (m.dy k)) = (grn (m.dy k) && ready m i.f k) := by
  unfold Sa38.ready ready
  rw [firstCrosses_eq]
  have ek : (litD k (m.dy k)).k = k := rfl
  have es : (ab m).streams = m.P := rfl
  rw [ek, es]
  have eg : ((litD k (m.dy k)).colour == Colour.green) = grn (m.dy k) := by
    refine bool_ext ?_
    rw [beq_iff_eq]
    exact colr_green.trans ⟨fun z => decide_eq_true z, fun z => of_decide_eq_true z⟩
  rw [eg]
  cases hg : grn (m.dy k) with
  | false => rfl
  | true =>
    have ef : ((inS i).first != some k) = !isFirst i.f k := by
      unfold isFirst inS
      cases i.f with
      | none => rfl
      | some j =>
        refine bool_ext ?_
        simp
    rw [ef, Bool.true_and, Bool.true_and]
    cases isFirst i.f k with
    | true => rfl
    | false =>
      rw [Bool.not_false, Bool.true_and, if_neg (by decide)]
      have ed := done_eq (p := m.st k) hg
      show ((!(m.dy k).go || decide ((m.st k).walk + (m.st k).clear ≤ (m.dy k).time)) && (byFirst m.P i.f k || (decide ((m.st k).least ≤ (m.dy k).time) && (((m.dy k).rest == 0 && !(m.st k).tillMost) || decide ((m.st k).most ≤ (m.dy k).waited))))) = _
      rw [← ed]
      cases byFirst m.P i.f k with
      | true => simp
      | false =>
        rw [if_neg (by decide)]
        unfold mayEnd
        cases done (m.st k) (m.dy k) with
        | false => simp
        | true =>
          by_cases h1 : (m.st k).least ≤ (m.dy k).time
          · have h2 : ¬ (m.dy k).time < (m.st k).least := by omega
            by_cases h3 : (m.st k).most ≤ (m.dy k).waited
            · simp [h1, h2, h3]
            · by_cases h4 : (m.dy k).rest = 0 <;> simp [h1, h2, h3, h4]
          · have h2 : (m.dy k).time < (m.st k).least := by omega
            simp [h1, h2]
/-! ### ends -/
structure Cp (m : Cm) (i : Inp) (cp : Nat → Bool) : Prop where
  eq : ∀ k, k < m.n → Sa38.called (ab m) (inS i) k = cp k
theorem Cp.heir (h : Cp m i cp) (k : Nat) : Sa38.heir (ab m) (inS i) k = Xg.heir m.P ((List.range m.n).filter cp) i.f k := heir_eq rfl fun j hj _ _ => h.eq j hj
theorem isOver_eq (h : Cp m i cp) (hc : (m.dy k).col ≠ 0) : Sa38.isOver (ab m) (inS i) (some (litD k (m.dy k))) = overF m i ((List.range m.n).filter cp) k := by
  show ((Sa38.heir (ab m) (inS i) k).isNone && ((litD k (m.dy k)).colour != .green || Sa38.ready (ab m) (inS i) (litD k (m.dy k)))) = _
  rw [h.heir, ready_eq]
  unfold overF rdy hasHeir
  have ei : inc (m.dy k) = true := by
    unfold inc
    simp [hc]
  have eg : ((litD k (m.dy k)).colour != Colour.green) = !grn (m.dy k) := by
    refine bool_ext ?_
    rw [bne_iff_ne, Bool.not_eq_true', ← Bool.not_eq_true]
    exact not_congr (colr_green.trans ⟨fun z => decide_eq_true z, fun z => of_decide_eq_true z⟩)
  rw [ei, eg]
  cases Xg.heir m.P ((List.range m.n).filter cp) i.f k <;> cases grn (m.dy k) <;> cases ready m i.f k <;> rfl
theorem all_eq (hw : Wf m) (h : Cp m i cp) : ((ab m).lit.all (Sa38.isOver (ab m) (inS i))) = allOver m i ((List.range m.n).filter cp) m.n := by
  refine bool_ext ?_
  unfold allOver
  rw [all_range]
  show (((List.range 4).map (litOf m)).all (Sa38.isOver (ab m) (inS i))) = true ↔ _
  rw [List.all_map, all_range]
  constructor
  · intro ha k hk
    by_cases hc : (m.dy k).col = 0
    · unfold overF inc
      simp [hc]
    · have q := ha _ (hw.ring k hk)
      rw [Function.comp, lit_in hw hk hc, isOver_eq h hc] at q
      exact q
  · intro ha r hr
    show Sa38.isOver (ab m) (inS i) (litOf m r) = true
    cases hl : litOf m r with
    | none => rfl
    | some x =>
      obtain ⟨h1, h2, h3, h4⟩ := lit_some hw hr hl
      rw [h4, isOver_eq h h3]
      exact ha x.k h1
theorem wf_ends2 (h : Wf m) (f : Nat → Dy) (hf : ∀ k, k < m.n → f k = m.dy k ∨ (grn (m.dy k) = true ∧ f k = takeC 2 (m.dy k))) : Wf { m with dy := f } := by
  refine h.dys (fun k hk hc => ?_) fun k hk => ?_
  · rcases hf k hk with e | ⟨e, _⟩
    · rw [e] at hc
      exact hc
    · have : (m.dy k).col = 1 := of_decide_eq_true e
      omega
  · rcases hf k hk with e | ⟨_, e⟩
    · rw [e]
      exact h.c3 k hk
    · rw [e]
      show 2 ≤ 3
      decide
/-- what the ends do to one stream -/
def endK (m : Cm) (i : Inp) (c : List Nat) (k : Nat) : Dy :=
  if (grn (m.dy k) && (ready m i.f k && hasHeir m i c k)) = true then takeC 2 (m.dy k)
  else if (grn (m.dy k) && (allOver m i c m.n && pressed m c)) = true then takeC 2 (m.dy k) else m.dy k
theorem grn_inc {d : Dy} (h : grn d = true) : inc d = true := by
  have : d.col = 1 := of_decide_eq_true h
  unfold inc
  simp [this]
theorem endD_eq : endD m i c k = if (grn (m.dy k) && (ready m i.f k && hasHeir m i c k)) = true then takeC 2 (m.dy k) else m.dy k := by
  unfold endD rdy
  cases hg : grn (m.dy k) with
  | false => simp
  | true =>
    rw [grn_inc hg]
    simp
theorem ends2_dy (hk : k < m.n) : (ends2 m i c (ends1 m i c m.n)).dy k = endK m i c k := by
  unfold ends2 endK
  cases ha : allOver m i c m.n with
  | false =>
    rw [Bool.false_and, if_neg (by decide)]
    show (if k < m.n then endD m i c k else m.dy k) = _
    rw [if_pos hk, endD_eq]
    simp
  | true =>
    have hov : ∀ k, k < m.n → overF m i c k = true := by
      unfold allOver at ha
      rw [all_range] at ha
      exact ha
    have hno : ∀ k, k < m.n → (grn (m.dy k) && (ready m i.f k && hasHeir m i c k)) = false := fun k hk => by
      have q := hov k hk
      unfold overF at q
      cases hg : grn (m.dy k) with
      | false => rfl
      | true =>
        rw [grn_inc hg] at q
        rw [Bool.not_true, Bool.false_or, Bool.and_eq_true, Bool.not_eq_true'] at q
        rw [q.2]
        simp
    have e1 : ends1 m i c m.n = m := by
      unfold ends1
      refine congrArg (fun q => Cm.mk m.P q m.group m.latest) ?_
      funext j
      by_cases hj : j < m.n
      · rw [if_pos hj, endD_eq, hno j hj, if_neg (by decide)]
      · rw [if_neg hj]
    have e2 : (if (grn (m.dy k) && (ready m i.f k && hasHeir m i c k)) = true then takeC 2 (m.dy k) else if (grn (m.dy k) && (true && pressed m c)) = true then takeC 2 (m.dy k) else m.dy k) = if (grn (m.dy k) && (true && pressed m c)) = true then takeC 2 (m.dy k) else m.dy k := if_neg (by rw [hno k hk]; decide)
    rw [e1, e2]
    cases hp : pressed m c with
    | false =>
      simp
    | true =>
      simp only [Bool.and_self, Bool.and_true, if_true]
      show (if k ∈ greens m then takeC 2 (m.dy k) else m.dy k) = _
      have em : k ∈ greens m ↔ grn (m.dy k) = true := by
        unfold greens
        rw [List.mem_filter, List.mem_range]
        exact ⟨fun z => z.2, fun z => ⟨hk, z⟩⟩
      by_cases hg : grn (m.dy k) = true
      · rw [if_pos (em.mpr hg), if_pos hg]
      · rw [if_neg (fun z => hg (em.mp z)), if_neg hg]
theorem ends2_fix : (ends2 m i c (ends1 m i c m.n)).P = m.P ∧ (ends2 m i c (ends1 m i c m.n)).latest = m.latest ∧ (ends2 m i c (ends1 m i c m.n)).group = m.group := by
  unfold ends2
  split <;> exact ⟨rfl, rfl, rfl⟩
theorem endK_or : endK m i c k = m.dy k ∨ (grn (m.dy k) = true ∧ endK m i c k = takeC 2 (m.dy k)) := by
  unfold endK
  split
  · rename_i h
    rw [Bool.and_eq_true] at h
    exact Or.inr ⟨h.1, rfl⟩
  · split
    · rename_i h
      rw [Bool.and_eq_true] at h
      exact Or.inr ⟨h.1, rfl⟩
    · exact Or.inl rfl
theorem ends2_eta : ends2 m i c (ends1 m i c m.n) = { m with dy := (ends2 m i c (ends1 m i c m.n)).dy } := by
  unfold ends2
  split <;> rfl
theorem wf_ends (h : Wf m) : Wf (ends2 m i c (ends1 m i c m.n)) := by
  rw [ends2_eta]
  refine wf_ends2 h _ fun k hk => ?_
  rw [ends2_dy hk]
  exact endK_or
/-- the ends behind the fading -/
theorem ends_eq (hw : Wf m) (h : Cp m i cp) : { ab m with lit := (ab m).lit.map fun y => y.map fun x => if Sa38.ready (ab m) (inS i) x = true ∧ (Sa38.heir (ab m) (inS i) x.k).isSome = true then Sa38.toYellow x else if x.colour = .green ∧ ((ab m).lit.all (Sa38.isOver (ab m) (inS i))) = true ∧ Sa38.pressed (ab m) (inS i) = true then Sa38.toYellow x else x } = ab (ends2 m i ((List.range m.n).filter cp) (ends1 m i ((List.range m.n).filter cp) m.n)) := by
  rw [all_eq hw h, pressed_eq hw h.eq]
  obtain ⟨eP, eL, eG⟩ := ends2_fix (m := m) (i := i) (c := (List.range m.n).filter cp)
  have hdy : ∀ k, k < m.n → (ends2 m i ((List.range m.n).filter cp) (ends1 m i ((List.range m.n).filter cp) m.n)).dy k = endK m i ((List.range m.n).filter cp) k := fun k hk => ends2_dy hk
  generalize hm2 : ends2 m i ((List.range m.n).filter cp) (ends1 m i ((List.range m.n).filter cp) m.n) = m2 at eP eL eG hdy ⊢
  have hn : m2.n = m.n := congrArg List.length eP
  have e1 : ((ab m).lit.map fun y => y.map fun x =>
      if Sa38.ready (ab m) (inS i) x = true ∧ (Sa38.heir (ab m) (inS i) x.k).isSome = true then Sa38.toYellow x
      else if x.colour = .green ∧ allOver m i ((List.range m.n).filter cp) m.n = true ∧ pressed m ((List.range m.n).filter cp) = true then Sa38.toYellow x
      else x) = (ab m2).lit := by
    show ((List.range 4).map (litOf m)).map _ = (List.range 4).map (litOf m2)
    rw [List.map_map]
    refine map_range fun r hr => ?_
    rw [Function.comp]
    unfold litOf
    rw [eL]
    cases hl : m.latest r with
    | none => rfl
    | some k =>
      have hkn := (hw.lat r hr k hl).1
      show (if (m.dy k).col = 0 then none else some (litD k (m.dy k))).map _ = if (m2.dy k).col = 0 then none else some (litD k (m2.dy k))
      rw [hdy k hkn]
      by_cases hc : (m.dy k).col = 0
      · have hg : grn (m.dy k) = false := by
          unfold grn
          simp [hc]
        have e : endK m i ((List.range m.n).filter cp) k = m.dy k := by
          unfold endK
          rw [hg]
          rfl
        rw [if_pos hc, e, if_pos hc]
        rfl
      · rw [if_neg hc]
        have hc2 : ¬ (endK m i ((List.range m.n).filter cp) k).col = 0 := by
          rcases endK_or (m := m) (i := i) (c := (List.range m.n).filter cp) (k := k) with e | ⟨_, e⟩
          · rw [e]
            exact hc
          · rw [e]
            show ¬ 2 = 0
            decide
        rw [if_neg hc2]
        show some (if Sa38.ready (ab m) (inS i) (litD k (m.dy k)) = true ∧ (Sa38.heir (ab m) (inS i) k).isSome = true then Sa38.toYellow (litD k (m.dy k)) else if (litD k (m.dy k)).colour = .green ∧ allOver m i ((List.range m.n).filter cp) m.n = true ∧ pressed m ((List.range m.n).filter cp) = true then Sa38.toYellow (litD k (m.dy k)) else litD k (m.dy k)) = some _
        refine congrArg some ?_
        rw [ready_eq, h.heir]
        have ey : Sa38.toYellow (litD k (m.dy k)) = litD k (takeC 2 (m.dy k)) := rfl
        rw [ey]
        have eg : (litD k (m.dy k)).colour = .green ↔ grn (m.dy k) = true := colr_green.trans ⟨fun z => decide_eq_true z, fun z => of_decide_eq_true z⟩
        unfold endK hasHeir
        cases hg : grn (m.dy k) with
        | false =>
          have eg' : ¬ (litD k (m.dy k)).colour = .green := fun z => by
            rw [eg, hg] at z
            cases z
          simp [eg']
        | true =>
          have eg' : (litD k (m.dy k)).colour = .green := eg.mpr hg
          cases ready m i.f k <;> cases (Xg.heir m.P ((List.range m.n).filter cp) i.f k).isSome <;> cases allOver m i ((List.range m.n).filter cp) m.n <;> cases pressed m ((List.range m.n).filter cp) <;> simp [eg']
  have ec : ∀ k, (endK m i ((List.range m.n).filter cp) k).car = (m.dy k).car ∧ (endK m i ((List.range m.n).filter cp) k).but = (m.dy k).but := fun k => by
    rcases endK_or (m := m) (i := i) (c := (List.range m.n).filter cp) (k := k) with e | ⟨_, e⟩
    · rw [e]
      exact ⟨rfl, rfl⟩
    · rw [e]
      exact ⟨rfl, rfl⟩
  have e2 : (ab m).cars = (ab m2).cars := by
    unfold ab
    rw [hn]
    exact map_range fun k hk => by rw [hdy k hk, (ec k).1]
  have e3 : (ab m).people = (ab m2).people := by
    unfold ab
    rw [hn]
    exact map_range fun k hk => by rw [hdy k hk, (ec k).2]
  rw [e1]
  show St.mk (ab m).streams (ab m2).lit (ab m).last (ab m).group (ab m).cars (ab m).people = _
  rw [e2, e3]
  unfold ab
  rw [eP, eL, eG]
end
end Xg

namespace Xg
open Sa38 (St Lit Colour)
section
variable {m : Cm} {i : Inp} {k j r : Nat} {c : List Nat} {cp : Nat → Bool}
/-! ### becoming green -/
theorem light_eq (h : Wf m) (hk : k < m.n) (hc : ∀ j, j < m.n → (m.st j).ring = (m.st k).ring → (m.dy j).col = 0) : Sa38.light (ab m) k = ab (give m k) ∧ Wf (give m k) := by
  have hr := h.ring k hk
  have lat' : ∀ r, (give m k).latest r = if r = (m.st k).ring then some k else m.latest r := fun r => rfl
  have dy' : ∀ j, (give m k).dy j = if j = k then becomeG (m.st k) (m.dy k) else m.dy j := fun j => rfl
  constructor
  · unfold Sa38.light
    have e1 : (ab m).lit.set (m.st k).ring (some ⟨k, .green, 0, (m.st k).gap, 0, (ab m).people.getD k false || ((m.st k).tillMost && decide (0 < (m.st k).walk))⟩) = (ab (give m k)).lit := by
      refine set_map.trans (map_range fun r hr' => ?_)
      unfold litOf
      rw [lat']
      by_cases e : r = (m.st k).ring
      · rw [if_pos e, if_pos e, ab_but hk]
        show _ = if ((give m k).dy k).col = 0 then none else some (litD k ((give m k).dy k))
        rw [dy', if_pos rfl]
        rfl
      · rw [if_neg e, if_neg e]
        cases hl : m.latest r with
        | none => rfl
        | some j =>
          have hj := h.lat r hr' j hl
          have hjk : j ≠ k := fun z => e (by rw [← hj.2, z])
          show _ = if ((give m k).dy j).col = 0 then none else some (litD j ((give m k).dy j))
          rw [dy', if_neg hjk]
    have e2 : (ab m).last.set (m.st k).ring (some k) = (ab (give m k)).last := set_map.trans (map_range fun r _ => (lat' r).symm)
    have e3 : (ab m).cars.set k false = (ab (give m k)).cars := set_map.trans (map_range fun j _ => by
      rw [dy']
      by_cases e : j = k
      · rw [if_pos e, if_pos e]
        rfl
      · rw [if_neg e, if_neg e])
    have e4 : (ab m).people.set k false = (ab (give m k)).people := set_map.trans (map_range fun j _ => by
      rw [dy']
      by_cases e : j = k
      · rw [if_pos e, if_pos e]
        rfl
      · rw [if_neg e, if_neg e])
    show St.mk (ab m).streams ((ab m).lit.set (m.st k).ring (some ⟨k, .green, 0, (m.st k).gap, 0, (ab m).people.getD k false || ((m.st k).tillMost && decide (0 < (m.st k).walk))⟩)) ((ab m).last.set (m.st k).ring (some k)) (ab m).group ((ab m).cars.set k false) ((ab m).people.set k false) = _
    rw [e1, e2, e3, e4]
    rfl
  · refine ⟨h.ring, h.grp, h.grp0, fun r hr' j hj => ?_, fun j hj hcj => ?_, fun j hj => ?_⟩
    · rw [lat'] at hj
      by_cases e : r = (m.st k).ring
      · rw [if_pos e] at hj
        have ej := Option.some.inj hj
        subst ej
        exact ⟨hk, e.symm⟩
      · rw [if_neg e] at hj
        exact h.lat r hr' j hj
    · have hj' : j < m.n := hj
      rw [lat']
      rw [dy'] at hcj
      show (if (m.st j).ring = (m.st k).ring then some k else m.latest (m.st j).ring) = some j
      by_cases e : j = k
      · rw [e, if_pos rfl]
      · rw [if_neg e] at hcj
        by_cases er : (m.st j).ring = (m.st k).ring
        · exact absurd (hc j hj' er) hcj
        · rw [if_neg er]
          exact h.col j hj' hcj
    · rw [dy']
      by_cases e : j = k
      · rw [if_pos e]
        show 1 ≤ 3
        decide
      · rw [if_neg e]
        exact h.c3 j hj
/-- a ring without a stream in colour -/
theorem red_ring (h : Wf m) (hi : (inCol m r).isNone = true) (hj : j < m.n) (e : (m.st j).ring = r) : (m.dy j).col = 0 := by
  by_cases hc : (m.dy j).col = 0
  · exact hc
  · have hl := h.col j hj hc
    rw [e] at hl
    unfold inCol at hi
    rw [hl] at hi
    have : inc (m.dy j) = true := by
      unfold inc
      simp [hc]
    simp [this] at hi
theorem first_all {s : St} : ((inS i).first.all fun f => f == j || !Sa38.crosses s f j) = !byFirst s.streams i.f j := by
  unfold byFirst inS
  cases i.f with
  | none => rfl
  | some f =>
    show (f == j || !Sa38.crosses s f j) = !crossP s.streams f j
    rw [cross_eq]
    by_cases e : f = j
    · have : crossP s.streams f j = false := if_pos e
      rw [this]
      simp
    · simp [e]
/-- who is red is called as at first -/
def Cq (m : Cm) (i : Inp) (cp : Nat → Bool) : Prop := ∀ k, k < m.n → (m.dy k).col = 0 → Sa38.called (ab m) (inS i) k = cp k
theorem firstCalled_eq {g : Nat} (hcp : ∀ j, j < m.n → (m.st j).ring = r → Sa38.called (ab m) (inS i) j = cp j) :
    ((ab m).all.find? fun j => Sa38.called (ab m) (inS i) j && (((ab m).stream j).ring == r && (((ab m).stream j).group == g && ((inS i).first.all fun f => f == j || !Sa38.crosses (ab m) f j)))) =
    ((List.range m.n).filter cp).find? fun k => (decide ((m.st k).ring = r) && decide ((m.st k).group = g)) && !byFirst m.P i.f k := by
  rw [find_filter, ab_all]
  refine find_congr fun j hj => ?_
  have hj' := List.mem_range.mp hj
  rw [first_all]
  have es : (ab m).streams = m.P := rfl
  rw [es]
  have e1 : (((ab m).stream j).ring == r) = decide ((m.st j).ring = r) := by
    refine bool_ext ?_
    rw [beq_iff_eq, decide_eq_true_iff]
    rfl
  have e2 : (((ab m).stream j).group == g) = decide ((m.st j).group = g) := by
    refine bool_ext ?_
    rw [beq_iff_eq, decide_eq_true_iff]
    rfl
  rw [e1, e2]
  by_cases hr : (m.st j).ring = r
  · rw [hcp j hj' hr, decide_eq_true hr]
    cases cp j <;> cases decide ((m.st j).group = g) <;> cases byFirst m.P i.f j <;> rfl
  · rw [decide_eq_false hr]
    simp
/-! ### rings -/
/-- who becomes green in a ring -/
def oR (m : Cm) (i : Inp) (c : List Nat) (sg : Bool) (r : Nat) : Option Nat := if (inCol m r).isNone = true then (match m.latest r with
  | some l => heir m.P c i.f l
  | none => if sg = true then firstCalled m i c r else none) else none
theorem ringT_eq {sg : Bool} : ringT i c sg m r = giveO m (oR m i c sg r) := by
  unfold ringT oR
  split
  · unfold ringB
    cases m.latest r with
    | some l => rfl
    | none =>
      show (if sg = true then giveO m (firstCalled m i c r) else m) = giveO m (if sg = true then firstCalled m i c r else none)
      split <;> rfl
  · rfl
def Fine (m : Cm) (i : Inp) : Prop := ∀ j, i.f = some j → j < m.n
theorem heir_is (hw : Wf m) (hf : Fine m i) {l : Nat} (hr : r < 4) (hl : m.latest r = some l) (e : heir m.P ((List.range m.n).filter cp) i.f l = some k) : k < m.n ∧ (m.st k).ring = r := by
  have hlr := (hw.lat r hr l hl).2
  unfold heir at e
  by_cases hb : byFirst m.P i.f l = true
  · rw [if_pos hb] at e
    cases hi : i.f with
    | none =>
      rw [hi] at e
      cases e
    | some f =>
      rw [hi] at e
      replace e : (if besideP m.P f l = true then some f else none) = some k := e
      by_cases hq : besideP m.P f l = true
      · rw [if_pos hq] at e
        have ek := Option.some.inj e
        subst ek
        unfold besideP at hq
        rw [Bool.and_eq_true] at hq
        have hq1 : (stP m.P f).ring = (stP m.P l).ring := of_decide_eq_true hq.1
        exact ⟨hf f hi, hq1.trans hlr⟩
      · rw [if_neg hq] at e
        cases e
  · rw [if_neg hb] at e
    have hmem := List.mem_filter.mp (List.mem_of_find?_eq_some e)
    have hp := List.find?_some e
    rw [Bool.and_eq_true] at hp
    have hq := hp.2
    unfold besideP at hq
    rw [Bool.and_eq_true] at hq
    have hq1 : (stP m.P k).ring = (stP m.P l).ring := of_decide_eq_true hq.1
    exact ⟨List.mem_range.mp hmem.1, hq1.trans hlr⟩
theorem firstCalled_is {l : List Nat} (hl : ∀ k, k ∈ l → k < m.n) (e : firstCalled m i l r = some k) : k < m.n ∧ (m.st k).ring = r := by
  have hp := List.find?_some e
  rw [Bool.and_eq_true, Bool.and_eq_true] at hp
  exact ⟨hl k (List.mem_of_find?_eq_some e), of_decide_eq_true hp.1.1⟩
theorem filter_lt : ∀ k, k ∈ (List.range m.n).filter cp → k < m.n := fun k hk => List.mem_range.mp (List.mem_filter.mp hk).1
theorem oR_is {sg : Bool} (hw : Wf m) (hf : Fine m i) (hr : r < 4) (e : oR m i ((List.range m.n).filter cp) sg r = some k) : k < m.n ∧ (m.st k).ring = r ∧ (inCol m r).isNone = true := by
  unfold oR at e
  by_cases hi : (inCol m r).isNone = true
  · rw [if_pos hi] at e
    cases hl : m.latest r with
    | some l =>
      rw [hl] at e
      obtain ⟨h1, h2⟩ := heir_is hw hf hr hl e
      exact ⟨h1, h2, hi⟩
    | none =>
      rw [hl] at e
      replace e : (if sg = true then firstCalled m i ((List.range m.n).filter cp) r else none) = some k := e
      by_cases hs : sg = true
      · rw [if_pos hs] at e
        obtain ⟨h1, h2⟩ := firstCalled_is filter_lt e
        exact ⟨h1, h2, hi⟩
      · rw [if_neg hs] at e
        cases e
  · rw [if_neg hi] at e
    cases e
/-- a turn of the specification's walk over the rings -/
def turnS (s : St) (i : Sa38.In) (t : St) (r : Nat) : St := match s.of r, s.last.getD r none with
  | none, some k => match Sa38.heir s i k with
    | some j => Sa38.light t j
    | none => t
  | none, none => if Sa38.someGreen s = true then (match s.all.find? fun j => Sa38.called s i j && ((s.stream j).ring == r && ((s.stream j).group == s.group && (i.first.all fun f => f == j || !Sa38.crosses s f j))) with
    | some j => Sa38.light t j
    | none => t) else t
  | _, _ => t
theorem heirs_fold {s : St} {i : Sa38.In} : Sa38.heirs s i = (List.range 4).foldl (turnS s i) s := rfl
def lightO (t : St) (o : Option Nat) : St := match o with
  | some j => Sa38.light t j
  | none => t
theorem turnS_eq (hw : Wf m) (hq : Cq m i cp) (hr : r < 4) (t : St) : turnS (ab m) (inS i) t r = lightO t (oR m i ((List.range m.n).filter cp) (!decide (greens m = [])) r) := by
  unfold turnS
  rw [ab_of hr, ab_last hr, someGreen_eq hw]
  cases hl : litOf m r with
  | some x =>
    have eo : oR m i ((List.range m.n).filter cp) (!decide (greens m = [])) r = none := if_neg (by rw [← lit_none, hl]; simp)
    rw [eo]
    cases m.latest r <;> rfl
  | none =>
    have hi : (inCol m r).isNone = true := by
      rw [← lit_none, hl]
      rfl
    cases hla : m.latest r with
    | some l =>
      have hlr := hw.lat r hr l hla
      have eo : oR m i ((List.range m.n).filter cp) (!decide (greens m = [])) r = heir m.P ((List.range m.n).filter cp) i.f l := (if_pos hi).trans (by rw [hla])
      rw [eo]
      show (match Sa38.heir (ab m) (inS i) l with
        | some j => Sa38.light t j
        | none => t) = lightO t (heir m.P ((List.range m.n).filter cp) i.f l)
      rw [heir_eq (cp := cp) rfl fun j hj _ hb => hq j hj (red_ring hw hi hj (by
        unfold besideP at hb
        rw [Bool.and_eq_true] at hb
        have hq1 : (stP m.P j).ring = (stP m.P l).ring := of_decide_eq_true hb.1
        exact hq1.trans hlr.2))]
      rfl
    | none =>
      have eo : oR m i ((List.range m.n).filter cp) (!decide (greens m = [])) r = if (!decide (greens m = [])) = true then firstCalled m i ((List.range m.n).filter cp) r else none := (if_pos hi).trans (by rw [hla])
      rw [eo]
      show (if (!decide (greens m = [])) = true then (match (ab m).all.find? fun j => Sa38.called (ab m) (inS i) j && (((ab m).stream j).ring == r && (((ab m).stream j).group == (ab m).group && ((inS i).first.all fun f => f == j || !Sa38.crosses (ab m) f j))) with
        | some j => Sa38.light t j
        | none => t) else t) = lightO t (if (!decide (greens m = [])) = true then firstCalled m i ((List.range m.n).filter cp) r else none)
      rw [firstCalled_eq (cp := cp) fun j hj hjr => hq j hj (red_ring hw hi hj hjr)]
      cases (!decide (greens m = []))
      · rfl
      · rfl
theorem oR_congr {m' : Cm} {sg : Bool} (hP : m'.P = m.P) (hg : m'.group = m.group) (hl : m'.latest r = m.latest r) (hi : inCol m' r = inCol m r) : oR m' i c sg r = oR m i c sg r := by
  unfold oR firstCalled
  rw [hi, hl, hP, hg]
  have e : ∀ k, m'.st k = m.st k := fun k => by
    show stP m'.P k = stP m.P k
    rw [hP]
  simp only [e]
theorem inCol_congr {m' : Cm} (hl : m'.latest r = m.latest r) (hd : ∀ k, m.latest r = some k → m'.dy k = m.dy k) : inCol m' r = inCol m r := by
  unfold inCol
  rw [hl]
  cases hm : m.latest r with
  | none => rfl
  | some k =>
    show (if inc (m'.dy k) = true then some k else none) = if inc (m.dy k) = true then some k else none
    rw [hd k hm]
structure RingsAt (m : Cm) (i : Inp) (c : List Nat) (sg : Bool) (t : Nat) : Prop where
  wf : Wf (rings m i c sg t)
  P : (rings m i c sg t).P = m.P
  grp : (rings m i c sg t).group = m.group
  lat : ∀ r, t ≤ r → r < 4 → (rings m i c sg t).latest r = m.latest r ∧ inCol (rings m i c sg t) r = inCol m r
  given : ∀ r, r < t → ∀ k, oR m i c sg r = some k → ((rings m i c sg t).dy k).col = 1
  same : (∀ r, r < t → oR m i c sg r = none) → rings m i c sg t = m
theorem rings_next {sg : Bool} {t : Nat} : rings m i c sg (t + 1) = ringT i c sg (rings m i c sg t) t := by
  unfold rings
  rw [List.range_succ, List.foldl_append]
  rfl
theorem rings_at {sg : Bool} (hw : Wf m) (hf : Fine m i) : ∀ t, t ≤ 4 → RingsAt m i ((List.range m.n).filter cp) sg t ∧ ab (rings m i ((List.range m.n).filter cp) sg t) = (List.range t).foldl (fun u r => lightO u (oR m i ((List.range m.n).filter cp) sg r)) (ab m)
  | 0, _ => ⟨⟨hw, rfl, rfl, fun r _ _ => ⟨rfl, rfl⟩, fun r hr => absurd hr (Nat.not_lt_zero r), fun _ => rfl⟩, rfl⟩
  | t + 1, ht => by
    obtain ⟨R, hab⟩ := rings_at hw hf t (by omega)
    have ht4 : t < 4 := by omega
    have hn : (rings m i ((List.range m.n).filter cp) sg t).n = m.n := congrArg List.length R.P
    have hst : ∀ k, (rings m i ((List.range m.n).filter cp) sg t).st k = m.st k := fun k => by
      show stP (rings m i ((List.range m.n).filter cp) sg t).P k = stP m.P k
      rw [R.P]
    obtain ⟨hl, hic⟩ := R.lat t (Nat.le_refl t) ht4
    have eo : oR (rings m i ((List.range m.n).filter cp) sg t) i ((List.range m.n).filter cp) sg t = oR m i ((List.range m.n).filter cp) sg t := oR_congr R.P R.grp hl hic
    have eR : rings m i ((List.range m.n).filter cp) sg (t + 1) = giveO (rings m i ((List.range m.n).filter cp) sg t) (oR m i ((List.range m.n).filter cp) sg t) := by
      rw [rings_next, ringT_eq, eo]
    have ef : (List.range (t + 1)).foldl (fun u r => lightO u (oR m i ((List.range m.n).filter cp) sg r)) (ab m) = lightO ((List.range t).foldl (fun u r => lightO u (oR m i ((List.range m.n).filter cp) sg r)) (ab m)) (oR m i ((List.range m.n).filter cp) sg t) := by
      rw [List.range_succ, List.foldl_append]
      rfl
    have hgiven := R.given
    have hsame := R.same
    have hlat := R.lat
    have hwf := R.wf
    have hP := R.P
    have hG := R.grp
    rw [ef, ← hab]
    cases ho : oR m i ((List.range m.n).filter cp) sg t with
    | none =>
      rw [ho] at eR
      replace eR : rings m i ((List.range m.n).filter cp) sg (t + 1) = rings m i ((List.range m.n).filter cp) sg t := eR
      refine ⟨⟨by rw [eR]; exact hwf, by rw [eR]; exact hP, by rw [eR]; exact hG, fun r h1 h2 => by rw [eR]; exact hlat r (by omega) h2, fun r h1 k hk => ?_, fun h => ?_⟩, by rw [eR]; rfl⟩
      · rw [eR]
        by_cases e : r = t
        · rw [e, ho] at hk
          cases hk
        · exact hgiven r (by omega) k hk
      · rw [eR]
        exact hsame fun r hr => h r (by omega)
    | some k =>
      obtain ⟨hkn, hkr, hin⟩ := oR_is hw hf ht4 ho
      rw [ho] at eR
      replace eR : rings m i ((List.range m.n).filter cp) sg (t + 1) = give (rings m i ((List.range m.n).filter cp) sg t) k := eR
      generalize hmt : rings m i ((List.range m.n).filter cp) sg t = mt at *
      have hin' : (inCol mt t).isNone = true := by
        rw [hic]
        exact hin
      obtain ⟨hle, hwg⟩ := light_eq (m := mt) (k := k) hwf (by rw [hn]; exact hkn) fun j hj hjr => red_ring hwf hin' hj (by rw [hjr, hst k]; exact hkr)
      have lat' : ∀ r, (give mt k).latest r = if r = (mt.st k).ring then some k else mt.latest r := fun r => rfl
      have dy' : ∀ j, (give mt k).dy j = if j = k then becomeG (mt.st k) (mt.dy k) else mt.dy j := fun j => rfl
      have hkr' : (mt.st k).ring = t := by rw [hst k]; exact hkr
      refine ⟨⟨by rw [eR]; exact hwg, by rw [eR]; exact hP, by rw [eR]; exact hG, fun r h1 h2 => ?_, fun r h1 k2 hk2 => ?_, fun h => ?_⟩, ?_⟩
      · rw [eR]
        have hrt : r ≠ t := by omega
        have e1 : (give mt k).latest r = mt.latest r := by
          rw [lat', hkr', if_neg hrt]
        obtain ⟨l1, l2⟩ := hlat r (by omega) h2
        refine ⟨e1.trans l1, (inCol_congr e1 fun j hj => ?_).trans l2⟩
        have hjr := (hwf.lat r h2 j hj).2
        rw [dy', if_neg fun z => hrt (by rw [← hjr, z]; exact hkr')]
      · rw [eR, dy']
        by_cases e : k2 = k
        · rw [if_pos e]
          rfl
        · rw [if_neg e]
          by_cases er : r = t
          · rw [er, ho] at hk2
            exact absurd (Option.some.inj hk2).symm e
          · exact hgiven r (by omega) k2 hk2
      · have := h t (Nat.lt_succ_self t)
        rw [ho] at this
        cases this
      · rw [eR]
        exact hle.symm
theorem allRed_eq : ((ab m).lit.all Option.isNone) = allRed m := by
  unfold allRed
  show ((List.range 4).map (litOf m)).all Option.isNone = _
  rw [List.all_map]
  refine bool_ext ?_
  rw [all_range, all_range]
  constructor
  · intro h r hr
    rw [← lit_none]
    exact h r hr
  · intro h r hr
    show (litOf m r).isNone = true
    rw [lit_none]
    exact h r hr
/-! ### the next group -/
theorem find_first {l : List Nat} {p : Nat → Bool} : ∀ {d x : Nat}, l[d]? = some x → p x = true → (∀ y, y ∈ l.take d → p y = false) → l.find? p = some x := by
  induction l with
  | nil =>
    intro d x h
    simp at h
  | cons a l ih =>
    intro d x h hx hb
    cases d with
    | zero =>
      obtain rfl : a = x := Option.some.inj h
      rw [List.find?_cons_of_pos hx]
    | succ d =>
      have ha : p a = false := hb a (by simp)
      rw [List.find?_cons_of_neg (by rw [ha]; decide)]
      exact ih (d := d) h hx fun y hy => hb y (by simp [hy])
theorem minL_le' : ∀ {l : List Nat} {y : Nat}, y ∈ l → minL l ≤ y
  | [a], y, h => by
    rw [List.mem_singleton] at h
    rw [h]
    exact Nat.le_refl _
  | a :: b :: r, y, h => by
    show min a (minL (b :: r)) ≤ y
    rcases List.mem_cons.mp h with rfl | h
    · exact Nat.min_le_left _ _
    · exact Nat.le_trans (Nat.min_le_right _ _) (minL_le' h)
theorem minL_mem' : ∀ {l : List Nat}, l ≠ [] → minL l ∈ l
  | [], h => absurd rfl h
  | [a], _ => List.mem_singleton.mpr rfl
  | a :: b :: r, _ => by
    show min a (minL (b :: r)) ∈ a :: b :: r
    rcases Nat.le_total a (minL (b :: r)) with h | h
    · rw [Nat.min_eq_left h]
      exact List.mem_cons_self
    · rw [Nat.min_eq_right h]
      exact List.mem_cons_of_mem _ (minL_mem' (by simp))
theorem nextGroup_eq (hw : Wf m) (h : Cp m i cp) (hf : Fine m i) (hc : (List.range m.n).filter cp ≠ []) : Sa38.nextGroup (ab m) (inS i) = some (nextGroup m i ((List.range m.n).filter cp)) := by
  unfold Sa38.nextGroup nextGroup
  cases hi : i.f with
  | some f =>
    have e1 : (inS i).first = some f := hi
    rw [e1]
    rfl
  | none =>
    have e1 : (inS i).first = none := hi
    rw [e1]
    show ((Sa38.groupsFrom m.group).find? (Sa38.calledIn (ab m) (inS i))) = some ((m.group + 1 + minL (((List.range m.n).filter cp).map (dist m))) % 8)
    have hmem := minL_mem' (l := ((List.range m.n).filter cp).map (dist m)) (by simpa using hc)
    obtain ⟨k0, hk0, ek0⟩ := List.mem_map.mp hmem
    have hk0' := List.mem_filter.mp hk0
    have hk0n := List.mem_range.mp hk0'.1
    have hle : ∀ k, k < m.n → cp k = true → minL (((List.range m.n).filter cp).map (dist m)) ≤ dist m k := fun k hk hck => minL_le' (List.mem_map.mpr ⟨k, List.mem_filter.mpr ⟨List.mem_range.mpr hk, hck⟩, rfl⟩)
    generalize minL (((List.range m.n).filter cp).map (dist m)) = d at ek0 hle ⊢
    have hd8 : d < 8 := by
      rw [← ek0]
      unfold dist
      omega
    have hgi : (Sa38.groupsFrom m.group)[d]? = some ((m.group + 1 + d) % 8) := by
      unfold Sa38.groupsFrom
      rw [List.getElem?_map, List.getElem?_range hd8]
      rfl
    have hg0 := hw.grp0
    have cin : ∀ g, Sa38.calledIn (ab m) (inS i) g = true ↔ ∃ k, k < m.n ∧ cp k = true ∧ (m.st k).group = g := fun g => by
      unfold Sa38.calledIn
      rw [ab_all, any_range]
      constructor
      · rintro ⟨k, hk, hck⟩
        rw [h.eq k hk, Bool.and_eq_true, beq_iff_eq] at hck
        exact ⟨k, hk, hck.1, hck.2⟩
      · rintro ⟨k, hk, hck, hgk⟩
        refine ⟨k, hk, ?_⟩
        rw [h.eq k hk, Bool.and_eq_true, beq_iff_eq]
        exact ⟨hck, hgk⟩
    refine find_first hgi ((cin _).mpr ⟨k0, hk0n, hk0'.2, ?_⟩) fun y hy => ?_
    · have hg := hw.grp k0 hk0n
      unfold dist at ek0
      omega
    · rw [Bool.eq_false_iff]
      intro z
      obtain ⟨k, hk, hck, hgk⟩ := (cin _).mp z
      have hl := hle k hk hck
      have hg := hw.grp k hk
      unfold Sa38.groupsFrom at hy
      rw [← List.map_take, List.take_range, Nat.min_eq_left (by omega)] at hy
      obtain ⟨d', hd', ed'⟩ := List.mem_map.mp hy
      have hd'' := List.mem_range.mp hd'
      unfold dist at hl
      omega
/-- a turn of the walk over the next group -/
def turnN (s : St) (i : Sa38.In) (g : Nat) (u : St) (r : Nat) : St := match s.all.find? fun k => Sa38.called s i k && ((s.stream k).ring == r && (s.stream k).group == g && (i.first.all fun j => j == k || !Sa38.crosses s j k)) with
  | some k => Sa38.light u k
  | none => u
theorem begins_fold {s : St} {i : Sa38.In} : Sa38.begins s i = if (Sa38.heirs s i).lit.all Option.isNone = true then (match Sa38.nextGroup (Sa38.heirs s i) i with
    | some g => (List.range 4).foldl (turnN (Sa38.heirs s i) i g) { Sa38.heirs s i with group := g, last := List.replicate 4 none }
    | none => Sa38.heirs s i) else Sa38.heirs s i := by
  unfold Sa38.begins
  dsimp only
  by_cases h : (Sa38.heirs s i).lit.all Option.isNone = true
  · rw [if_pos h, if_pos h]
    cases Sa38.nextGroup (Sa38.heirs s i) i <;> rfl
  · rw [if_neg h, if_neg h]
theorem nexts_next {t : Nat} : nexts m i c (t + 1) = nextT i c (nexts m i c t) t := by
  unfold nexts
  rw [List.range_succ, List.foldl_append]
  rfl
structure NextsAt (m : Cm) (g : Nat) (n : Cm) (t : Nat) : Prop where
  wf : Wf n
  P : n.P = m.P
  grp : n.group = g
  red : ∀ r, t ≤ r → r < 4 → n.latest r = none
theorem nexts_at {g : Nat} (hwb : Wf (beginG m g)) (h : Cp m i cp) : ∀ t, t ≤ 4 → NextsAt m g (nexts (beginG m g) i ((List.range m.n).filter cp) t) t ∧ ab (nexts (beginG m g) i ((List.range m.n).filter cp) t) = (List.range t).foldl (turnN (ab m) (inS i) g) (ab (beginG m g))
  | 0, _ => ⟨⟨hwb, rfl, rfl, fun r _ _ => rfl⟩, rfl⟩
  | t + 1, ht => by
    obtain ⟨N, hab⟩ := nexts_at hwb h t (by omega)
    have ht4 : t < 4 := by omega
    rw [List.range_succ, List.foldl_append, nexts_next, ← hab]
    generalize nexts (beginG m g) i ((List.range m.n).filter cp) t = mt at N ⊢
    obtain ⟨hwf, hP, hG, hred⟩ := N
    have hn : mt.n = m.n := congrArg List.length hP
    have hst : ∀ k, mt.st k = m.st k := fun k => by
      show stP mt.P k = stP m.P k
      rw [hP]
    show NextsAt m g (giveO mt (firstCalled mt i ((List.range m.n).filter cp) t)) (t + 1) ∧ ab (giveO mt (firstCalled mt i ((List.range m.n).filter cp) t)) = turnN (ab m) (inS i) g (ab mt) t
    have ef : firstCalled mt i ((List.range m.n).filter cp) t = ((List.range m.n).filter cp).find? fun k => (decide ((m.st k).ring = t) && decide ((m.st k).group = g)) && !byFirst m.P i.f k := by
      unfold firstCalled
      simp only [hst, hG, hP]
    have et : turnN (ab m) (inS i) g (ab mt) t = lightO (ab mt) (firstCalled mt i ((List.range m.n).filter cp) t) := by
      unfold turnN
      have ea : ((ab m).all.find? fun k => Sa38.called (ab m) (inS i) k && (((ab m).stream k).ring == t && ((ab m).stream k).group == g && ((inS i).first.all fun j => j == k || !Sa38.crosses (ab m) j k))) = (ab m).all.find? fun j => Sa38.called (ab m) (inS i) j && (((ab m).stream j).ring == t && (((ab m).stream j).group == g && ((inS i).first.all fun f => f == j || !Sa38.crosses (ab m) f j))) := find_congr fun x _ => by rw [Bool.and_assoc (((ab m).stream x).ring == t)]
      rw [ea, firstCalled_eq (cp := cp) (fun j hj _ => h.eq j hj), ← ef]
      cases firstCalled mt i ((List.range m.n).filter cp) t <;> rfl
    rw [et]
    cases ho : firstCalled mt i ((List.range m.n).filter cp) t with
    | none => exact ⟨⟨hwf, hP, hG, fun r h1 h2 => hred r (by omega) h2⟩, rfl⟩
    | some k =>
      obtain ⟨hkn, hkr⟩ := firstCalled_is (fun k hk => by rw [hn]; exact filter_lt k hk) ho
      have hin : (inCol mt t).isNone = true := by
        unfold inCol
        rw [hred t (Nat.le_refl t) ht4]
        rfl
      obtain ⟨hle, hwg⟩ := light_eq (m := mt) (k := k) hwf hkn fun j hj hjr => red_ring hwf hin hj (hjr.trans hkr)
      have lat' : ∀ r, (give mt k).latest r = if r = (mt.st k).ring then some k else mt.latest r := fun r => rfl
      refine ⟨⟨hwg, hP, hG, fun r h1 h2 => ?_⟩, hle.symm⟩
      show (give mt k).latest r = none
      rw [lat', hkr, if_neg (by omega)]
      exact hred r (by omega) h2
theorem begins_eq (hw : Wf m) (hq : Cq m i cp) (hf : Fine m i) (hfc : ∀ j, i.f = some j → cp j = true) : Sa38.begins (ab m) (inS i) = ab (begins m i ((List.range m.n).filter cp)) ∧ Wf (begins m i ((List.range m.n).filter cp)) := by
  obtain ⟨R, hab⟩ := rings_at (cp := cp) (sg := !decide (greens m = [])) hw hf 4 (Nat.le_refl 4)
  have hh : Sa38.heirs (ab m) (inS i) = ab (rings m i ((List.range m.n).filter cp) (!decide (greens m = [])) 4) := by
    rw [heirs_fold, hab]
    have e : ∀ (l : List Nat), (∀ r, r ∈ l → r < 4) → ∀ u : St, l.foldl (turnS (ab m) (inS i)) u = l.foldl (fun u r => lightO u (oR m i ((List.range m.n).filter cp) (!decide (greens m = [])) r)) u := fun l => by
      induction l with
      | nil => exact fun _ _ => rfl
      | cons a l ih =>
        intro hl u
        rw [List.foldl_cons, List.foldl_cons, turnS_eq hw hq (hl a List.mem_cons_self)]
        exact ih (fun r hr => hl r (List.mem_cons_of_mem _ hr)) _
    exact e _ (fun r hr => List.mem_range.mp hr) _
  rw [begins_fold, hh, allRed_eq]
  unfold begins
  obtain ⟨hwf, hP, hG, _, hgiven, hsame⟩ := R
  cases ha : allRed (rings m i ((List.range m.n).filter cp) (!decide (greens m = [])) 4) with
  | false =>
    have e2 : begins2 (rings m i ((List.range m.n).filter cp) (!decide (greens m = [])) 4) i ((List.range m.n).filter cp) = rings m i ((List.range m.n).filter cp) (!decide (greens m = [])) 4 := if_neg (by rw [ha]; simp)
    rw [e2, if_neg (by decide)]
    exact ⟨rfl, hwf⟩
  | true =>
    have hred : ∀ r, r < 4 → (inCol (rings m i ((List.range m.n).filter cp) (!decide (greens m = [])) 4) r).isNone = true := by
      unfold allRed at ha
      rw [all_range] at ha
      exact ha
    have hn4 : (rings m i ((List.range m.n).filter cp) (!decide (greens m = [])) 4).n = m.n := congrArg List.length hP
    have hnone : ∀ r, r < 4 → oR m i ((List.range m.n).filter cp) (!decide (greens m = [])) r = none := fun r hr => by
      cases ho : oR m i ((List.range m.n).filter cp) (!decide (greens m = [])) r with
      | none => rfl
      | some k =>
        have h1 := hgiven r hr k ho
        obtain ⟨hkn, _, _⟩ := oR_is hw hf hr ho
        have hkn4 : k < (rings m i ((List.range m.n).filter cp) (!decide (greens m = [])) 4).n := by
          rw [hn4]
          exact hkn
        have h0 := red_ring hwf (hred _ (hwf.ring k hkn4)) hkn4 rfl
        rw [h1] at h0
        cases h0
    have e4 := hsame hnone
    rw [e4] at ha hred ⊢
    have hz : ∀ k, k < m.n → (m.dy k).col = 0 := fun k hk => red_ring hw (hred _ (hw.ring k hk)) hk rfl
    have hcp : Cp m i cp := ⟨fun k hk => hq k hk (hz k hk)⟩
    rw [if_pos rfl]
    by_cases hc : (List.range m.n).filter cp = []
    · have e2 : begins2 m i ((List.range m.n).filter cp) = m := if_neg (by rw [hc]; simp)
      rw [e2]
      have hfn : i.f = none := by
        cases hi : i.f with
        | none => rfl
        | some j =>
          have : j ∈ (List.range m.n).filter cp := List.mem_filter.mpr ⟨List.mem_range.mpr (hf j hi), hfc j hi⟩
          rw [hc] at this
          cases this
      have en : Sa38.nextGroup (ab m) (inS i) = none := by
        unfold Sa38.nextGroup
        have e1 : (inS i).first = none := hfn
        rw [e1]
        show (Sa38.groupsFrom (ab m).group).find? (Sa38.calledIn (ab m) (inS i)) = none
        rw [List.find?_eq_none]
        intro g _ z
        unfold Sa38.calledIn at z
        rw [ab_all, any_range] at z
        obtain ⟨k, hk, hck⟩ := z
        rw [hcp.eq k hk, Bool.and_eq_true] at hck
        have : k ∈ (List.range m.n).filter cp := List.mem_filter.mpr ⟨List.mem_range.mpr hk, hck.1⟩
        rw [hc] at this
        cases this
      rw [en]
      exact ⟨rfl, hw⟩
    · have e2 : begins2 m i ((List.range m.n).filter cp) = beginNext m i ((List.range m.n).filter cp) := if_pos (by rw [ha]; simp [hc])
      rw [e2, nextGroup_eq hw hcp hf hc]
      unfold beginNext
      have hg8 : nextGroup m i ((List.range m.n).filter cp) < 8 := by
        unfold nextGroup
        cases hi : i.f with
        | none =>
          show (m.group + 1 + minL (((List.range m.n).filter cp).map (dist m))) % 8 < 8
          omega
        | some j => exact hw.grp j (hf j hi)
      generalize nextGroup m i ((List.range m.n).filter cp) = g at hg8 ⊢
      have hwb : Wf (beginG m g) := ⟨hw.ring, hw.grp, hg8, (fun r _ k hk => by cases hk), fun k hk hck => absurd (hz k hk) hck, hw.c3⟩
      obtain ⟨N, hN⟩ := nexts_at hwb hcp 4 (Nat.le_refl 4)
      refine ⟨?_, N.wf⟩
      rw [hN]
      have eb : ({ ab m with group := g, last := List.replicate 4 none } : St) = ab (beginG m g) := by
        have el : (ab m).lit = (ab (beginG m g)).lit := map_range fun r hr => by
          have q := hred r hr
          rw [← lit_none] at q
          rw [Option.isNone_iff_eq_none.mp q]
          rfl
        show St.mk (ab m).streams (ab m).lit (List.replicate 4 none) g (ab m).cars (ab m).people = _
        rw [el]
        rfl
      show (List.range 4).foldl (turnN (ab m) (inS i) g) { ab m with group := g, last := List.replicate 4 none } = _
      rw [eb]
/-! ### a step -/
theorem called_same {m' : Cm} (hw : Wf m) (hw' : Wf m') (hP : m'.P = m.P) (hk : k < m.n) (h1 : (m'.dy k).car = (m.dy k).car) (h2 : (m'.dy k).but = (m.dy k).but) (h3 : grn (m'.dy k) = grn (m.dy k)) : Sa38.called (ab m') (inS i) k = Sa38.called (ab m) (inS i) k := by
  have hn : m'.n = m.n := congrArg List.length hP
  rw [called_eq hw hk, called_eq hw' (by rw [hn]; exact hk)]
  unfold calledD
  have e : m'.st k = m.st k := by
    show stP m'.P k = stP m.P k
    rw [hP]
  rw [h1, h2, h3, e]
theorem step_eq (hw : Wf m) (hf : Fine m i) : Sa38.step (ab m) (inS i) = ab (run m i) ∧ Wf (run m i) := by
  have hc : calls m i = (List.range m.n).filter (callF m i) := rfl
  -- hearing
  have w1 := wf_hears (i := i) hw
  have c1 : Cp (hears m i) i (callF m i) := ⟨fun k hk => by
    rw [called_eq w1 hk, hears_dy (m := m) hk, callF_eq]
    rfl⟩
  -- clocks
  have hp1 := pressed_eq (i := i) w1 c1.eq
  have w2 := wf_clocks (i := i) (c := calls m i) w1
  have k2 : ∀ k, k < m.n → ((clocks (hears m i) i (calls m i)).dy k).car = ((hears m i).dy k).car ∧ ((clocks (hears m i) i (calls m i)).dy k).but = ((hears m i).dy k).but ∧ grn ((clocks (hears m i) i (calls m i)).dy k) = grn ((hears m i).dy k) := fun k hk => by
    rw [clocks_dy (m := hears m i) hk]
    refine ⟨clock1_keep.2.1, clock1_keep.2.2, ?_⟩
    unfold grn clockF
    rw [clock1_keep.1]
  have c2 : Cp (clocks (hears m i) i (calls m i)) i (callF m i) := ⟨fun k hk => by
    rw [called_same w1 w2 rfl hk (k2 k hk).1 (k2 k hk).2.1 (k2 k hk).2.2]
    exact c1.eq k hk⟩
  -- what fades
  have w3 := wf_fades w2
  have c3 : Cp (fades (clocks (hears m i) i (calls m i))) i (callF m i) := ⟨fun k hk => by
    have e := fades_dy (m := clocks (hears m i) i (calls m i)) hk
    rw [called_same w2 w3 rfl hk (by rw [e]; exact fade_keep.1) (by rw [e]; exact fade_keep.2.1) (by rw [e]; exact fade_keep.2.2.1)]
    exact c2.eq k hk⟩
  have e1 : Sa38.remember (ab m) (inS i) = ab (hears m i) := remember_eq hw
  have e2 : Sa38.clocks (ab (hears m i)) (inS i) = ab (clocks (hears m i) i (calls m i)) := clocks_eq w1 hp1
  have e3 := fades_eq w2
  -- ends
  have e4 := ends_eq w3 c3
  have w4 : Wf (ends (clocks (hears m i) i (calls m i)) i (calls m i)) := wf_ends w3
  have e34 : Sa38.ends (ab (clocks (hears m i) i (calls m i))) (inS i) = ab (ends (clocks (hears m i) i (calls m i)) i (calls m i)) := by
    unfold Sa38.ends
    rw [e3]
    exact e4
  obtain ⟨eP, _, _⟩ := ends2_fix (m := fades (clocks (hears m i) i (calls m i))) (i := i) (c := calls m i)
  have eP' : (ends (clocks (hears m i) i (calls m i)) i (calls m i)).P = m.P := eP
  have hn4 : (ends (clocks (hears m i) i (calls m i)) i (calls m i)).n = m.n := congrArg List.length eP'
  have q4 : Cq (ends (clocks (hears m i) i (calls m i)) i (calls m i)) i (callF m i) := fun k hk hz => by
    have hk' : k < m.n := by
      rw [← hn4]
      exact hk
    have ed : (ends (clocks (hears m i) i (calls m i)) i (calls m i)).dy k = endK (fades (clocks (hears m i) i (calls m i))) i (calls m i) k := ends2_dy (m := fades (clocks (hears m i) i (calls m i))) hk'
    have es : (ends (clocks (hears m i) i (calls m i)) i (calls m i)).dy k = (fades (clocks (hears m i) i (calls m i))).dy k := by
      rw [ed]
      rcases endK_or (m := fades (clocks (hears m i) i (calls m i))) (i := i) (c := calls m i) (k := k) with e | ⟨_, e⟩
      · exact e
      · rw [ed, e] at hz
        cases hz
    rw [called_same w3 w4 eP hk' (by rw [es]) (by rw [es]) (by rw [es])]
    exact c3.eq k hk'
  have hf4 : Fine (ends (clocks (hears m i) i (calls m i)) i (calls m i)) i := fun j hj => by
    rw [hn4]
    exact hf j hj
  have hfc : ∀ j, i.f = some j → callF m i j = true := fun j hj => by
    unfold callF isFirst
    rw [hj]
    simp
  have e5 := begins_eq w4 q4 hf4 hfc
  rw [hn4, ← hc] at e5
  refine ⟨?_, e5.2⟩
  unfold Sa38.step
  rw [e1, e2, e34]
  exact e5.1
end
end Xg

namespace Xg
open Sa38 (St Lit Colour)
/-! ### the line's form -/
theorem row_flat {l x t : List Int} (h : PyFlat.row l = some (x, t)) : l = (x.length : Int) :: (x ++ t) := by
  cases l with
  | nil => cases h
  | cons n q =>
    unfold PyFlat.row at h
    dsimp only at h
    by_cases hc : 0 ≤ n ∧ n.toNat ≤ q.length
    · rw [if_pos hc] at h
      have e := Option.some.inj h
      obtain ⟨rfl, rfl⟩ := Prod.mk.inj e
      rw [List.take_append_drop, List.length_take, Nat.min_eq_left hc.2]
      have : ((n.toNat : Nat) : Int) = n := by omega
      rw [this]
    · rw [if_neg hc] at h
      cases h
theorem call_flat {p : Int} {r : List Int} {c : List (List Int)} {t : List Int} (h : PyFlat.call PySa38.shape (p :: r) = some (c, t)) : p :: r = flat c ++ t := by
  unfold PyFlat.call PySa38.shape at h
  dsimp only at h
  by_cases h0 : p = 0
  · rw [if_pos h0] at h
    dsimp only at h
    by_cases hl : r.length < 2
    · rw [if_pos hl] at h
      cases h
    · rw [if_neg hl] at h
      match r, hl with
      | e :: n :: r', _ =>
        have ed : (e :: n :: r').drop 2 = r' := rfl
        rw [ed] at h
        unfold PyFlat.rows at h
        cases hr : PyFlat.row r' with
        | none =>
          rw [hr] at h
          cases h
        | some y =>
          obtain ⟨x, s⟩ := y
          rw [hr] at h
          have e2 := Option.some.inj h
          obtain ⟨rfl, rfl⟩ := Prod.mk.inj e2
          rw [row_flat hr]
          rfl
      | [_], hl => exact absurd (show 1 < 2 by decide) hl
      | [], hl => exact absurd (show 0 < 2 by decide) hl
  · rw [if_neg h0] at h
    by_cases h1 : p = 1
    · rw [if_pos h1] at h
      dsimp only at h
      by_cases hl : r.length < 4
      · rw [if_pos hl] at h
        cases h
      · rw [if_neg hl] at h
        match r, hl with
        | a :: b :: c' :: d :: r', _ =>
          have e2 := Option.some.inj h
          obtain ⟨rfl, rfl⟩ := Prod.mk.inj e2
          rfl
        | [_, _, _], hl => exact absurd (show 3 < 4 by decide) hl
        | [_, _], hl => exact absurd (show 2 < 4 by decide) hl
        | [_], hl => exact absurd (show 1 < 4 by decide) hl
        | [], hl => exact absurd (show 0 < 4 by decide) hl
    · rw [if_neg h1] at h
      by_cases h2 : p = 2
      · rw [if_pos h2] at h
        dsimp only at h
        by_cases hl : r.length < 1
        · rw [if_pos hl] at h
          cases h
        · rw [if_neg hl] at h
          match r, hl with
          | a :: r', _ =>
            have e2 := Option.some.inj h
            obtain ⟨rfl, rfl⟩ := Prod.mk.inj e2
            rfl
          | [], hl => exact absurd (show 0 < 1 by decide) hl
      · rw [if_neg h2] at h
        cases h
theorem calls_flat : ∀ (f : Nat) (l : List Int) (raw : List (List (List Int))), PyFlat.calls PySa38.shape f l = some raw → l = raw.flatMap flat
  | f, [], raw, h => by
    have e : raw = [] := by
      cases f <;> (unfold PyFlat.calls at h; exact (Option.some.inj h).symm)
    rw [e]
    rfl
  | 0, _ :: _, raw, h => by
    unfold PyFlat.calls at h
    cases h
  | f + 1, p :: r, raw, h => by
    unfold PyFlat.calls at h
    cases hc : PyFlat.call PySa38.shape (p :: r) with
    | none =>
      rw [hc] at h
      cases h
    | some y =>
      obtain ⟨c, t⟩ := y
      rw [hc] at h
      dsimp only at h
      cases hr : PyFlat.calls PySa38.shape f t with
      | none =>
        rw [hr] at h
        cases h
      | some cs =>
        rw [hr] at h
        have e := Option.some.inj h
        subst e
        rw [call_flat hc, calls_flat f t cs hr]
        rfl
theorem whole_id (c : List (List Int)) : PySa38.whole c = c := by
  unfold PySa38.whole
  split <;> rfl
theorem nat1 {e : Int} (h : Sa38Neutral.natural e 1 = true) : e = 0 ∨ e = 1 := by
  unfold Sa38Neutral.natural at h
  simp only [Bool.and_eq_true, decide_eq_true_eq] at h
  omega
theorem natN {e : Int} {n : Nat} (h : Sa38Neutral.natural e n = true) : 0 ≤ e := by
  unfold Sa38Neutral.natural at h
  simp only [Bool.and_eq_true, decide_eq_true_eq] at h
  exact h.1
theorem form_of {c : List (List Int)} (h : Sa38Neutral.asked1 c = true) : Form c := by
  unfold Sa38Neutral.asked1 at h
  split at h
  · rename_i e n l
    simp only [Bool.and_eq_true, decide_eq_true_eq] at h
    obtain ⟨h1, _, _, h4⟩ := h
    refine .begin_ (nat1 h1) ?_
    by_cases hn : 1 ≤ n ∧ n ≤ 16
    · rw [if_pos hn] at h4 ⊢
      omega
    · rw [if_neg hn] at h4 ⊢
      omega
  · rename_i e cars people f
    simp only [Bool.and_eq_true] at h
    obtain ⟨h1, h2, h3, _⟩ := h
    exact .step (nat1 h1) (natN h2) (natN h3)
  · exact .calls (nat1 h)
  · cases h
/-! ### what may be begun -/
theorem stream_of {x : List Int} (hx : x.length = 10) : Sa38.streamOf x = if allowed x = true then some (strmOf x) else none := by
  match x, hx with
  | [r, g, a, p, m, y, c, w, k, o], _ =>
    have e : (Sa38.within r 0 3 && (Sa38.within g 0 7 && (Sa38.within a 1 6000 && (Sa38.within p 0 6000 && (decide (a ≤ m) && (decide (m ≤ 36000) && (Sa38.within y 1 1000 && (Sa38.within c 0 1000 && (Sa38.within w 0 6000 && (Sa38.within k 0 6000 && Sa38.within o 0 7)))))))))) = allowed [r, g, a, p, m, y, c, w, k, o] := by
      refine bool_ext ?_
      unfold allowed
      constructor
      · intro h
        simp only [Sa38.within, Bool.and_eq_true, decide_eq_true_eq] at h
        rw [Bool.and_eq_true, all_range]
        refine ⟨fun j hj => ?_, ?_⟩
        · have hc : j = 0 ∨ j = 1 ∨ j = 2 ∨ j = 3 ∨ j = 4 ∨ j = 5 ∨ j = 6 ∨ j = 7 ∨ j = 8 ∨ j = 9 := by omega
          rcases hc with rfl | rfl | rfl | rfl | rfl | rfl | rfl | rfl | rfl | rfl <;> simp [badAt, lows, highs] <;> omega
        · simp
          omega
      · intro h
        rw [Bool.and_eq_true, all_range] at h
        obtain ⟨h1, h2⟩ := h
        have q0 := h1 0 (by omega)
        have q1 := h1 1 (by omega)
        have q2 := h1 2 (by omega)
        have q3 := h1 3 (by omega)
        have q4 := h1 4 (by omega)
        have q5 := h1 5 (by omega)
        have q6 := h1 6 (by omega)
        have q7 := h1 7 (by omega)
        have q8 := h1 8 (by omega)
        have q9 := h1 9 (by omega)
        simp [badAt, lows, highs] at q0 q1 q2 q3 q4 q5 q6 q7 q8 q9 h2
        simp only [Sa38.within, Bool.and_eq_true, decide_eq_true_eq]
        omega
    unfold Sa38.streamOf
    dsimp only
    rw [e]
    rfl
theorem mapM_of : ∀ (l : List (List Int)), (∀ x, x ∈ l → x.length = 10) → l.mapM Sa38.streamOf = if l.all allowed = true then some (l.map strmOf) else none
  | [], _ => rfl
  | x :: l, h => by
    have ih := mapM_of l fun y hy => h y (List.mem_cons_of_mem _ hy)
    rw [List.mapM_cons, ih, stream_of (h x List.mem_cons_self)]
    cases hx : allowed x <;> cases hl : l.all allowed <;> simp [hx, hl]
theorem tens_eq : ∀ (n : Nat) (l : List Int), Sa38Neutral.tens l n = (List.range n).map fun k => ten l k
  | 0, _ => rfl
  | n + 1, l => by
    rw [List.range_succ_eq_map, List.map_cons, List.map_map]
    show l.take 10 :: Sa38Neutral.tens (l.drop 10) n = _
    rw [tens_eq n]
    refine congr (congrArg List.cons ?_) (List.map_congr_left fun k _ => ?_)
    · unfold ten
      rw [Nat.mul_zero, List.drop_zero]
    · unfold ten
      rw [List.drop_drop]
      show _ = (l.drop (10 * (k + 1))).take 10
      rw [show 10 + 10 * k = 10 * (k + 1) by omega]
theorem allowed_at' {ns : List Int} (h : allowed ns = true) (j : Nat) (hj : j < 10) : ns.getD j 0 ≤ highs.getD j 0 := by
  unfold allowed at h
  rw [Bool.and_eq_true, all_range] at h
  have q := h.1 j hj
  unfold badAt at q
  simp only [Bool.not_eq_true', Bool.or_eq_false_iff, decide_eq_false_iff_not] at q
  omega
theorem stP_of {n k : Nat} {ns : List Int} (hk : k < n) : stP (strmsOf n ns) k = strmOf (ten ns k) := by
  unfold stP strmsOf
  exact getD_map hk
theorem strms_len {n : Nat} {ns : List Int} : (strmsOf n ns).length = n := by
  unfold strmsOf
  rw [List.length_map, List.length_range]
theorem wf_new {n : Nat} {ns : List Int} (h : ∀ k, k < n → allowed (ten ns k) = true) : Wf (Cm.new (strmsOf n ns)) := by
  have hn : (Cm.new (strmsOf n ns)).n = n := strms_len
  refine ⟨fun k hk => ?_, fun k hk => ?_, by show 7 < 8; decide, fun r _ k hk => ?_, fun k _ hc => absurd rfl hc, fun k _ => by show 0 ≤ 3; decide⟩
  · rw [hn] at hk
    show (stP (strmsOf n ns) k).ring < 4
    rw [stP_of hk]
    have q : (ten ns k).getD 0 0 ≤ 3 := allowed_at' (h k hk) 0 (by omega)
    show ((ten ns k).getD 0 0).toNat < 4
    omega
  · rw [hn] at hk
    show (stP (strmsOf n ns) k).group < 8
    rw [stP_of hk]
    have q : (ten ns k).getD 1 0 ≤ 7 := allowed_at' (h k hk) 1 (by omega)
    show ((ten ns k).getD 1 0).toNat < 8
    omega
  · cases hk
theorem map_stP {β : Type} {g : Strm → β} {P : List Strm} : (List.range P.length).map (fun k => g (stP P k)) = P.map g := by
  refine List.ext_getElem (by simp) fun t h1 h2 => ?_
  simp only [List.length_map, List.length_range] at h1
  simp only [List.getElem_map, List.getElem_range]
  unfold stP
  rw [List.getD_eq_getElem?_getD, List.getElem?_eq_getElem h1]
  rfl
theorem begun_eq (P : List Strm) : Sa38.begun P = ab (Cm.new P) := by
  unfold Sa38.begun ab
  have e1 : P.map Sa38.Stream.remembers = (List.range (Cm.new P).n).map fun k => ((Cm.new P).dy k).car := (map_stP (g := Sa38.Stream.remembers) (P := P)).symm
  have e2 : (P.map fun x => decide (0 < x.walk)) = (List.range (Cm.new P).n).map fun k => ((Cm.new P).dy k).but := (map_stP (g := fun x => decide (0 < x.walk)) (P := P)).symm
  rw [e1, e2]
  rfl
theorem does_begin {a : Sa38.Abs} {n : Int} {r : List Int} (hr : r.length = if 1 ≤ n ∧ n ≤ 16 then 10 * n.toNat else 0) :
    Sa38.does a (.begin_ (Sa38Neutral.tens r (r.length / 10)) n) = if good n r = true then (some (ab (Cm.new (strmsOf n.toNat r))), Sa38.ok 0) else (a, Sa38.ok (-2)) := by
  unfold Sa38.does
  dsimp only
  by_cases hn : 1 ≤ n ∧ n ≤ 16
  · have hw : ¬ Sa38.within n 1 16 = false := by
      unfold Sa38.within
      simp [hn.1, hn.2]
    rw [if_neg hw]
    rw [if_pos hn] at hr
    have el : r.length / 10 = n.toNat := by omega
    have hg : good n r = (List.range n.toNat).all fun k => allowed (ten r k) := if_neg (by omega)
    have hlen : ∀ x, x ∈ (List.range n.toNat).map (fun k => ten r k) → x.length = 10 := fun x hx => by
      obtain ⟨k, hk, rfl⟩ := List.mem_map.mp hx
      have hk' := List.mem_range.mp hk
      unfold ten
      rw [List.length_take, List.length_drop]
      omega
    rw [el, tens_eq, mapM_of _ hlen, List.all_map, hg]
    have ea : (List.range n.toNat).all (allowed ∘ fun k => ten r k) = (List.range n.toNat).all fun k => allowed (ten r k) := rfl
    rw [ea]
    by_cases ha : ((List.range n.toNat).all fun k => allowed (ten r k)) = true
    · rw [if_pos ha, if_pos ha, List.map_map]
      show (some (Sa38.begun ((List.range n.toNat).map (strmOf ∘ fun k => ten r k))), Sa38.ok 0) = _
      have es : (List.range n.toNat).map (strmOf ∘ fun k => ten r k) = strmsOf n.toNat r := rfl
      rw [es, begun_eq]
    · rw [if_neg ha, if_neg ha]
  · have hw : Sa38.within n 1 16 = false := by
      unfold Sa38.within
      rw [Bool.and_eq_false_iff, decide_eq_false_iff_not, decide_eq_false_iff_not]
      omega
    have hg : good n r = false := if_pos (by omega)
    rw [if_pos hw, hg, if_neg (by decide)]
/-! ### the answers -/
theorem bits_eq {m : Cm} {f g : Nat → Bool} (h : ∀ k, k < m.n → f k = g k) : Sa38.bits (ab m) f = bitsL ((List.range m.n).filter g) := by
  rw [(bitsL_lt m.n).2]
  unfold Sa38.bits
  rw [ab_all]
  refine congrArg List.sum (map_range fun k hk => ?_)
  rw [h k hk]
theorem lights_eq {m : Cm} (h : Wf m) : [Sa38.bits (ab m) fun k => ((ab m).green k).isSome, Sa38.bits (ab m) (Sa38.isYellow (ab m)), Sa38.bits (ab m) (Sa38.walks (ab m)), Sa38.bits (ab m) (Sa38.clears (ab m))] = lights m := by
  rw [bits_eq (g := fun k => grn (m.dy k)) fun k hk => green_some h hk, bits_eq (g := fun k => ylw (m.dy k)) fun k hk => yellow_eq h hk, bits_eq (g := fun k => walks (m.st k) (m.dy k)) fun k hk => walks_eq h hk, bits_eq (g := fun k => clears (m.st k) (m.dy k)) fun k hk => clears_eq h hk]
  rfl
theorem kept_eq {m : Cm} : [Sa38.bits (ab m) fun k => (ab m).cars.getD k false, Sa38.bits (ab m) fun k => (ab m).people.getD k false] = kept m := by
  rw [bits_eq (g := fun k => (m.dy k).car) fun k hk => ab_car hk, bits_eq (g := fun k => (m.dy k).but) fun k hk => ab_but hk]
  rfl
structure Sim (s : Ms) (t : Sa38Neutral.S) : Prop where
  e0 : t.1 = s.c0.map ab
  e1 : t.2 = s.c1.map ab
  w0 : ∀ m, s.c0 = some m → Wf m
  w1 : ∀ m, s.c1 = some m → Wf m
/-- what a call does to its crossing -/
def one (o : Option Cm) : List (List Int) → Option Cm × List Int
  | [[_, _, n], r] => if good n r = true then (some (Cm.new (strmsOf n.toNat r)), [0]) else (o, [-2])
  | [[_, _, cars, people, f]] => match o with
    | none => (none, [-9])
    | some m => if f < -1 ∨ (m.n : Int) ≤ f then (some m, [-2]) else (some (run m ⟨cars.toNat, people.toNat, fo f⟩), told0 (lights (run m ⟨cars.toNat, people.toNat, fo f⟩)))
  | [[_, _]] => match o with
    | none => (none, [-9])
    | some m => (some m, told0 (kept m))
  | _ => (o, [])
/-- the specification's call on one crossing -/
def oneS (a : Sa38.Abs) (x : Sa38.Call) : Sa38.Abs × List Int := ((Sa38.does a x).1, (Sa38.does a x).2.v :: Sa38Neutral.ints (Sa38.does a x).2.l)
theorem one_eq {o : Option Cm} {c : List (List Int)} {e : Int} {x : Sa38.Call} (hc : Form c) (hi : Sa38Neutral.inner c = some (e, x)) (hw : ∀ m, o = some m → Wf m) :
    oneS (o.map ab) x = ((one o c).1.map ab, (one o c).2) ∧ ∀ m, (one o c).1 = some m → Wf m := by
  cases hc with
  | @begin_ e' n r he hr =>
    have ei : Sa38Neutral.inner [[0, e', n], r] = some (e', .begin_ (Sa38Neutral.tens r (r.length / 10)) n) := rfl
    rw [ei] at hi
    obtain ⟨_, rfl⟩ := Prod.mk.inj (Option.some.inj hi)
    unfold oneS
    rw [does_begin hr]
    show _ = ((if good n r = true then (some (Cm.new (strmsOf n.toNat r)), ([0] : List Int)) else (o, [-2])).1.map ab, (if good n r = true then (some (Cm.new (strmsOf n.toNat r)), ([0] : List Int)) else (o, [-2])).2) ∧ ∀ m, (if good n r = true then (some (Cm.new (strmsOf n.toNat r)), ([0] : List Int)) else (o, [-2])).1 = some m → Wf m
    by_cases hg : good n r = true
    · rw [if_pos hg, if_pos hg]
      refine ⟨rfl, fun m hm => ?_⟩
      have em := Option.some.inj hm
      subst em
      have hgn : ¬ (n < 1 ∨ 16 < n) := fun z => by
        have y : good n r = false := if_pos z
        rw [y] at hg
        cases hg
      have y : good n r = (List.range n.toNat).all fun k => allowed (ten r k) := if_neg hgn
      rw [y, all_range] at hg
      exact wf_new hg
    · rw [if_neg hg, if_neg hg]
      exact ⟨rfl, hw⟩
  | @step e' cars people f he hc1 hc2 =>
    have ei : Sa38Neutral.inner [[1, e', cars, people, f]] = some (e', .step cars.toNat people.toNat f) := rfl
    rw [ei] at hi
    obtain ⟨_, rfl⟩ := Prod.mk.inj (Option.some.inj hi)
    cases o with
    | none => exact ⟨rfl, fun m hm => by cases hm⟩
    | some m =>
      have h := hw m rfl
      show oneS (some (ab m)) (.step cars.toNat people.toNat f) = ((if f < -1 ∨ (m.n : Int) ≤ f then (some m, ([-2] : List Int)) else (some (run m ⟨cars.toNat, people.toNat, fo f⟩), told0 (lights (run m ⟨cars.toNat, people.toNat, fo f⟩)))).1.map ab, (if f < -1 ∨ (m.n : Int) ≤ f then (some m, ([-2] : List Int)) else (some (run m ⟨cars.toNat, people.toNat, fo f⟩), told0 (lights (run m ⟨cars.toNat, people.toNat, fo f⟩)))).2) ∧ ∀ m', (if f < -1 ∨ (m.n : Int) ≤ f then (some m, ([-2] : List Int)) else (some (run m ⟨cars.toNat, people.toNat, fo f⟩), told0 (lights (run m ⟨cars.toNat, people.toNat, fo f⟩)))).1 = some m' → Wf m'
      have ed : Sa38.does (some (ab m)) (.step cars.toNat people.toNat f) = if f < -1 ∨ ((ab m).streams.length : Int) ≤ f then (some (ab m), Sa38.ok (-2)) else (some (Sa38.step (ab m) ⟨cars.toNat, people.toNat, if f = -1 then none else some f.toNat⟩), ⟨0, [Sa38.bits (Sa38.step (ab m) ⟨cars.toNat, people.toNat, if f = -1 then none else some f.toNat⟩) fun k => ((Sa38.step (ab m) ⟨cars.toNat, people.toNat, if f = -1 then none else some f.toNat⟩).green k).isSome, Sa38.bits (Sa38.step (ab m) ⟨cars.toNat, people.toNat, if f = -1 then none else some f.toNat⟩) (Sa38.isYellow (Sa38.step (ab m) ⟨cars.toNat, people.toNat, if f = -1 then none else some f.toNat⟩)), Sa38.bits (Sa38.step (ab m) ⟨cars.toNat, people.toNat, if f = -1 then none else some f.toNat⟩) (Sa38.walks (Sa38.step (ab m) ⟨cars.toNat, people.toNat, if f = -1 then none else some f.toNat⟩)), Sa38.bits (Sa38.step (ab m) ⟨cars.toNat, people.toNat, if f = -1 then none else some f.toNat⟩) (Sa38.clears (Sa38.step (ab m) ⟨cars.toNat, people.toNat, if f = -1 then none else some f.toNat⟩))]⟩) := rfl
      have en : (ab m).streams.length = m.n := rfl
      rw [en] at ed
      unfold oneS
      rw [ed]
      by_cases hf : f < -1 ∨ (m.n : Int) ≤ f
      · rw [if_pos hf, if_pos hf]
        exact ⟨rfl, fun m' hm => by rw [← Option.some.inj hm]; exact h⟩
      · rw [if_neg hf, if_neg hf]
        have ein : (⟨cars.toNat, people.toNat, if f = -1 then none else some f.toNat⟩ : Sa38.In) = inS ⟨cars.toNat, people.toNat, fo f⟩ := rfl
        have hfine : Fine m ⟨cars.toNat, people.toNat, fo f⟩ := fun j hj => by
          have hj' : (if f = -1 then none else some f.toNat) = some j := hj
          by_cases h1 : f = -1
          · rw [if_pos h1] at hj'
            cases hj'
          · rw [if_neg h1] at hj'
            have := Option.some.inj hj'
            omega
        obtain ⟨h1, h2⟩ := step_eq h hfine
        rw [ein, h1, lights_eq h2]
        exact ⟨rfl, fun m' hm => by rw [← Option.some.inj hm]; exact h2⟩
  | @calls e' he =>
    have ei : Sa38Neutral.inner [[2, e']] = some (e', .calls) := rfl
    rw [ei] at hi
    obtain ⟨_, rfl⟩ := Prod.mk.inj (Option.some.inj hi)
    cases o with
    | none => exact ⟨rfl, fun m hm => by cases hm⟩
    | some m =>
      have h := hw m rfl
      have ed : oneS (some (ab m)) .calls = (some (ab m), 0 :: Sa38Neutral.ints [Sa38.bits (ab m) fun k => (ab m).cars.getD k false, Sa38.bits (ab m) fun k => (ab m).people.getD k false]) := rfl
      show oneS (some (ab m)) .calls = _ ∧ _
      rw [ed, kept_eq]
      exact ⟨rfl, fun m' hm => by rw [← Option.some.inj hm]; exact h⟩
theorem mcall_one {s : Ms} {c : List (List Int)} {e : Int} {x : Sa38.Call} (hc : Form c) (hi : Sa38Neutral.inner c = some (e, x)) : mcall s c = (s.put e (one (s.get e) c).1, (one (s.get e) c).2) := by
  have hput : s.put e (s.get e) = s := by
    unfold Ms.put Ms.get
    split <;> rfl
  cases hc with
  | @begin_ e' n r he hr =>
    obtain ⟨rfl, _⟩ := Prod.mk.inj (Option.some.inj hi)
    show mbegin s e' n r = (s.put e' (if good n r = true then (some (Cm.new (strmsOf n.toNat r)), ([0] : List Int)) else (s.get e', [-2])).1, (if good n r = true then (some (Cm.new (strmsOf n.toNat r)), ([0] : List Int)) else (s.get e', [-2])).2)
    unfold mbegin
    by_cases hg : good n r = true
    · rw [if_pos hg, if_pos hg]
    · rw [if_neg hg, if_neg hg]
      dsimp only
      rw [hput]
  | @step e' cars people f he hc1 hc2 =>
    obtain ⟨rfl, _⟩ := Prod.mk.inj (Option.some.inj hi)
    show mstep s e' cars people f = _
    unfold mstep one
    dsimp only
    cases hg : s.get e' with
    | none =>
      rw [hg] at hput
      dsimp only
      rw [hput]
    | some m =>
      rw [hg] at hput
      dsimp only
      by_cases hf : f < -1 ∨ (m.n : Int) ≤ f
      · rw [if_pos hf, if_pos hf]
        dsimp only
        rw [hput]
      · rw [if_neg hf, if_neg hf]
  | @calls e' he =>
    obtain ⟨rfl, _⟩ := Prod.mk.inj (Option.some.inj hi)
    show mcalls s e' = _
    unfold mcalls one
    dsimp only
    cases hg : s.get e' with
    | none =>
      rw [hg] at hput
      dsimp only
      rw [hput]
    | some m =>
      rw [hg] at hput
      dsimp only
      rw [hput]
theorem inner_form {c : List (List Int)} (hc : Form c) : ∃ e x, Sa38Neutral.inner c = some (e, x) ∧ (e = 0 ∨ e = 1) := by
  cases hc with
  | begin_ he hr => exact ⟨_, _, rfl, he⟩
  | step he h1 h2 => exact ⟨_, _, rfl, he⟩
  | calls he => exact ⟨_, _, rfl, he⟩
theorem sim_step {s : Ms} {t : Sa38Neutral.S} {c : List (List Int)} (hc : Form c) (h : Sim s t) : (Sa38Neutral.step t c).2 = (mcall s c).2 ∧ Sim (mcall s c).1 (Sa38Neutral.step t c).1 := by
  obtain ⟨e, x, hi, he⟩ := inner_form hc
  rw [mcall_one hc hi]
  have es : Sa38Neutral.step t c = (if e = 0 then ((oneS (if e = 0 then t.1 else t.2) x).1, t.2) else (t.1, (oneS (if e = 0 then t.1 else t.2) x).1), (oneS (if e = 0 then t.1 else t.2) x).2) := by
    unfold Sa38Neutral.step
    rw [hi]
    rfl
  rw [es]
  rcases he with rfl | rfl
  · have e1 : (if (0 : Int) = 0 then t.1 else t.2) = t.1 := if_pos rfl
    have e2 : s.get 0 = s.c0 := rfl
    obtain ⟨h1, h2⟩ := one_eq hc hi h.w0
    rw [e1, e2, h.e0, h1]
    exact ⟨rfl, ⟨rfl, h.e1, h2, h.w1⟩⟩
  · have e1 : (if (1 : Int) = 0 then t.1 else t.2) = t.2 := if_neg (by decide)
    have e2 : s.get 1 = s.c1 := rfl
    obtain ⟨h1, h2⟩ := one_eq hc hi h.w1
    rw [e1, e2, h.e1, h1]
    exact ⟨rfl, ⟨h.e0, rfl, h.w0, h2⟩⟩
theorem played_eq : ∀ (raws : List (List (List Int))) (s : Ms) (t : Sa38Neutral.S), (∀ c, c ∈ raws → Form c) → Sim s t → PyFlat.played Sa38Neutral.step t raws = PyFlat.played mcall s raws
  | [], _, _, _, _ => rfl
  | c :: raws, s, t, hf, h => by
    obtain ⟨h1, h2⟩ := sim_step (hf c List.mem_cons_self) h
    show (Sa38Neutral.step t c).2 :: PyFlat.played Sa38Neutral.step (Sa38Neutral.step t c).1 raws = (mcall s c).2 :: PyFlat.played mcall (mcall s c).1 raws
    rw [h1, played_eq raws _ _ (fun d hd => hf d (List.mem_cons_of_mem _ hd)) h2]
theorem mirror_is {l : List Int} (h : PySa38.answers_asked l = true) : ∃ raws : List (List (List Int)), l = raws.flatMap flat ∧ (∀ c, c ∈ raws → Form c) ∧ raws.length ≤ 400 ∧ PySa38.answers l = PyFlat.told (PyFlat.played mcall ⟨none, none⟩ raws) := by
  unfold PySa38.answers_asked at h
  cases hr : PyFlat.calls PySa38.shape l.length l with
  | none =>
    rw [hr] at h
    cases h
  | some raw =>
    rw [hr] at h
    simp only [Bool.and_eq_true] at h
    obtain ⟨⟨⟨⟨_, h2⟩, _⟩, h4⟩, _⟩ := h
    have ew : raw.map PySa38.whole = raw := by
      rw [List.map_congr_left (fun c _ => whole_id c), List.map_id']
    rw [ew] at h4
    unfold Sa38Neutral.asked at h4
    rw [Bool.and_eq_true, List.all_eq_true] at h4
    have hf : ∀ c, c ∈ raw → Form c := fun c hc => form_of (h4.1 c hc)
    have h2' : raw.length ≤ 400 := by
      unfold PyFlat.atMost at h2
      exact of_decide_eq_true h2
    refine ⟨raw, calls_flat _ _ _ hr, hf, h2', ?_⟩
    unfold PySa38.answers PySa38.calls
    rw [hr]
    show PyFlat.told (PyFlat.played Sa38Neutral.step Sa38Neutral.start (raw.map PySa38.whole)) = _
    rw [ew, played_eq raw ⟨none, none⟩ Sa38Neutral.start hf ⟨rfl, rfl, (fun m hm => by cases hm), (fun m hm => by cases hm)⟩]
end Xg

/-! Short words over the layer; the text by places; what lies in the heap. -/
namespace Xg
open PySem PySem.Spec PyProof.Rows L2 Evl
open PySem.W (Codec)
/-! ### what evaluates to what: fields, comparisons, methods -/
section
variable {K : PySem.W.Frag} {σ : L2.St} {H : Hp} {ta tb te tv : TE} {x y v z : V} {D : Ends} {t : TA} {f m : Str} {a C dx : Addr} {fs : List (Str × V)} {tz : TS}
theorem ev_fld (h : Ev ta σ H (.ref a)) (hH : H a = some (.ins C dx fs)) (c : Cls K C) (n : NoAttr K C f) (l : fs.lookup f = some v) : Ev (tFld K ta f) σ H v :=
  fun H1 e Q q => h H1 e _ fun H2 e2 => ⟨a, C, dx, fs, v, rfl, e2 _ _ (e _ _ hH), c, n, l, q H2 e2⟩
theorem ev_cmp {p : Int → Int → Bool} {i j : Int} (ha : Ev ta σ H (.int i)) (hb : Ev tb σ H (.int j)) : Ev (tCmp p ta tb) σ H (.bl (p i j)) :=
  fun H1 e Q q => ha H1 e _ fun H2 e2 => hb H2 (e.trans e2) _ fun H3 e3 => ⟨i, j, rfl, rfl, q H3 (e2.trans e3)⟩
theorem ev_eqN {i j : Nat} (ha : Ev ta σ H (.int (i : Int))) (hb : Ev tb σ H (.int (j : Int))) : Ev (tEqI ta tb) σ H (.bl (decide (i = j))) :=
  ev_is (ev_cmp ha hb) (congrArg V.bl (decide_eq_decide.mpr Int.ofNat_inj))
theorem ev_neN {i j : Nat} (ha : Ev ta σ H (.int (i : Int))) (hb : Ev tb σ H (.int (j : Int))) : Ev (tNeI ta tb) σ H (.bl (!decide (i = j))) :=
  ev_is (ev_cmp ha hb) (congrArg (fun b => V.bl (!b)) (decide_eq_decide.mpr Int.ofNat_inj))
theorem ev_ltN {i j : Nat} (ha : Ev ta σ H (.int (i : Int))) (hb : Ev tb σ H (.int (j : Int))) : Ev (tLt ta tb) σ H (.bl (decide (i < j))) :=
  ev_is (ev_cmp ha hb) (congrArg V.bl (decide_eq_decide.mpr Int.ofNat_lt))
theorem ev_leN {i j : Nat} (ha : Ev ta σ H (.int (i : Int))) (hb : Ev tb σ H (.int (j : Int))) : Ev (tLe ta tb) σ H (.bl (decide (i ≤ j))) :=
  ev_is (ev_cmp ha hb) (congrArg V.bl (decide_eq_decide.mpr Int.ofNat_le))
theorem ev_gtN {i j : Nat} (ha : Ev ta σ H (.int (i : Int))) (hb : Ev tb σ H (.int (j : Int))) : Ev (tGt ta tb) σ H (.bl (decide (j < i))) :=
  ev_is (ev_cmp ha hb) (congrArg V.bl (decide_eq_decide.mpr Int.ofNat_lt))
theorem ev_geN {i j : Nat} (ha : Ev ta σ H (.int (i : Int))) (hb : Ev tb σ H (.int (j : Int))) : Ev (tGe ta tb) σ H (.bl (decide (j ≤ i))) :=
  ev_is (ev_cmp ha hb) (congrArg V.bl (decide_eq_decide.mpr Int.ofNat_le))
theorem ev_isN (ha : Ev ta σ H x) : Ev (tIsN ta) σ H (.bl (decide (x = .non))) := fun H1 e Q q => ha H1 e _ q
theorem ev_notN (ha : Ev ta σ H x) : Ev (tNotN ta) σ H (.bl (!decide (x = .non))) := fun H1 e Q q => ha H1 e _ q
theorem ev_meth {sp : Sp} {dvs vs : List V} {E : XK} (ha : Ev ta σ H (.ref a)) (hH : H a = some (.ins C dx fs)) (hm : fs.lookup m = none) (hA : EvA t σ H vs) (hs : SpV sp (.ref a :: (vs ++ dvs)) H z) : Ev (tMeth C m sp dvs E ta t) σ H z :=
  fun H1 e Q q => ha H1 e _ fun H2 e2 => ⟨a, dx, fs, rfl, e2 _ _ (e _ _ hH), hm, hA H2 (e.trans e2) _ fun H3 e3 => hs H3 ((e.trans e2).trans e3) Q (fun H4 e4 => q H4 ((e2.trans e3).trans e4)) E⟩
theorem el_meth {sp : Sp} {dvs vs xs : List V} {E : XK} (ha : Ev ta σ H (.ref a)) (hH : H a = some (.ins C dx fs)) (hm : fs.lookup m = none) (hA : EvA t σ H vs) (hs : SpL sp (.ref a :: (vs ++ dvs)) H xs) : EvL (tMeth C m sp dvs E ta t) σ H xs :=
  fun H1 e Q q => ha H1 e _ fun H2 e2 => ⟨a, dx, fs, rfl, e2 _ _ (e _ _ hH), hm, hA H2 (e.trans e2) _ fun H3 e3 => hs H3 ((e.trans e2).trans e3) Q (fun p H4 hp e4 h4 => q p H4 (fresh_back (e2.trans e3) hp) ((e2.trans e3).trans e4) h4) E⟩
/-- a call that changes things -/
theorem go_meth {sp : Sp} {dvs vs : List V} {E : XK} {Q : VK} (ha : Ev ta σ H (.ref a)) (hH : H a = some (.ins C dx fs)) (hm : fs.lookup m = none) (hA : EvA t σ H vs) (k : ∀ H1, Ex H H1 → sp (.ref a :: (vs ++ dvs)) H1 Q E) : tMeth C m sp dvs E ta t σ H Q :=
  ha H (Ex.refl H) _ fun H2 e2 => ⟨a, dx, fs, rfl, e2 _ _ hH, hm, hA H2 e2 _ fun H3 e3 => k H3 (e2.trans e3)⟩
theorem s_fldset (hv : Ev tv σ H v) (ha : Ev ta σ H (.ref a)) (hH : H a = some (.ins C dx fs)) (c : Cls K C) (n : NoAttr K C f) (hl : fs.length < 1000) (k : ∀ H1, Ex H H1 → D.nx σ (upd H1 a (.ins C dx (putF f v fs)))) : sFld K ta tv f D σ H :=
  hv H (Ex.refl H) _ fun H1 e1 => ha H1 e1 _ fun H2 e2 => ⟨a, C, dx, fs, rfl, e2 _ _ (e1 _ _ hH), c, n, hl, k H2 (e1.trans e2)⟩
theorem q_fldset (hv : Ev tv σ H v) (ha : Ev ta σ H (.ref a)) (hH : H a = some (.ins C dx fs)) (c : Cls K C) (n : NoAttr K C f) (hl : fs.length < 1000) (k : ∀ H1, Ex H H1 → tz D σ (upd H1 a (.ins C dx (putF f v fs)))) : tSeq (sFld K ta tv f) tz D σ H :=
  s_fldset (D := { D with nx := tz D }) hv ha hH c n hl k
theorem s_fldadd {i j : Int} (ha : Ev ta σ H (.ref a)) (hH : H a = some (.ins C dx fs)) (c : Cls K C) (n : NoAttr K C f) (l : fs.lookup f = some (.int i)) (hv : Ev tv σ H (.int j)) (hl : fs.length < 1000)
    (k : ∀ H1, Ex H H1 → D.nx σ (upd H1 a (.ins C dx (putF f (.int (i + j)) fs)))) : sFldAug K ta tv L2.rAdd f D σ H :=
  ha H (Ex.refl H) _ fun H1 e1 => ⟨a, C, dx, fs, _, rfl, e1 _ _ hH, c, n, l, hv H1 e1 _ fun H2 e2 => ⟨i, j, rfl, rfl, dx, fs, e2 _ _ (e1 _ _ hH), hl, k H2 (e1.trans e2)⟩⟩
theorem s_fldsub {i j : Int} (ha : Ev ta σ H (.ref a)) (hH : H a = some (.ins C dx fs)) (c : Cls K C) (n : NoAttr K C f) (l : fs.lookup f = some (.int i)) (hv : Ev tv σ H (.int j)) (hl : fs.length < 1000)
    (k : ∀ H1, Ex H H1 → D.nx σ (upd H1 a (.ins C dx (putF f (.int (i - j)) fs)))) : sFldAug K ta tv L2.rSub f D σ H :=
  ha H (Ex.refl H) _ fun H1 e1 => ⟨a, C, dx, fs, _, rfl, e1 _ _ hH, c, n, l, hv H1 e1 _ fun H2 e2 => ⟨i, j, rfl, rfl, dx, fs, e2 _ _ (e1 _ _ hH), hl, k H2 (e1.trans e2)⟩⟩
end
/-! ### attributes by their names -/
theorem lk_here {f : Str} {x : V} {fs : List (Str × V)} : ((f, x) :: fs).lookup f = some x := by
  rw [List.lookup_cons, beq_self_eq_true]
theorem lk_past {f g : Str} {x : V} {fs : List (Str × V)} (ne : ¬ f = g) : ((g, x) :: fs).lookup f = fs.lookup f := by
  rw [List.lookup_cons, beq_eq_false_iff_ne.mpr ne]
theorem lk_zip {f : Str} {v : V} : ∀ {ns : List Str} {vs : List V} {i : Nat}, ns.Nodup → ns[i]? = some f → vs[i]? = some v → (ns.zip vs).lookup f = some v
  | [], _, _, _, h, _ => by simp at h
  | _ :: _, [], _, _, _, h => by simp at h
  | g :: ns, w :: vs, 0, _, h, h2 => by
    obtain rfl : g = f := Option.some.inj h
    obtain rfl : w = v := Option.some.inj h2
    exact lk_here
  | g :: ns, w :: vs, i + 1, nd, h, h2 => by
    have h' : ns[i]? = some f := h
    have h2' : vs[i]? = some v := h2
    have ne : ¬ f = g := fun e => (List.nodup_cons.mp nd).1 (by rw [← e]; exact List.mem_of_getElem? h')
    exact (lk_past ne).trans (lk_zip (List.nodup_cons.mp nd).2 h' h2')
theorem lk_zip_none {f : Str} : ∀ {ns : List Str} {vs : List V}, f ∉ ns → (ns.zip vs).lookup f = none
  | [], _, _ => rfl
  | _ :: _, [], _ => rfl
  | g :: ns, w :: vs, h => (lk_past (fun e => h (by rw [e]; exact List.mem_cons_self))).trans (lk_zip_none fun m => h (List.mem_cons_of_mem _ m))
theorem put_zip {f : Str} {v : V} : ∀ {ns : List Str} {vs : List V} {i : Nat}, ns.Nodup → ns[i]? = some f → putF f v (ns.zip vs) = if i < vs.length then ns.zip (vs.set i v) else putF f v (ns.zip vs)
  | [], _, _, _, h => by simp at h
  | _ :: _, [], _, _, _ => by simp
  | g :: ns, w :: vs, 0, _, h => by
    obtain rfl : g = f := Option.some.inj h
    exact if_pos rfl
  | g :: ns, w :: vs, i + 1, nd, h => by
    have h' : ns[i]? = some f := h
    have ne : ¬ g = f := fun e => (List.nodup_cons.mp nd).1 (by rw [e]; exact List.mem_of_getElem? h')
    have ih := put_zip (v := v) (vs := vs) (List.nodup_cons.mp nd).2 h'
    by_cases hi : i < vs.length
    · rw [if_pos hi] at ih
      rw [if_pos (by simp only [List.length_cons]; omega)]
      exact (if_neg ne).trans (congrArg (fun r => (g, w) :: r) ih)
    · rw [if_neg (by simp only [List.length_cons]; omega)]
theorem put_new {f : Str} {v : V} : ∀ {fs : List (Str × V)}, f ∉ fs.map (·.1) → putF f v fs = fs ++ [(f, v)]
  | [], _ => rfl
  | (g, x) :: r, h => by
    have ne : ¬ g = f := fun e => h (by rw [← e]; exact List.mem_cons_self)
    exact (if_neg ne).trans (congrArg (fun q => (g, x) :: q) (put_new fun m => h (List.mem_cons_of_mem _ m)))
def sN : List Str := ["number", "ring", "group", "least", "gap", "most", "yellow", "red", "walk", "clearance", "mode", "colour", "time", "gap_rest", "waited", "let_go", "car_kept", "button_kept"]
def sV (k : Nat) (p : Strm) (d : Dy) : List V := [V.int ((k : Nat) : Nat), V.int (p.ring : Nat), V.int (p.group : Nat), V.int (p.least : Nat), V.int (p.gap : Nat), V.int (p.most : Nat), V.int (p.yellow : Nat), V.int (p.red : Nat), V.int (p.walk : Nat), V.int (p.clear : Nat), V.int (p.mode : Nat), V.int (d.col : Nat), V.int (d.time : Nat), V.int (d.rest : Nat), V.int (d.waited : Nat), V.bl d.go, V.bl d.car, V.bl d.but]
def sF (k : Nat) (p : Strm) (d : Dy) : List (Str × V) := sN.zip (sV k p d)
theorem sNd : sN.Nodup := by decide +kernel
section
variable {k : Nat} {p : Strm} {d : Dy}
theorem sl_number : (sF k p d).lookup ("number" : Str) = some (V.int ((k : Nat) : Nat)) := lk_zip sNd (i := 0) rfl rfl
theorem sl_ring : (sF k p d).lookup ("ring" : Str) = some (V.int (p.ring : Nat)) := lk_zip sNd (i := 1) rfl rfl
theorem sl_group : (sF k p d).lookup ("group" : Str) = some (V.int (p.group : Nat)) := lk_zip sNd (i := 2) rfl rfl
theorem sl_least : (sF k p d).lookup ("least" : Str) = some (V.int (p.least : Nat)) := lk_zip sNd (i := 3) rfl rfl
theorem sl_gap : (sF k p d).lookup ("gap" : Str) = some (V.int (p.gap : Nat)) := lk_zip sNd (i := 4) rfl rfl
theorem sl_most : (sF k p d).lookup ("most" : Str) = some (V.int (p.most : Nat)) := lk_zip sNd (i := 5) rfl rfl
theorem sl_yellow : (sF k p d).lookup ("yellow" : Str) = some (V.int (p.yellow : Nat)) := lk_zip sNd (i := 6) rfl rfl
theorem sl_red : (sF k p d).lookup ("red" : Str) = some (V.int (p.red : Nat)) := lk_zip sNd (i := 7) rfl rfl
theorem sl_walk : (sF k p d).lookup ("walk" : Str) = some (V.int (p.walk : Nat)) := lk_zip sNd (i := 8) rfl rfl
theorem sl_clearance : (sF k p d).lookup ("clearance" : Str) = some (V.int (p.clear : Nat)) := lk_zip sNd (i := 9) rfl rfl
theorem sl_mode : (sF k p d).lookup ("mode" : Str) = some (V.int (p.mode : Nat)) := lk_zip sNd (i := 10) rfl rfl
theorem sl_colour : (sF k p d).lookup ("colour" : Str) = some (V.int (d.col : Nat)) := lk_zip sNd (i := 11) rfl rfl
theorem sl_time : (sF k p d).lookup ("time" : Str) = some (V.int (d.time : Nat)) := lk_zip sNd (i := 12) rfl rfl
theorem sl_gap_rest : (sF k p d).lookup ("gap_rest" : Str) = some (V.int (d.rest : Nat)) := lk_zip sNd (i := 13) rfl rfl
theorem sl_waited : (sF k p d).lookup ("waited" : Str) = some (V.int (d.waited : Nat)) := lk_zip sNd (i := 14) rfl rfl
theorem sl_let_go : (sF k p d).lookup ("let_go" : Str) = some (V.bl d.go) := lk_zip sNd (i := 15) rfl rfl
theorem sl_car_kept : (sF k p d).lookup ("car_kept" : Str) = some (V.bl d.car) := lk_zip sNd (i := 16) rfl rfl
theorem sl_button_kept : (sF k p d).lookup ("button_kept" : Str) = some (V.bl d.but) := lk_zip sNd (i := 17) rfl rfl
theorem sp_colour {z : Int} {n : Nat} (e : z = (n : Int)) : putF "colour" (.int z) (sF k p d) = sF k p { d with col := n } := by
  subst e
  exact (put_zip sNd (i := 11) rfl).trans rfl
theorem sp_time {z : Int} {n : Nat} (e : z = (n : Int)) : putF "time" (.int z) (sF k p d) = sF k p { d with time := n } := by
  subst e
  exact (put_zip sNd (i := 12) rfl).trans rfl
theorem sp_gap_rest {z : Int} {n : Nat} (e : z = (n : Int)) : putF "gap_rest" (.int z) (sF k p d) = sF k p { d with rest := n } := by
  subst e
  exact (put_zip sNd (i := 13) rfl).trans rfl
theorem sp_waited {z : Int} {n : Nat} (e : z = (n : Int)) : putF "waited" (.int z) (sF k p d) = sF k p { d with waited := n } := by
  subst e
  exact (put_zip sNd (i := 14) rfl).trans rfl
theorem sp_let_go {b : Bool} : putF "let_go" (.bl b) (sF k p d) = sF k p { d with go := b } := (put_zip sNd (i := 15) rfl).trans rfl
theorem sp_car_kept {b : Bool} : putF "car_kept" (.bl b) (sF k p d) = sF k p { d with car := b } := (put_zip sNd (i := 16) rfl).trans rfl
theorem sp_button_kept {b : Bool} : putF "button_kept" (.bl b) (sF k p d) = sF k p { d with but := b } := (put_zip sNd (i := 17) rfl).trans rfl
theorem sm_is_always_called : (sF k p d).lookup ("is_always_called" : Str) = none := lk_zip_none (by decide +kernel)
theorem sm_is_till_most : (sF k p d).lookup ("is_till_most" : Str) = none := lk_zip_none (by decide +kernel)
theorem sm_keeps_cars : (sF k p d).lookup ("keeps_cars" : Str) = none := lk_zip_none (by decide +kernel)
theorem sm_is_green : (sF k p d).lookup ("is_green" : Str) = none := lk_zip_none (by decide +kernel)
theorem sm_is_yellow : (sF k p d).lookup ("is_yellow" : Str) = none := lk_zip_none (by decide +kernel)
theorem sm_is_in_colour : (sF k p d).lookup ("is_in_colour" : Str) = none := lk_zip_none (by decide +kernel)
theorem sm_people_walk : (sF k p d).lookup ("people_walk" : Str) = none := lk_zip_none (by decide +kernel)
theorem sm_people_clear : (sF k p d).lookup ("people_clear" : Str) = none := lk_zip_none (by decide +kernel)
theorem sm_people_are_done : (sF k p d).lookup ("people_are_done" : Str) = none := lk_zip_none (by decide +kernel)
theorem sm_hear : (sF k p d).lookup ("hear" : Str) = none := lk_zip_none (by decide +kernel)
theorem sm_is_called : (sF k p d).lookup ("is_called" : Str) = none := lk_zip_none (by decide +kernel)
theorem sm_run_clock : (sF k p d).lookup ("run_clock" : Str) = none := lk_zip_none (by decide +kernel)
theorem sm_run_gap : (sF k p d).lookup ("run_gap" : Str) = none := lk_zip_none (by decide +kernel)
theorem sm_end_walk : (sF k p d).lookup ("end_walk" : Str) = none := lk_zip_none (by decide +kernel)
theorem sm_may_end : (sF k p d).lookup ("may_end" : Str) = none := lk_zip_none (by decide +kernel)
theorem sm_take_colour : (sF k p d).lookup ("take_colour" : Str) = none := lk_zip_none (by decide +kernel)
theorem sm_become_green : (sF k p d).lookup ("become_green" : Str) = none := lk_zip_none (by decide +kernel)
theorem sm_end_yellow_and_clearing : (sF k p d).lookup ("end_yellow_and_clearing" : Str) = none := lk_zip_none (by decide +kernel)
theorem s_len : (sF k p d).length < 1000 := by show 18 < 1000; decide
end
def xN : List Str := ["streams", "group", "latest"]
def xF (ls : V) (g : Nat) (ll : V) : List (Str × V) := xN.zip [ls, V.int (g : Nat), ll]
theorem xNd : xN.Nodup := by decide +kernel
section
variable {ls ll cr f lc : V} {g cars people : Nat}
theorem xl_streams : (xF ls g ll).lookup ("streams" : Str) = some (ls) := lk_zip xNd (i := 0) rfl rfl
theorem xl_group : (xF ls g ll).lookup ("group" : Str) = some (V.int (g : Nat)) := lk_zip xNd (i := 1) rfl rfl
theorem xl_latest : (xF ls g ll).lookup ("latest" : Str) = some (ll) := lk_zip xNd (i := 2) rfl rfl
theorem xm_begin_group : (xF ls g ll).lookup ("begin_group" : Str) = none := lk_zip_none (by decide +kernel)
theorem xm_give_green : (xF ls g ll).lookup ("give_green" : Str) = none := lk_zip_none (by decide +kernel)
theorem xm_in_colour : (xF ls g ll).lookup ("in_colour" : Str) = none := lk_zip_none (by decide +kernel)
theorem xm_is_all_red : (xF ls g ll).lookup ("is_all_red" : Str) = none := lk_zip_none (by decide +kernel)
theorem xm_greens : (xF ls g ll).lookup ("greens" : Str) = none := lk_zip_none (by decide +kernel)
theorem xm_is_stuck : (xF ls g ll).lookup ("is_stuck" : Str) = none := lk_zip_none (by decide +kernel)
theorem xm_lights : (xF ls g ll).lookup ("lights" : Str) = none := lk_zip_none (by decide +kernel)
theorem xm_remembered : (xF ls g ll).lookup ("remembered" : Str) = none := lk_zip_none (by decide +kernel)
theorem x_len : (xF ls g ll).length < 1000 := by show 3 < 1000; decide
end
def pN : List Str := ["crossing", "cars", "people", "first", "called"]
def pF (cr : V) (cars people : Nat) (f lc : V) : List (Str × V) := pN.zip [cr, V.int (cars : Nat), V.int (people : Nat), f, lc]
theorem pNd : pN.Nodup := by decide +kernel
section
variable {ls ll cr f lc : V} {g cars people : Nat}
theorem pl_crossing : (pF cr cars people f lc).lookup ("crossing" : Str) = some (cr) := lk_zip pNd (i := 0) rfl rfl
theorem pl_cars : (pF cr cars people f lc).lookup ("cars" : Str) = some (V.int (cars : Nat)) := lk_zip pNd (i := 1) rfl rfl
theorem pl_people : (pF cr cars people f lc).lookup ("people" : Str) = some (V.int (people : Nat)) := lk_zip pNd (i := 2) rfl rfl
theorem pl_first : (pF cr cars people f lc).lookup ("first" : Str) = some (f) := lk_zip pNd (i := 3) rfl rfl
theorem pl_called : (pF cr cars people f lc).lookup ("called" : Str) = some (lc) := lk_zip pNd (i := 4) rfl rfl
theorem pm_run : (pF cr cars people f lc).lookup ("run" : Str) = none := lk_zip_none (by decide +kernel)
theorem pm_has_car : (pF cr cars people f lc).lookup ("has_car" : Str) = none := lk_zip_none (by decide +kernel)
theorem pm_has_button : (pF cr cars people f lc).lookup ("has_button" : Str) = none := lk_zip_none (by decide +kernel)
theorem pm_is_first : (pF cr cars people f lc).lookup ("is_first" : Str) = none := lk_zip_none (by decide +kernel)
theorem pm_is_crossed_by_first : (pF cr cars people f lc).lookup ("is_crossed_by_first" : Str) = none := lk_zip_none (by decide +kernel)
theorem pm_hear_calls : (pF cr cars people f lc).lookup ("hear_calls" : Str) = none := lk_zip_none (by decide +kernel)
theorem pm_is_pressed : (pF cr cars people f lc).lookup ("is_pressed" : Str) = none := lk_zip_none (by decide +kernel)
theorem pm_run_clocks : (pF cr cars people f lc).lookup ("run_clocks" : Str) = none := lk_zip_none (by decide +kernel)
theorem pm_is_ready : (pF cr cars people f lc).lookup ("is_ready" : Str) = none := lk_zip_none (by decide +kernel)
theorem pm_heir : (pF cr cars people f lc).lookup ("heir" : Str) = none := lk_zip_none (by decide +kernel)
theorem pm_end_colours : (pF cr cars people f lc).lookup ("end_colours" : Str) = none := lk_zip_none (by decide +kernel)
theorem pm_begin_greens : (pF cr cars people f lc).lookup ("begin_greens" : Str) = none := lk_zip_none (by decide +kernel)
theorem pm_begin_in_ring : (pF cr cars people f lc).lookup ("begin_in_ring" : Str) = none := lk_zip_none (by decide +kernel)
theorem pm_give_green : (pF cr cars people f lc).lookup ("give_green" : Str) = none := lk_zip_none (by decide +kernel)
theorem pm_first_called : (pF cr cars people f lc).lookup ("first_called" : Str) = none := lk_zip_none (by decide +kernel)
theorem pm_next_group : (pF cr cars people f lc).lookup ("next_group" : Str) = none := lk_zip_none (by decide +kernel)
theorem pm_begin_next_group : (pF cr cars people f lc).lookup ("begin_next_group" : Str) = none := lk_zip_none (by decide +kernel)
theorem p_len : (pF cr cars people f lc).length < 1000 := by show 5 < 1000; decide
end
/-! ### the text by places -/
def top (i : Nat) : Stmt := PySem.Challenge.pw_crossgreen_s01_answers.main.body.getD i (.Pass ⟨0, 0, 0, 0⟩)
abbrev st_G_are_allowed : Stmt := top 11
abbrev st_G_of_one_ring_and_group : Stmt := top 12
abbrev st_G_cross : Stmt := top 13
abbrev st_G_bits_of : Stmt := top 14
abbrev st_S_init : Stmt := inClass (top 15) 0
abbrev st_S_is_always_called : Stmt := inClass (top 15) 1
abbrev st_S_is_till_most : Stmt := inClass (top 15) 2
abbrev st_S_keeps_cars : Stmt := inClass (top 15) 3
abbrev st_S_is_green : Stmt := inClass (top 15) 4
abbrev st_S_is_yellow : Stmt := inClass (top 15) 5
abbrev st_S_is_in_colour : Stmt := inClass (top 15) 6
abbrev st_S_people_walk : Stmt := inClass (top 15) 7
abbrev st_S_people_clear : Stmt := inClass (top 15) 8
abbrev st_S_people_are_done : Stmt := inClass (top 15) 9
abbrev st_S_hear : Stmt := inClass (top 15) 10
abbrev st_S_is_called : Stmt := inClass (top 15) 11
abbrev st_S_run_clock : Stmt := inClass (top 15) 12
abbrev st_S_run_gap : Stmt := inClass (top 15) 13
abbrev st_S_end_walk : Stmt := inClass (top 15) 14
abbrev st_S_may_end : Stmt := inClass (top 15) 15
abbrev st_S_take_colour : Stmt := inClass (top 15) 16
abbrev st_S_become_green : Stmt := inClass (top 15) 17
abbrev st_S_end_yellow_and_clearing : Stmt := inClass (top 15) 18
abbrev st_G_has_allowed_streams : Stmt := top 20
abbrev st_X_init : Stmt := inClass (top 21) 0
abbrev st_X_begin_group : Stmt := inClass (top 21) 1
abbrev st_X_give_green : Stmt := inClass (top 21) 2
abbrev st_X_in_colour : Stmt := inClass (top 21) 3
abbrev st_X_is_all_red : Stmt := inClass (top 21) 4
abbrev st_X_greens : Stmt := inClass (top 21) 5
abbrev st_X_is_stuck : Stmt := inClass (top 21) 6
abbrev st_X_lights : Stmt := inClass (top 21) 7
abbrev st_X_remembered : Stmt := inClass (top 21) 8
abbrev st_P_init : Stmt := inClass (top 23) 0
abbrev st_P_run : Stmt := inClass (top 23) 1
abbrev st_P_has_car : Stmt := inClass (top 23) 2
abbrev st_P_has_button : Stmt := inClass (top 23) 3
abbrev st_P_is_first : Stmt := inClass (top 23) 4
abbrev st_P_is_crossed_by_first : Stmt := inClass (top 23) 5
abbrev st_P_hear_calls : Stmt := inClass (top 23) 6
abbrev st_P_is_pressed : Stmt := inClass (top 23) 7
abbrev st_P_run_clocks : Stmt := inClass (top 23) 8
abbrev st_P_is_ready : Stmt := inClass (top 23) 9
abbrev st_P_heir : Stmt := inClass (top 23) 10
abbrev st_P_end_colours : Stmt := inClass (top 23) 11
abbrev st_P_begin_greens : Stmt := inClass (top 23) 12
abbrev st_P_begin_in_ring : Stmt := inClass (top 23) 13
abbrev st_P_give_green : Stmt := inClass (top 23) 14
abbrev st_P_first_called : Stmt := inClass (top 23) 15
abbrev st_P_next_group : Stmt := inClass (top 23) 16
abbrev st_P_begin_next_group : Stmt := inClass (top 23) 17
abbrev st_G_begin : Stmt := top 32
abbrev st_G_step : Stmt := top 33
abbrev st_G_calls_of : Stmt := top 34
abbrev st_G_answers : Stmt := top 35
theorem sc_G_are_allowed : FnScope ["numbers", "place", "least", "most"] ["numbers"] (defScope st_G_are_allowed) := ⟨rfl, rfl, rfl, by decide +kernel, rfl, by decide +kernel, by decide +kernel⟩
theorem sc_G_of_one_ring_and_group : FnScope ["one", "other"] ["one", "other"] (defScope st_G_of_one_ring_and_group) := ⟨rfl, rfl, rfl, by decide +kernel, rfl, by decide +kernel, by decide +kernel⟩
theorem sc_G_cross : FnScope ["one", "other"] ["one", "other"] (defScope st_G_cross) := ⟨rfl, rfl, rfl, by decide +kernel, rfl, by decide +kernel, by decide +kernel⟩
theorem sc_G_bits_of : FnScope ["streams", "bits", "stream"] ["streams"] (defScope st_G_bits_of) := ⟨rfl, rfl, rfl, by decide +kernel, rfl, by decide +kernel, by decide +kernel⟩
theorem sc_S_init : FnScope ["self", "number", "numbers"] ["self", "number", "numbers"] (defScope st_S_init) := ⟨rfl, rfl, rfl, by decide +kernel, rfl, by decide +kernel, by decide +kernel⟩
theorem sc_S_is_always_called : FnScope ["self"] ["self"] (defScope st_S_is_always_called) := ⟨rfl, rfl, rfl, by decide +kernel, rfl, by decide +kernel, by decide +kernel⟩
theorem sc_S_is_till_most : FnScope ["self"] ["self"] (defScope st_S_is_till_most) := ⟨rfl, rfl, rfl, by decide +kernel, rfl, by decide +kernel, by decide +kernel⟩
theorem sc_S_keeps_cars : FnScope ["self"] ["self"] (defScope st_S_keeps_cars) := ⟨rfl, rfl, rfl, by decide +kernel, rfl, by decide +kernel, by decide +kernel⟩
theorem sc_S_is_green : FnScope ["self"] ["self"] (defScope st_S_is_green) := ⟨rfl, rfl, rfl, by decide +kernel, rfl, by decide +kernel, by decide +kernel⟩
theorem sc_S_is_yellow : FnScope ["self"] ["self"] (defScope st_S_is_yellow) := ⟨rfl, rfl, rfl, by decide +kernel, rfl, by decide +kernel, by decide +kernel⟩
theorem sc_S_is_in_colour : FnScope ["self"] ["self"] (defScope st_S_is_in_colour) := ⟨rfl, rfl, rfl, by decide +kernel, rfl, by decide +kernel, by decide +kernel⟩
theorem sc_S_people_walk : FnScope ["self"] ["self"] (defScope st_S_people_walk) := ⟨rfl, rfl, rfl, by decide +kernel, rfl, by decide +kernel, by decide +kernel⟩
theorem sc_S_people_clear : FnScope ["self"] ["self"] (defScope st_S_people_clear) := ⟨rfl, rfl, rfl, by decide +kernel, rfl, by decide +kernel, by decide +kernel⟩
theorem sc_S_people_are_done : FnScope ["self"] ["self"] (defScope st_S_people_are_done) := ⟨rfl, rfl, rfl, by decide +kernel, rfl, by decide +kernel, by decide +kernel⟩
theorem sc_S_hear : FnScope ["self", "car", "button"] ["self", "car", "button"] (defScope st_S_hear) := ⟨rfl, rfl, rfl, by decide +kernel, rfl, by decide +kernel, by decide +kernel⟩
theorem sc_S_is_called : FnScope ["self", "car"] ["self", "car"] (defScope st_S_is_called) := ⟨rfl, rfl, rfl, by decide +kernel, rfl, by decide +kernel, by decide +kernel⟩
theorem sc_S_run_clock : FnScope ["self"] ["self"] (defScope st_S_run_clock) := ⟨rfl, rfl, rfl, by decide +kernel, rfl, by decide +kernel, by decide +kernel⟩
theorem sc_S_run_gap : FnScope ["self", "car"] ["self", "car"] (defScope st_S_run_gap) := ⟨rfl, rfl, rfl, by decide +kernel, rfl, by decide +kernel, by decide +kernel⟩
theorem sc_S_end_walk : FnScope ["self"] ["self"] (defScope st_S_end_walk) := ⟨rfl, rfl, rfl, by decide +kernel, rfl, by decide +kernel, by decide +kernel⟩
theorem sc_S_may_end : FnScope ["self"] ["self"] (defScope st_S_may_end) := ⟨rfl, rfl, rfl, by decide +kernel, rfl, by decide +kernel, by decide +kernel⟩
theorem sc_S_take_colour : FnScope ["self", "colour"] ["self", "colour"] (defScope st_S_take_colour) := ⟨rfl, rfl, rfl, by decide +kernel, rfl, by decide +kernel, by decide +kernel⟩
theorem sc_S_become_green : FnScope ["self"] ["self"] (defScope st_S_become_green) := ⟨rfl, rfl, rfl, by decide +kernel, rfl, by decide +kernel, by decide +kernel⟩
theorem sc_S_end_yellow_and_clearing : FnScope ["self"] ["self"] (defScope st_S_end_yellow_and_clearing) := ⟨rfl, rfl, rfl, by decide +kernel, rfl, by decide +kernel, by decide +kernel⟩
theorem sc_G_has_allowed_streams : FnScope ["n", "numbers", "number"] ["n", "numbers"] (defScope st_G_has_allowed_streams) := ⟨rfl, rfl, rfl, by decide +kernel, rfl, by decide +kernel, by decide +kernel⟩
theorem sc_X_init : FnScope ["self", "n", "numbers", "number"] ["self", "n", "numbers"] (defScope st_X_init) := ⟨rfl, rfl, rfl, by decide +kernel, rfl, by decide +kernel, by decide +kernel⟩
theorem sc_X_begin_group : FnScope ["self", "group"] ["self", "group"] (defScope st_X_begin_group) := ⟨rfl, rfl, rfl, by decide +kernel, rfl, by decide +kernel, by decide +kernel⟩
theorem sc_X_give_green : FnScope ["self", "stream"] ["self", "stream"] (defScope st_X_give_green) := ⟨rfl, rfl, rfl, by decide +kernel, rfl, by decide +kernel, by decide +kernel⟩
theorem sc_X_in_colour : FnScope ["self", "ring", "stream"] ["self", "ring"] (defScope st_X_in_colour) := ⟨rfl, rfl, rfl, by decide +kernel, rfl, by decide +kernel, by decide +kernel⟩
theorem sc_X_is_all_red : FnScope ["self", "ring"] ["self"] (defScope st_X_is_all_red) := ⟨rfl, rfl, rfl, by decide +kernel, rfl, by decide +kernel, by decide +kernel⟩
theorem sc_X_greens : FnScope ["self", "stream"] ["self"] (defScope st_X_greens) := ⟨rfl, rfl, rfl, by decide +kernel, rfl, by decide +kernel, by decide +kernel⟩
theorem sc_X_is_stuck : FnScope ["self", "stream", "last"] ["self", "stream"] (defScope st_X_is_stuck) := ⟨rfl, rfl, rfl, by decide +kernel, rfl, by decide +kernel, by decide +kernel⟩
theorem sc_X_lights : FnScope ["self", "stream"] ["self"] (defScope st_X_lights) := ⟨rfl, rfl, rfl, by decide +kernel, rfl, by decide +kernel, by decide +kernel⟩
theorem sc_X_remembered : FnScope ["self", "stream"] ["self"] (defScope st_X_remembered) := ⟨rfl, rfl, rfl, by decide +kernel, rfl, by decide +kernel, by decide +kernel⟩
theorem sc_P_init : FnScope ["self", "crossing", "cars", "people", "first"] ["self", "crossing", "cars", "people", "first"] (defScope st_P_init) := ⟨rfl, rfl, rfl, by decide +kernel, rfl, by decide +kernel, by decide +kernel⟩
theorem sc_P_run : FnScope ["self"] ["self"] (defScope st_P_run) := ⟨rfl, rfl, rfl, by decide +kernel, rfl, by decide +kernel, by decide +kernel⟩
theorem sc_P_has_car : FnScope ["self", "stream"] ["self", "stream"] (defScope st_P_has_car) := ⟨rfl, rfl, rfl, by decide +kernel, rfl, by decide +kernel, by decide +kernel⟩
theorem sc_P_has_button : FnScope ["self", "stream"] ["self", "stream"] (defScope st_P_has_button) := ⟨rfl, rfl, rfl, by decide +kernel, rfl, by decide +kernel, by decide +kernel⟩
theorem sc_P_is_first : FnScope ["self", "stream"] ["self", "stream"] (defScope st_P_is_first) := ⟨rfl, rfl, rfl, by decide +kernel, rfl, by decide +kernel, by decide +kernel⟩
theorem sc_P_is_crossed_by_first : FnScope ["self", "stream"] ["self", "stream"] (defScope st_P_is_crossed_by_first) := ⟨rfl, rfl, rfl, by decide +kernel, rfl, by decide +kernel, by decide +kernel⟩
theorem sc_P_hear_calls : FnScope ["self", "stream"] ["self"] (defScope st_P_hear_calls) := ⟨rfl, rfl, rfl, by decide +kernel, rfl, by decide +kernel, by decide +kernel⟩
theorem sc_P_is_pressed : FnScope ["self", "greens", "stream", "green"] ["self"] (defScope st_P_is_pressed) := ⟨rfl, rfl, rfl, by decide +kernel, rfl, by decide +kernel, by decide +kernel⟩
theorem sc_P_run_clocks : FnScope ["self", "pressed", "stream"] ["self"] (defScope st_P_run_clocks) := ⟨rfl, rfl, rfl, by decide +kernel, rfl, by decide +kernel, by decide +kernel⟩
theorem sc_P_is_ready : FnScope ["self", "stream"] ["self", "stream"] (defScope st_P_is_ready) := ⟨rfl, rfl, rfl, by decide +kernel, rfl, by decide +kernel, by decide +kernel⟩
theorem sc_P_heir : FnScope ["self", "stream", "other"] ["self", "stream"] (defScope st_P_heir) := ⟨rfl, rfl, rfl, by decide +kernel, rfl, by decide +kernel, by decide +kernel⟩
theorem sc_P_end_colours : FnScope ["self", "stream", "all_over", "ready", "has_heir"] ["self"] (defScope st_P_end_colours) := ⟨rfl, rfl, rfl, by decide +kernel, rfl, by decide +kernel, by decide +kernel⟩
theorem sc_P_begin_greens : FnScope ["self", "some_green", "ring"] ["self"] (defScope st_P_begin_greens) := ⟨rfl, rfl, rfl, by decide +kernel, rfl, by decide +kernel, by decide +kernel⟩
theorem sc_P_begin_in_ring : FnScope ["self", "ring", "some_green", "last"] ["self", "ring", "some_green"] (defScope st_P_begin_in_ring) := ⟨rfl, rfl, rfl, by decide +kernel, rfl, by decide +kernel, by decide +kernel⟩
theorem sc_P_give_green : FnScope ["self", "stream"] ["self", "stream"] (defScope st_P_give_green) := ⟨rfl, rfl, rfl, by decide +kernel, rfl, by decide +kernel, by decide +kernel⟩
theorem sc_P_first_called : FnScope ["self", "ring", "stream"] ["self", "ring"] (defScope st_P_first_called) := ⟨rfl, rfl, rfl, by decide +kernel, rfl, by decide +kernel, by decide +kernel⟩
theorem sc_P_next_group : FnScope ["self", "behind", "distance", "stream"] ["self"] (defScope st_P_next_group) := ⟨rfl, rfl, rfl, by decide +kernel, rfl, by decide +kernel, by decide +kernel⟩
theorem sc_P_begin_next_group : FnScope ["self", "ring"] ["self"] (defScope st_P_begin_next_group) := ⟨rfl, rfl, rfl, by decide +kernel, rfl, by decide +kernel, by decide +kernel⟩
theorem sc_G_begin : FnScope ["crossings", "which", "n", "streams"] ["crossings", "which", "n", "streams"] (defScope st_G_begin) := ⟨rfl, rfl, rfl, by decide +kernel, rfl, by decide +kernel, by decide +kernel⟩
theorem sc_G_step : FnScope ["crossing", "cars", "people", "first", "first_stream"] ["crossing", "cars", "people", "first"] (defScope st_G_step) := ⟨rfl, rfl, rfl, by decide +kernel, rfl, by decide +kernel, by decide +kernel⟩
theorem sc_G_calls_of : FnScope ["crossing"] ["crossing"] (defScope st_G_calls_of) := ⟨rfl, rfl, rfl, by decide +kernel, rfl, by decide +kernel, by decide +kernel⟩
theorem sc_G_answers : FnScope ["calls", "crossings", "given", "at", "which", "behind", "answer"] ["calls"] (defScope st_G_answers) := ⟨rfl, rfl, rfl, by decide +kernel, rfl, by decide +kernel, by decide +kernel⟩
/-- where the top has put what -/
structure Adr where
  CS : Addr
  CX : Addr
  CP : Addr
  f_G_are_allowed : Addr
  d_G_are_allowed : FuncData
  f_G_of_one_ring_and_group : Addr
  d_G_of_one_ring_and_group : FuncData
  f_G_cross : Addr
  d_G_cross : FuncData
  f_G_bits_of : Addr
  d_G_bits_of : FuncData
  f_S_init : Addr
  d_S_init : FuncData
  f_S_is_always_called : Addr
  d_S_is_always_called : FuncData
  f_S_is_till_most : Addr
  d_S_is_till_most : FuncData
  f_S_keeps_cars : Addr
  d_S_keeps_cars : FuncData
  f_S_is_green : Addr
  d_S_is_green : FuncData
  f_S_is_yellow : Addr
  d_S_is_yellow : FuncData
  f_S_is_in_colour : Addr
  d_S_is_in_colour : FuncData
  f_S_people_walk : Addr
  d_S_people_walk : FuncData
  f_S_people_clear : Addr
  d_S_people_clear : FuncData
  f_S_people_are_done : Addr
  d_S_people_are_done : FuncData
  f_S_hear : Addr
  d_S_hear : FuncData
  f_S_is_called : Addr
  d_S_is_called : FuncData
  f_S_run_clock : Addr
  d_S_run_clock : FuncData
  f_S_run_gap : Addr
  d_S_run_gap : FuncData
  f_S_end_walk : Addr
  d_S_end_walk : FuncData
  f_S_may_end : Addr
  d_S_may_end : FuncData
  f_S_take_colour : Addr
  d_S_take_colour : FuncData
  f_S_become_green : Addr
  d_S_become_green : FuncData
  f_S_end_yellow_and_clearing : Addr
  d_S_end_yellow_and_clearing : FuncData
  f_G_has_allowed_streams : Addr
  d_G_has_allowed_streams : FuncData
  f_X_init : Addr
  d_X_init : FuncData
  f_X_begin_group : Addr
  d_X_begin_group : FuncData
  f_X_give_green : Addr
  d_X_give_green : FuncData
  f_X_in_colour : Addr
  d_X_in_colour : FuncData
  f_X_is_all_red : Addr
  d_X_is_all_red : FuncData
  f_X_greens : Addr
  d_X_greens : FuncData
  f_X_is_stuck : Addr
  d_X_is_stuck : FuncData
  f_X_lights : Addr
  d_X_lights : FuncData
  f_X_remembered : Addr
  d_X_remembered : FuncData
  f_P_init : Addr
  d_P_init : FuncData
  f_P_run : Addr
  d_P_run : FuncData
  f_P_has_car : Addr
  d_P_has_car : FuncData
  f_P_has_button : Addr
  d_P_has_button : FuncData
  f_P_is_first : Addr
  d_P_is_first : FuncData
  f_P_is_crossed_by_first : Addr
  d_P_is_crossed_by_first : FuncData
  f_P_hear_calls : Addr
  d_P_hear_calls : FuncData
  f_P_is_pressed : Addr
  d_P_is_pressed : FuncData
  f_P_run_clocks : Addr
  d_P_run_clocks : FuncData
  f_P_is_ready : Addr
  d_P_is_ready : FuncData
  f_P_heir : Addr
  d_P_heir : FuncData
  f_P_end_colours : Addr
  d_P_end_colours : FuncData
  f_P_begin_greens : Addr
  d_P_begin_greens : FuncData
  f_P_begin_in_ring : Addr
  d_P_begin_in_ring : FuncData
  f_P_give_green : Addr
  d_P_give_green : FuncData
  f_P_first_called : Addr
  d_P_first_called : FuncData
  f_P_next_group : Addr
  d_P_next_group : FuncData
  f_P_begin_next_group : Addr
  d_P_begin_next_group : FuncData
  f_G_begin : Addr
  d_G_begin : FuncData
  f_G_step : Addr
  d_G_step : FuncData
  f_G_calls_of : Addr
  d_G_calls_of : FuncData
  f_G_answers : Addr
  d_G_answers : FuncData
  t_RED : Tok
  t_GREEN : Tok
  t_YELLOW : Tok
  t_CLEARING : Tok
  t_ALWAYS_CALLED : Tok
  t_TILL_MOST : Tok
  t_KEEPS_CARS : Tok
  a_LOWEST : Addr
  a_HIGHEST : Addr
  t_NUMBERS : Tok
  t_RINGS : Tok
  t_GROUPS : Tok
  t_MOST_STREAMS : Tok
  t_BEGIN : Tok
  t_STEP : Tok
  t_CROSSINGS : Tok
  t_NO_FIRST : Tok
  t_DONE : Tok
  t_NOT_ALLOWED : Tok
  t_NOT_BEGUN : Tok
/-- what the top has written -/
structure Txt (K : PySem.W.Frag) (mg : Str → Option Value) (A : Adr) : Prop where
  cS : Cls K A.CS
  g_CS : mg "Stream" = some (.ref A.CS)
  K_S : Mk K A.CS A.f_S_init
  nS_number : NoAttr K A.CS "number"
  nS_ring : NoAttr K A.CS "ring"
  nS_group : NoAttr K A.CS "group"
  nS_least : NoAttr K A.CS "least"
  nS_gap : NoAttr K A.CS "gap"
  nS_most : NoAttr K A.CS "most"
  nS_yellow : NoAttr K A.CS "yellow"
  nS_red : NoAttr K A.CS "red"
  nS_walk : NoAttr K A.CS "walk"
  nS_clearance : NoAttr K A.CS "clearance"
  nS_mode : NoAttr K A.CS "mode"
  nS_colour : NoAttr K A.CS "colour"
  nS_time : NoAttr K A.CS "time"
  nS_gap_rest : NoAttr K A.CS "gap_rest"
  nS_waited : NoAttr K A.CS "waited"
  nS_let_go : NoAttr K A.CS "let_go"
  nS_car_kept : NoAttr K A.CS "car_kept"
  nS_button_kept : NoAttr K A.CS "button_kept"
  cX : Cls K A.CX
  g_CX : mg "Crossing" = some (.ref A.CX)
  K_X : Mk K A.CX A.f_X_init
  nX_streams : NoAttr K A.CX "streams"
  nX_group : NoAttr K A.CX "group"
  nX_latest : NoAttr K A.CX "latest"
  cP : Cls K A.CP
  g_CP : mg "Step" = some (.ref A.CP)
  K_P : Mk K A.CP A.f_P_init
  nP_crossing : NoAttr K A.CP "crossing"
  nP_cars : NoAttr K A.CP "cars"
  nP_people : NoAttr K A.CP "people"
  nP_first : NoAttr K A.CP "first"
  nP_called : NoAttr K A.CP "called"
  F_G_are_allowed : Fun K "are_allowed" "are_allowed" st_G_are_allowed A.f_G_are_allowed A.d_G_are_allowed
  B_G_are_allowed : Binds K A.d_G_are_allowed ["numbers"] []
  g_G_are_allowed : mg "are_allowed" = some (.ref A.f_G_are_allowed)
  F_G_of_one_ring_and_group : Fun K "of_one_ring_and_group" "of_one_ring_and_group" st_G_of_one_ring_and_group A.f_G_of_one_ring_and_group A.d_G_of_one_ring_and_group
  B_G_of_one_ring_and_group : Binds K A.d_G_of_one_ring_and_group ["one", "other"] []
  g_G_of_one_ring_and_group : mg "of_one_ring_and_group" = some (.ref A.f_G_of_one_ring_and_group)
  F_G_cross : Fun K "cross" "cross" st_G_cross A.f_G_cross A.d_G_cross
  B_G_cross : Binds K A.d_G_cross ["one", "other"] []
  g_G_cross : mg "cross" = some (.ref A.f_G_cross)
  F_G_bits_of : Fun K "bits_of" "bits_of" st_G_bits_of A.f_G_bits_of A.d_G_bits_of
  B_G_bits_of : Binds K A.d_G_bits_of ["streams"] []
  g_G_bits_of : mg "bits_of" = some (.ref A.f_G_bits_of)
  F_S_init : Fun K "__init__" "Stream.__init__" st_S_init A.f_S_init A.d_S_init
  B_S_init : Binds K A.d_S_init ["self", "number", "numbers"] []
  F_S_is_always_called : Fun K "is_always_called" "Stream.is_always_called" st_S_is_always_called A.f_S_is_always_called A.d_S_is_always_called
  B_S_is_always_called : Binds K A.d_S_is_always_called ["self"] []
  M_S_is_always_called : Meth K A.CS "is_always_called" A.f_S_is_always_called
  F_S_is_till_most : Fun K "is_till_most" "Stream.is_till_most" st_S_is_till_most A.f_S_is_till_most A.d_S_is_till_most
  B_S_is_till_most : Binds K A.d_S_is_till_most ["self"] []
  M_S_is_till_most : Meth K A.CS "is_till_most" A.f_S_is_till_most
  F_S_keeps_cars : Fun K "keeps_cars" "Stream.keeps_cars" st_S_keeps_cars A.f_S_keeps_cars A.d_S_keeps_cars
  B_S_keeps_cars : Binds K A.d_S_keeps_cars ["self"] []
  M_S_keeps_cars : Meth K A.CS "keeps_cars" A.f_S_keeps_cars
  F_S_is_green : Fun K "is_green" "Stream.is_green" st_S_is_green A.f_S_is_green A.d_S_is_green
  B_S_is_green : Binds K A.d_S_is_green ["self"] []
  M_S_is_green : Meth K A.CS "is_green" A.f_S_is_green
  F_S_is_yellow : Fun K "is_yellow" "Stream.is_yellow" st_S_is_yellow A.f_S_is_yellow A.d_S_is_yellow
  B_S_is_yellow : Binds K A.d_S_is_yellow ["self"] []
  M_S_is_yellow : Meth K A.CS "is_yellow" A.f_S_is_yellow
  F_S_is_in_colour : Fun K "is_in_colour" "Stream.is_in_colour" st_S_is_in_colour A.f_S_is_in_colour A.d_S_is_in_colour
  B_S_is_in_colour : Binds K A.d_S_is_in_colour ["self"] []
  M_S_is_in_colour : Meth K A.CS "is_in_colour" A.f_S_is_in_colour
  F_S_people_walk : Fun K "people_walk" "Stream.people_walk" st_S_people_walk A.f_S_people_walk A.d_S_people_walk
  B_S_people_walk : Binds K A.d_S_people_walk ["self"] []
  M_S_people_walk : Meth K A.CS "people_walk" A.f_S_people_walk
  F_S_people_clear : Fun K "people_clear" "Stream.people_clear" st_S_people_clear A.f_S_people_clear A.d_S_people_clear
  B_S_people_clear : Binds K A.d_S_people_clear ["self"] []
  M_S_people_clear : Meth K A.CS "people_clear" A.f_S_people_clear
  F_S_people_are_done : Fun K "people_are_done" "Stream.people_are_done" st_S_people_are_done A.f_S_people_are_done A.d_S_people_are_done
  B_S_people_are_done : Binds K A.d_S_people_are_done ["self"] []
  M_S_people_are_done : Meth K A.CS "people_are_done" A.f_S_people_are_done
  F_S_hear : Fun K "hear" "Stream.hear" st_S_hear A.f_S_hear A.d_S_hear
  B_S_hear : Binds K A.d_S_hear ["self", "car", "button"] []
  M_S_hear : Meth K A.CS "hear" A.f_S_hear
  F_S_is_called : Fun K "is_called" "Stream.is_called" st_S_is_called A.f_S_is_called A.d_S_is_called
  B_S_is_called : Binds K A.d_S_is_called ["self", "car"] []
  M_S_is_called : Meth K A.CS "is_called" A.f_S_is_called
  F_S_run_clock : Fun K "run_clock" "Stream.run_clock" st_S_run_clock A.f_S_run_clock A.d_S_run_clock
  B_S_run_clock : Binds K A.d_S_run_clock ["self"] []
  M_S_run_clock : Meth K A.CS "run_clock" A.f_S_run_clock
  F_S_run_gap : Fun K "run_gap" "Stream.run_gap" st_S_run_gap A.f_S_run_gap A.d_S_run_gap
  B_S_run_gap : Binds K A.d_S_run_gap ["self", "car"] []
  M_S_run_gap : Meth K A.CS "run_gap" A.f_S_run_gap
  F_S_end_walk : Fun K "end_walk" "Stream.end_walk" st_S_end_walk A.f_S_end_walk A.d_S_end_walk
  B_S_end_walk : Binds K A.d_S_end_walk ["self"] []
  M_S_end_walk : Meth K A.CS "end_walk" A.f_S_end_walk
  F_S_may_end : Fun K "may_end" "Stream.may_end" st_S_may_end A.f_S_may_end A.d_S_may_end
  B_S_may_end : Binds K A.d_S_may_end ["self"] []
  M_S_may_end : Meth K A.CS "may_end" A.f_S_may_end
  F_S_take_colour : Fun K "take_colour" "Stream.take_colour" st_S_take_colour A.f_S_take_colour A.d_S_take_colour
  B_S_take_colour : Binds K A.d_S_take_colour ["self", "colour"] []
  M_S_take_colour : Meth K A.CS "take_colour" A.f_S_take_colour
  F_S_become_green : Fun K "become_green" "Stream.become_green" st_S_become_green A.f_S_become_green A.d_S_become_green
  B_S_become_green : Binds K A.d_S_become_green ["self"] []
  M_S_become_green : Meth K A.CS "become_green" A.f_S_become_green
  F_S_end_yellow_and_clearing : Fun K "end_yellow_and_clearing" "Stream.end_yellow_and_clearing" st_S_end_yellow_and_clearing A.f_S_end_yellow_and_clearing A.d_S_end_yellow_and_clearing
  B_S_end_yellow_and_clearing : Binds K A.d_S_end_yellow_and_clearing ["self"] []
  M_S_end_yellow_and_clearing : Meth K A.CS "end_yellow_and_clearing" A.f_S_end_yellow_and_clearing
  F_G_has_allowed_streams : Fun K "has_allowed_streams" "has_allowed_streams" st_G_has_allowed_streams A.f_G_has_allowed_streams A.d_G_has_allowed_streams
  B_G_has_allowed_streams : Binds K A.d_G_has_allowed_streams ["n", "numbers"] []
  g_G_has_allowed_streams : mg "has_allowed_streams" = some (.ref A.f_G_has_allowed_streams)
  F_X_init : Fun K "__init__" "Crossing.__init__" st_X_init A.f_X_init A.d_X_init
  B_X_init : Binds K A.d_X_init ["self", "n", "numbers"] []
  F_X_begin_group : Fun K "begin_group" "Crossing.begin_group" st_X_begin_group A.f_X_begin_group A.d_X_begin_group
  B_X_begin_group : Binds K A.d_X_begin_group ["self", "group"] []
  M_X_begin_group : Meth K A.CX "begin_group" A.f_X_begin_group
  F_X_give_green : Fun K "give_green" "Crossing.give_green" st_X_give_green A.f_X_give_green A.d_X_give_green
  B_X_give_green : Binds K A.d_X_give_green ["self", "stream"] []
  M_X_give_green : Meth K A.CX "give_green" A.f_X_give_green
  F_X_in_colour : Fun K "in_colour" "Crossing.in_colour" st_X_in_colour A.f_X_in_colour A.d_X_in_colour
  B_X_in_colour : Binds K A.d_X_in_colour ["self", "ring"] []
  M_X_in_colour : Meth K A.CX "in_colour" A.f_X_in_colour
  F_X_is_all_red : Fun K "is_all_red" "Crossing.is_all_red" st_X_is_all_red A.f_X_is_all_red A.d_X_is_all_red
  B_X_is_all_red : Binds K A.d_X_is_all_red ["self"] []
  M_X_is_all_red : Meth K A.CX "is_all_red" A.f_X_is_all_red
  F_X_greens : Fun K "greens" "Crossing.greens" st_X_greens A.f_X_greens A.d_X_greens
  B_X_greens : Binds K A.d_X_greens ["self"] []
  M_X_greens : Meth K A.CX "greens" A.f_X_greens
  F_X_is_stuck : Fun K "is_stuck" "Crossing.is_stuck" st_X_is_stuck A.f_X_is_stuck A.d_X_is_stuck
  B_X_is_stuck : Binds K A.d_X_is_stuck ["self", "stream"] []
  M_X_is_stuck : Meth K A.CX "is_stuck" A.f_X_is_stuck
  F_X_lights : Fun K "lights" "Crossing.lights" st_X_lights A.f_X_lights A.d_X_lights
  B_X_lights : Binds K A.d_X_lights ["self"] []
  M_X_lights : Meth K A.CX "lights" A.f_X_lights
  F_X_remembered : Fun K "remembered" "Crossing.remembered" st_X_remembered A.f_X_remembered A.d_X_remembered
  B_X_remembered : Binds K A.d_X_remembered ["self"] []
  M_X_remembered : Meth K A.CX "remembered" A.f_X_remembered
  F_P_init : Fun K "__init__" "Step.__init__" st_P_init A.f_P_init A.d_P_init
  B_P_init : Binds K A.d_P_init ["self", "crossing", "cars", "people", "first"] []
  F_P_run : Fun K "run" "Step.run" st_P_run A.f_P_run A.d_P_run
  B_P_run : Binds K A.d_P_run ["self"] []
  M_P_run : Meth K A.CP "run" A.f_P_run
  F_P_has_car : Fun K "has_car" "Step.has_car" st_P_has_car A.f_P_has_car A.d_P_has_car
  B_P_has_car : Binds K A.d_P_has_car ["self", "stream"] []
  M_P_has_car : Meth K A.CP "has_car" A.f_P_has_car
  F_P_has_button : Fun K "has_button" "Step.has_button" st_P_has_button A.f_P_has_button A.d_P_has_button
  B_P_has_button : Binds K A.d_P_has_button ["self", "stream"] []
  M_P_has_button : Meth K A.CP "has_button" A.f_P_has_button
  F_P_is_first : Fun K "is_first" "Step.is_first" st_P_is_first A.f_P_is_first A.d_P_is_first
  B_P_is_first : Binds K A.d_P_is_first ["self", "stream"] []
  M_P_is_first : Meth K A.CP "is_first" A.f_P_is_first
  F_P_is_crossed_by_first : Fun K "is_crossed_by_first" "Step.is_crossed_by_first" st_P_is_crossed_by_first A.f_P_is_crossed_by_first A.d_P_is_crossed_by_first
  B_P_is_crossed_by_first : Binds K A.d_P_is_crossed_by_first ["self", "stream"] []
  M_P_is_crossed_by_first : Meth K A.CP "is_crossed_by_first" A.f_P_is_crossed_by_first
  F_P_hear_calls : Fun K "hear_calls" "Step.hear_calls" st_P_hear_calls A.f_P_hear_calls A.d_P_hear_calls
  B_P_hear_calls : Binds K A.d_P_hear_calls ["self"] []
  M_P_hear_calls : Meth K A.CP "hear_calls" A.f_P_hear_calls
  F_P_is_pressed : Fun K "is_pressed" "Step.is_pressed" st_P_is_pressed A.f_P_is_pressed A.d_P_is_pressed
  B_P_is_pressed : Binds K A.d_P_is_pressed ["self"] []
  M_P_is_pressed : Meth K A.CP "is_pressed" A.f_P_is_pressed
  F_P_run_clocks : Fun K "run_clocks" "Step.run_clocks" st_P_run_clocks A.f_P_run_clocks A.d_P_run_clocks
  B_P_run_clocks : Binds K A.d_P_run_clocks ["self"] []
  M_P_run_clocks : Meth K A.CP "run_clocks" A.f_P_run_clocks
  F_P_is_ready : Fun K "is_ready" "Step.is_ready" st_P_is_ready A.f_P_is_ready A.d_P_is_ready
  B_P_is_ready : Binds K A.d_P_is_ready ["self", "stream"] []
  M_P_is_ready : Meth K A.CP "is_ready" A.f_P_is_ready
  F_P_heir : Fun K "heir" "Step.heir" st_P_heir A.f_P_heir A.d_P_heir
  B_P_heir : Binds K A.d_P_heir ["self", "stream"] []
  M_P_heir : Meth K A.CP "heir" A.f_P_heir
  F_P_end_colours : Fun K "end_colours" "Step.end_colours" st_P_end_colours A.f_P_end_colours A.d_P_end_colours
  B_P_end_colours : Binds K A.d_P_end_colours ["self"] []
  M_P_end_colours : Meth K A.CP "end_colours" A.f_P_end_colours
  F_P_begin_greens : Fun K "begin_greens" "Step.begin_greens" st_P_begin_greens A.f_P_begin_greens A.d_P_begin_greens
  B_P_begin_greens : Binds K A.d_P_begin_greens ["self"] []
  M_P_begin_greens : Meth K A.CP "begin_greens" A.f_P_begin_greens
  F_P_begin_in_ring : Fun K "begin_in_ring" "Step.begin_in_ring" st_P_begin_in_ring A.f_P_begin_in_ring A.d_P_begin_in_ring
  B_P_begin_in_ring : Binds K A.d_P_begin_in_ring ["self", "ring", "some_green"] []
  M_P_begin_in_ring : Meth K A.CP "begin_in_ring" A.f_P_begin_in_ring
  F_P_give_green : Fun K "give_green" "Step.give_green" st_P_give_green A.f_P_give_green A.d_P_give_green
  B_P_give_green : Binds K A.d_P_give_green ["self", "stream"] []
  M_P_give_green : Meth K A.CP "give_green" A.f_P_give_green
  F_P_first_called : Fun K "first_called" "Step.first_called" st_P_first_called A.f_P_first_called A.d_P_first_called
  B_P_first_called : Binds K A.d_P_first_called ["self", "ring"] []
  M_P_first_called : Meth K A.CP "first_called" A.f_P_first_called
  F_P_next_group : Fun K "next_group" "Step.next_group" st_P_next_group A.f_P_next_group A.d_P_next_group
  B_P_next_group : Binds K A.d_P_next_group ["self"] []
  M_P_next_group : Meth K A.CP "next_group" A.f_P_next_group
  F_P_begin_next_group : Fun K "begin_next_group" "Step.begin_next_group" st_P_begin_next_group A.f_P_begin_next_group A.d_P_begin_next_group
  B_P_begin_next_group : Binds K A.d_P_begin_next_group ["self"] []
  M_P_begin_next_group : Meth K A.CP "begin_next_group" A.f_P_begin_next_group
  F_G_begin : Fun K "begin" "begin" st_G_begin A.f_G_begin A.d_G_begin
  B_G_begin : Binds K A.d_G_begin ["crossings", "which", "n", "streams"] []
  g_G_begin : mg "begin" = some (.ref A.f_G_begin)
  F_G_step : Fun K "step" "step" st_G_step A.f_G_step A.d_G_step
  B_G_step : Binds K A.d_G_step ["crossing", "cars", "people", "first"] []
  g_G_step : mg "step" = some (.ref A.f_G_step)
  F_G_calls_of : Fun K "calls_of" "calls_of" st_G_calls_of A.f_G_calls_of A.d_G_calls_of
  B_G_calls_of : Binds K A.d_G_calls_of ["crossing"] []
  g_G_calls_of : mg "calls_of" = some (.ref A.f_G_calls_of)
  F_G_answers : Fun K "answers" "answers" st_G_answers A.f_G_answers A.d_G_answers
  B_G_answers : Binds K A.d_G_answers ["calls"] []
  g_G_answers : mg "answers" = some (.ref A.f_G_answers)
  g_RED : mg "RED" = some (.int (0) A.t_RED)
  g_GREEN : mg "GREEN" = some (.int (1) A.t_GREEN)
  g_YELLOW : mg "YELLOW" = some (.int (2) A.t_YELLOW)
  g_CLEARING : mg "CLEARING" = some (.int (3) A.t_CLEARING)
  g_ALWAYS_CALLED : mg "ALWAYS_CALLED" = some (.int (1) A.t_ALWAYS_CALLED)
  g_TILL_MOST : mg "TILL_MOST" = some (.int (2) A.t_TILL_MOST)
  g_KEEPS_CARS : mg "KEEPS_CARS" = some (.int (4) A.t_KEEPS_CARS)
  g_LOWEST : mg "LOWEST" = some (.ref A.a_LOWEST)
  w_LOWEST : ∀ H : Hp, SqT K H A.a_LOWEST [.int 0, .int 0, .int 1, .int 0, .int 1, .int 1, .int 0, .int 0, .int 0, .int 0]
  g_HIGHEST : mg "HIGHEST" = some (.ref A.a_HIGHEST)
  w_HIGHEST : ∀ H : Hp, SqT K H A.a_HIGHEST [.int 3, .int 7, .int 6000, .int 6000, .int 36000, .int 1000, .int 1000, .int 6000, .int 6000, .int 7]
  g_NUMBERS : mg "NUMBERS" = some (.int (10) A.t_NUMBERS)
  g_RINGS : mg "RINGS" = some (.int (4) A.t_RINGS)
  g_GROUPS : mg "GROUPS" = some (.int (8) A.t_GROUPS)
  g_MOST_STREAMS : mg "MOST_STREAMS" = some (.int (16) A.t_MOST_STREAMS)
  g_BEGIN : mg "BEGIN" = some (.int (0) A.t_BEGIN)
  g_STEP : mg "STEP" = some (.int (1) A.t_STEP)
  g_CROSSINGS : mg "CROSSINGS" = some (.int (2) A.t_CROSSINGS)
  g_NO_FIRST : mg "NO_FIRST" = some (.int (-1) A.t_NO_FIRST)
  g_DONE : mg "DONE" = some (.int (0) A.t_DONE)
  g_NOT_ALLOWED : mg "NOT_ALLOWED" = some (.int (-2) A.t_NOT_ALLOWED)
  g_NOT_BEGUN : mg "NOT_BEGUN" = some (.int (-9) A.t_NOT_BEGUN)
  g_len : mg "len" = none
  g_range : mg "range" = none
  g_min : mg "min" = none
end Xg

namespace Xg
open PySem PySem.Spec PyProof.Rows L2 Evl
open PySem.W (Codec)
section
variable {P : Program} {w : World} {K : PySem.W.Frag} {mg : Str → Option Value} {base : Heap} {A : Adr}
/-! ### a stream in the heap -/
/-- what a stream must be -/
structure Rt (p : Strm) : Prop where
  ring : p.ring < 4
  group : p.group < 8
  mode : p.mode < 8
def StAt (C : Addr) (H : Hp) (a : Addr) (k : Nat) (p : Strm) (d : Dy) : Prop := ∃ dx, H a = some (.ins C dx (sF k p d))
/-- all but a stands as it was -/
def Fr1 (a : Addr) (H H' : Hp) : Prop := ∀ b o, H b = some o → b ≠ a → H' b = some o
theorem Fr1.of_ex {a : Addr} {H H' : Hp} (e : Ex H H') : Fr1 a H H' := fun b o h _ => e b o h
theorem Fr1.trans {a : Addr} {H H1 H2 : Hp} (x : Fr1 a H H1) (y : Fr1 a H1 H2) : Fr1 a H H2 := fun b o h n => y b o (x b o h n) n
theorem StAt.ex {C : Addr} {H H' : Hp} {a : Addr} {k : Nat} {p : Strm} {d : Dy} (h : StAt C H a k p d) (e : Ex H H') : StAt C H' a k p d := by
  obtain ⟨dx, h⟩ := h
  exact ⟨dx, e _ _ h⟩
/-- a def that reads a stream and tells yes or no -/
def spB (C : Addr) (g : Strm → Dy → Bool) : Sp := fun vs H Q _ => ∃ a k p d, vs = [.ref a] ∧ StAt C H a k p d ∧ Rt p ∧ RetV (.bl (g p d)) H Q
def spB1 (C : Addr) (g : Strm → Dy → Bool → Bool) : Sp := fun vs H Q _ => ∃ a k p d c, vs = [.ref a, .bl c] ∧ StAt C H a k p d ∧ Rt p ∧ RetV (.bl (g p d c)) H Q
/-- a def that changes a stream -/
def spM (C : Addr) (g : Strm → Dy → Dy) : Sp := fun vs H Q _ => ∃ a k p d, vs = [.ref a] ∧ StAt C H a k p d ∧ Rt p ∧ ∀ H', StAt C H' a k p (g p d) → Fr1 a H H' → Q .non H'
def spM1 (C : Addr) (g : Strm → Dy → Bool → Dy) : Sp := fun vs H Q _ => ∃ a k p d c, vs = [.ref a, .bl c] ∧ StAt C H a k p d ∧ Rt p ∧ ∀ H', StAt C H' a k p (g p d c) → Fr1 a H H' → Q .non H'
def spM2 (C : Addr) (g : Strm → Dy → Bool → Bool → Dy) : Sp := fun vs H Q _ => ∃ a k p d c b, vs = [.ref a, .bl c, .bl b] ∧ StAt C H a k p d ∧ Rt p ∧ ∀ H', StAt C H' a k p (g p d c b) → Fr1 a H H' → Q .non H'
def spTake (C : Addr) : Sp := fun vs H Q _ => ∃ a k p d, ∃ c : Nat, vs = [.ref a, .int (c : Int)] ∧ StAt C H a k p d ∧ Rt p ∧ ∀ H', StAt C H' a k p (takeC c d) → Fr1 a H H' → Q .non H'
/-- keeps_cars: called ahead of the stream's being whole, too -/
def spKeeps (C : Addr) : Sp := fun vs H Q _ => ∃ a dx fs, ∃ m : Nat, vs = [.ref a] ∧ H a = some (.ins C dx fs) ∧ fs.lookup ("mode" : Str) = some (.int (m : Int)) ∧ m < 8 ∧ RetV (.bl (m.testBit 2)) H Q
section
variable {σ : L2.St} {H : Hp} {ta tb te tv : TE} {x y v z : V} {D : Ends} {t : TA} {f m : Str} {a C dx : Addr} {tz : TS} {k : Nat} {p : Strm} {d d' : Dy}
theorem spB_v {g : Strm → Dy → Bool} (h : StAt C H a k p d) (hp : Rt p) : SpV (spB C g) [.ref a] H (.bl (g p d)) := fun H1 e Q q E => ⟨a, k, p, d, rfl, h.ex e, hp, q⟩
theorem spB1_v {g : Strm → Dy → Bool → Bool} {c : Bool} (h : StAt C H a k p d) (hp : Rt p) : SpV (spB1 C g) [.ref a, .bl c] H (.bl (g p d c)) := fun H1 e Q q E => ⟨a, k, p, d, c, rfl, h.ex e, hp, q⟩
theorem spKeeps_v (h : StAt C H a k p d) (hp : Rt p) : SpV (spKeeps C) [.ref a] H (.bl p.remembers) := fun H1 e Q q E => by
  obtain ⟨dx, h⟩ := h
  exact ⟨a, dx, _, p.mode, rfl, e _ _ h, sl_mode, hp.mode, q⟩
theorem ev_fS (ha : Ev ta σ H (.ref a)) (h : StAt C H a k p d) (c : Cls K C) (n : NoAttr K C f) (l : (sF k p d).lookup f = some v) : Ev (tFld K ta f) σ H v := by
  obtain ⟨dx, h⟩ := h
  exact ev_fld ha h c n l
theorem ev_mS {sp : Sp} {dvs vs : List V} {E : XK} (ha : Ev ta σ H (.ref a)) (h : StAt C H a k p d) (hm : (sF k p d).lookup m = none) (hA : EvA t σ H vs) (hs : SpV sp (.ref a :: (vs ++ dvs)) H z) : Ev (tMeth C m sp dvs E ta t) σ H z := by
  obtain ⟨dx, h⟩ := h
  exact ev_meth ha h hm hA hs
theorem s_mS {sp : Sp} {dvs vs : List V} {E : XK} (ha : Ev ta σ H (.ref a)) (h : StAt C H a k p d) (hm : (sF k p d).lookup m = none) (hA : EvA t σ H vs) (kk : ∀ H1, Ex H H1 → sp (.ref a :: (vs ++ dvs)) H1 (fun _ H2 => D.nx σ H2) E) : tDrop (tMeth C m sp dvs E ta t) D σ H := by
  obtain ⟨dx, h⟩ := h
  exact go_meth ha h hm hA kk
theorem q_mS {sp : Sp} {dvs vs : List V} {E : XK} (ha : Ev ta σ H (.ref a)) (h : StAt C H a k p d) (hm : (sF k p d).lookup m = none) (hA : EvA t σ H vs) (kk : ∀ H1, Ex H H1 → sp (.ref a :: (vs ++ dvs)) H1 (fun _ H2 => tz D σ H2) E) : tSeq (tDrop (tMeth C m sp dvs E ta t)) tz D σ H := by
  obtain ⟨dx, h⟩ := h
  exact go_meth ha h hm hA kk
theorem s_put (hv : Ev tv σ H v) (ha : Ev ta σ H (.ref a)) (h : StAt C H a k p d) (c : Cls K C) (n : NoAttr K C f) (e : putF f v (sF k p d) = sF k p d') (kk : ∀ H', StAt C H' a k p d' → Fr1 a H H' → D.nx σ H') : sFld K ta tv f D σ H := by
  obtain ⟨dx, h⟩ := h
  exact s_fldset hv ha h c n s_len fun H1 e1 => kk _ ⟨dx, by rw [upd_same, e]⟩ fun b o hb ne => by
    rw [upd_ne ne]
    exact e1 _ _ hb
theorem q_put (hv : Ev tv σ H v) (ha : Ev ta σ H (.ref a)) (h : StAt C H a k p d) (c : Cls K C) (n : NoAttr K C f) (e : putF f v (sF k p d) = sF k p d') (kk : ∀ H', StAt C H' a k p d' → Fr1 a H H' → tz D σ H') : tSeq (sFld K ta tv f) tz D σ H :=
  s_put (D := { D with nx := tz D }) hv ha h c n e kk
theorem s_inc {i j : Int} (ha : Ev ta σ H (.ref a)) (h : StAt C H a k p d) (c : Cls K C) (n : NoAttr K C f) (l : (sF k p d).lookup f = some (.int i)) (hv : Ev tv σ H (.int j)) (e : putF f (.int (i + j)) (sF k p d) = sF k p d')
    (kk : ∀ H', StAt C H' a k p d' → Fr1 a H H' → D.nx σ H') : sFldAug K ta tv L2.rAdd f D σ H := by
  obtain ⟨dx, h⟩ := h
  exact s_fldadd ha h c n l hv s_len fun H1 e1 => kk _ ⟨dx, by rw [upd_same, e]⟩ fun b o hb ne => by
    rw [upd_ne ne]
    exact e1 _ _ hb
theorem s_dec {i j : Int} (ha : Ev ta σ H (.ref a)) (h : StAt C H a k p d) (c : Cls K C) (n : NoAttr K C f) (l : (sF k p d).lookup f = some (.int i)) (hv : Ev tv σ H (.int j)) (e : putF f (.int (i - j)) (sF k p d) = sF k p d')
    (kk : ∀ H', StAt C H' a k p d' → Fr1 a H H' → D.nx σ H') : sFldAug K ta tv L2.rSub f D σ H := by
  obtain ⟨dx, h⟩ := h
  exact s_fldsub ha h c n l hv s_len fun H1 e1 => kk _ ⟨dx, by rw [upd_same, e]⟩ fun b o hb ne => by
    rw [upd_ne ne]
    exact e1 _ _ hb
end
/-! ### its defs -/
theorem m_keeps : ∀ m : Nat, m < 8 → (!decide (Builtin.bitAnd (m : Int) 4 = 0)) = m.testBit 2 := by decide +kernel
theorem m_till : ∀ m : Nat, m < 8 → (!decide (Builtin.bitAnd (m : Int) 2 = 0)) = m.testBit 1 := by decide +kernel
theorem m_always : ∀ m : Nat, m < 8 → (!decide (Builtin.bitAnd (m : Int) (Builtin.bitOr 1 2) = 0)) = (m.testBit 0 || m.testBit 1) := by decide +kernel
theorem ok_S_is_always_called (T : Txt K mg A) : FnOk P w K mg base CX0 1 A.f_S_is_always_called A.d_S_is_always_called ["self"] (spB A.CS fun p _ => p.always) := by
  refine T.F_S_is_always_called.ok sc_S_is_always_called (fun vs H Q E h => ?_) (fun cdv Ar outer s H vs Q E hr h => ?_)
  · obtain ⟨a, k, p, d, rfl, _⟩ := h
    rfl
  · obtain ⟨a, k, p, d, rfl, h, hp, q⟩ := h
    refine ⟨_, (pss_one (ps_ret (pe_cmp (pc_neI (pe_op op_and (pe_fld (pv 0) rfl) (pe_op op_or (pe_glob (v := .int (1)) rfl T.g_ALWAYS_CALLED ⟨_, rfl⟩) (pe_glob (v := .int (2)) rfl T.g_TILL_MOST ⟨_, rfl⟩))) pe_int)))), ?_⟩
    exact s_ret (ev_is (ev_cmp (ev_op (ev_fS (ev_var (i := 0) rfl) h T.cS T.nS_mode sl_mode) (ev_op ev_c ev_c rv_I0) rv_I0) ev_c) (congrArg V.bl (m_always _ hp.mode))) q
theorem ok_S_is_till_most (T : Txt K mg A) : FnOk P w K mg base CX0 1 A.f_S_is_till_most A.d_S_is_till_most ["self"] (spB A.CS fun p _ => p.tillMost) := by
  refine T.F_S_is_till_most.ok sc_S_is_till_most (fun vs H Q E h => ?_) (fun cdv Ar outer s H vs Q E hr h => ?_)
  · obtain ⟨a, k, p, d, rfl, _⟩ := h
    rfl
  · obtain ⟨a, k, p, d, rfl, h, hp, q⟩ := h
    refine ⟨_, (pss_one (ps_ret (pe_cmp (pc_neI (pe_op op_and (pe_fld (pv 0) rfl) (pe_glob (v := .int (2)) rfl T.g_TILL_MOST ⟨_, rfl⟩)) pe_int)))), ?_⟩
    exact s_ret (ev_is (ev_cmp (ev_op (ev_fS (ev_var (i := 0) rfl) h T.cS T.nS_mode sl_mode) ev_c rv_I0) ev_c) (congrArg V.bl (m_till _ hp.mode))) q
theorem ok_S_keeps_cars (T : Txt K mg A) : FnOk P w K mg base CX0 1 A.f_S_keeps_cars A.d_S_keeps_cars ["self"] (spKeeps A.CS) := by
  refine T.F_S_keeps_cars.ok sc_S_keeps_cars (fun vs H Q E h => ?_) (fun cdv Ar outer s H vs Q E hr h => ?_)
  · obtain ⟨a, dx, fs, m, rfl, _⟩ := h
    rfl
  · obtain ⟨a, dx, fs, m, rfl, h, hl, hm, q⟩ := h
    refine ⟨_, (pss_one (ps_ret (pe_cmp (pc_neI (pe_op op_and (pe_fld (pv 0) rfl) (pe_glob (v := .int (4)) rfl T.g_KEEPS_CARS ⟨_, rfl⟩)) pe_int)))), ?_⟩
    exact s_ret (ev_is (ev_cmp (ev_op (ev_fld (ev_var rfl) h T.cS T.nS_mode hl) ev_c rv_I0) ev_c) (congrArg V.bl (m_keeps _ hm))) q
theorem ok_S_is_green (T : Txt K mg A) : FnOk P w K mg base CX0 1 A.f_S_is_green A.d_S_is_green ["self"] (spB A.CS fun _ d => grn d) := by
  refine T.F_S_is_green.ok sc_S_is_green (fun vs H Q E h => ?_) (fun cdv Ar outer s H vs Q E hr h => ?_)
  · obtain ⟨a, k, p, d, rfl, _⟩ := h
    rfl
  · obtain ⟨a, k, p, d, rfl, h, hp, q⟩ := h
    refine ⟨_, (pss_one (ps_ret (pe_cmp (pc_eqI (pe_fld (pv 0) rfl) (pe_glob (v := .int (1)) rfl T.g_GREEN ⟨_, rfl⟩))))), ?_⟩
    exact s_ret (ev_eqN (j := 1) (ev_fS (ev_var (i := 0) rfl) h T.cS T.nS_colour sl_colour) ev_c) q
theorem ok_S_is_yellow (T : Txt K mg A) : FnOk P w K mg base CX0 1 A.f_S_is_yellow A.d_S_is_yellow ["self"] (spB A.CS fun _ d => ylw d) := by
  refine T.F_S_is_yellow.ok sc_S_is_yellow (fun vs H Q E h => ?_) (fun cdv Ar outer s H vs Q E hr h => ?_)
  · obtain ⟨a, k, p, d, rfl, _⟩ := h
    rfl
  · obtain ⟨a, k, p, d, rfl, h, hp, q⟩ := h
    refine ⟨_, (pss_one (ps_ret (pe_cmp (pc_eqI (pe_fld (pv 0) rfl) (pe_glob (v := .int (2)) rfl T.g_YELLOW ⟨_, rfl⟩))))), ?_⟩
    exact s_ret (ev_eqN (j := 2) (ev_fS (ev_var (i := 0) rfl) h T.cS T.nS_colour sl_colour) ev_c) q
theorem ok_S_is_in_colour (T : Txt K mg A) : FnOk P w K mg base CX0 1 A.f_S_is_in_colour A.d_S_is_in_colour ["self"] (spB A.CS fun _ d => inc d) := by
  refine T.F_S_is_in_colour.ok sc_S_is_in_colour (fun vs H Q E h => ?_) (fun cdv Ar outer s H vs Q E hr h => ?_)
  · obtain ⟨a, k, p, d, rfl, _⟩ := h
    rfl
  · obtain ⟨a, k, p, d, rfl, h, hp, q⟩ := h
    refine ⟨_, (pss_one (ps_ret (pe_cmp (pc_neI (pe_fld (pv 0) rfl) (pe_glob (v := .int (0)) rfl T.g_RED ⟨_, rfl⟩))))), ?_⟩
    exact s_ret (ev_neN (j := 0) (ev_fS (ev_var (i := 0) rfl) h T.cS T.nS_colour sl_colour) ev_c) q
theorem ok_S_people_walk (T : Txt K mg A) : FnOk P w K mg base CX0 2 A.f_S_people_walk A.d_S_people_walk ["self"] (spB A.CS walks) := by
  refine T.F_S_people_walk.ok sc_S_people_walk (fun vs H Q E h => ?_) (fun cdv Ar outer s H vs Q E hr h => ?_)
  · obtain ⟨a, k, p, d, rfl, _⟩ := h
    rfl
  · obtain ⟨a, k, p, d, rfl, h, hp, q⟩ := h
    refine ⟨_, (pss_one (ps_ret (pe_and (pe_meth0 (pv 0) T.cS T.M_S_is_green (ok_S_is_green T) (hr.mono (by decide)) T.B_S_is_green .nil pass0) (pe_and (pe_fld (pv 0) rfl) (pe_one (pe_cmp (pc_lt (pe_fld (pv 0) rfl) (pe_fld (pv 0) rfl)))))))), ?_⟩
    exact s_ret (ev_andV (ev_mS (ev_var (i := 0) rfl) h sm_is_green ea_nil (spB_v h hp)) fun _ => ev_andV (ev_fS (ev_var (i := 0) rfl) h T.cS T.nS_let_go sl_let_go) fun _ => ev_ltN (ev_fS (ev_var (i := 0) rfl) h T.cS T.nS_time sl_time) (ev_fS (ev_var (i := 0) rfl) h T.cS T.nS_walk sl_walk)) q
theorem ok_S_people_clear (T : Txt K mg A) : FnOk P w K mg base CX0 2 A.f_S_people_clear A.d_S_people_clear ["self"] (spB A.CS clears) := by
  refine T.F_S_people_clear.ok sc_S_people_clear (fun vs H Q E h => ?_) (fun cdv Ar outer s H vs Q E hr h => ?_)
  · obtain ⟨a, k, p, d, rfl, _⟩ := h
    rfl
  · obtain ⟨a, k, p, d, rfl, h, hp, q⟩ := h
    refine ⟨_, (pss_cons (ps_if (PW.pt (pw_or (pt_not (pt_val (pe_meth0 (pv 0) T.cS T.M_S_is_green (ok_S_is_green T) (hr.mono (by decide)) T.B_S_is_green .nil pass0))) (pw_or1 (pt_not (pt_val (pe_fld (pv 0) rfl)))))) (pss_one (ps_ret pe_bl)) pss_nil)
      (pss_one (ps_ret (pe_and (pe_cmp (pc_le (pe_fld (pv 0) rfl) (pe_fld (pv 0) rfl))) (pe_one (pe_cmp (pc_lt (pe_fld (pv 0) rfl) (pe_op op_add (pe_fld (pv 0) rfl) (pe_fld (pv 0) rfl))))))))), ?_⟩
    refine q_when (et_or (et_not (et_B (ev_mS (ev_var (i := 0) rfl) h sm_is_green ea_nil (spB_v h hp)))) fun _ => et_not (et_B (ev_fS (ev_var (i := 0) rfl) h T.cS T.nS_let_go sl_let_go))) (fun hb H1 e1 => ?_) fun hb H1 e1 => ?_
    · have e : clears p d = false := if_pos hb
      rw [e] at q
      exact s_ret ev_c fun H2 e2 => q H2 (e1.trans e2)
    · have e : clears p d = (decide (p.walk ≤ d.time) && decide (d.time < p.walk + p.clear)) := if_neg (by rw [hb]; decide)
      rw [e] at q
      have h1 := h.ex e1
      exact s_ret (ev_andV (ev_leN (ev_fS (ev_var (i := 0) rfl) h1 T.cS T.nS_walk sl_walk) (ev_fS (ev_var (i := 0) rfl) h1 T.cS T.nS_time sl_time)) fun _ => ev_ltN (j := p.walk + p.clear) (ev_fS (ev_var (i := 0) rfl) h1 T.cS T.nS_time sl_time) (ev_op (ev_fS (ev_var (i := 0) rfl) h1 T.cS T.nS_walk sl_walk) (ev_fS (ev_var (i := 0) rfl) h1 T.cS T.nS_clearance sl_clearance) rv_I0)) fun H2 e2 => q H2 (e1.trans e2)
theorem ok_S_people_are_done (T : Txt K mg A) : FnOk P w K mg base CX0 3 A.f_S_people_are_done A.d_S_people_are_done ["self"] (spB A.CS done) := by
  refine T.F_S_people_are_done.ok sc_S_people_are_done (fun vs H Q E h => ?_) (fun cdv Ar outer s H vs Q E hr h => ?_)
  · obtain ⟨a, k, p, d, rfl, _⟩ := h
    rfl
  · obtain ⟨a, k, p, d, rfl, h, hp, q⟩ := h
    refine ⟨_, (pss_one (ps_ret (pe_and (pe_not (pe_meth0 (pv 0) T.cS T.M_S_people_walk (ok_S_people_walk T) (hr.mono (by decide)) T.B_S_people_walk .nil pass0)) (pe_one (pe_not (pe_meth0 (pv 0) T.cS T.M_S_people_clear (ok_S_people_clear T) (hr.mono (by decide)) T.B_S_people_clear .nil pass0)))))), ?_⟩
    exact s_ret (ev_andV (ev_notV (ev_mS (ev_var (i := 0) rfl) h sm_people_walk ea_nil (spB_v h hp))) fun _ => ev_notV (ev_mS (ev_var (i := 0) rfl) h sm_people_clear ea_nil (spB_v h hp))) q
theorem ok_S_hear (T : Txt K mg A) : FnOk P w K mg base CX0 3 A.f_S_hear A.d_S_hear ["self", "car", "button"] (spM2 A.CS hear) := by
  refine T.F_S_hear.ok sc_S_hear (fun vs H Q E h => ?_) (fun cdv Ar outer s H vs Q E hr h => ?_)
  · obtain ⟨a, k, p, d, c, b, rfl, _⟩ := h
    rfl
  · obtain ⟨a, k, p, d, c, b, rfl, h, hp, q⟩ := h
    refine ⟨_, (pss_cut (ps_if (PW.pt (pw_and (pt_val (pv 2)) (pw_and (pt_cmp (pc_gt (pe_fld (pv 0) rfl) pe_int)) (pw_and1 (pt_not (pt_val (pe_meth0 (pv 0) T.cS T.M_S_people_walk (ok_S_people_walk T) (hr.mono (by decide)) T.B_S_people_walk .nil pass0))))))) (pss_one (ps_fld (pv 0) pe_bl rfl)) pss_nil)
      (pss_one (ps_if (PW.pt (pw_and (pt_val (pv 1)) (pw_and (pt_val (pe_meth0 (pv 0) T.cS T.M_S_keeps_cars (ok_S_keeps_cars T) (hr.mono (by decide)) T.B_S_keeps_cars .nil pass0)) (pw_and1 (pt_not (pt_val (pe_meth0 (pv 0) T.cS T.M_S_is_green (ok_S_is_green T) (hr.mono (by decide)) T.B_S_is_green .nil pass0))))))) (pss_one (ps_fld (pv 0) pe_bl rfl)) pss_nil))), ?_⟩
    refine q_cut (M := fun σ' H' => σ' = [some (.ref a), some (.bl c), some (.bl b)] ∧ StAt A.CS H' a k p (hear1 p d b) ∧ Fr1 a H H') ?_ ?_
    · refine s_when (et_and (et_B (ev_var (i := 2) rfl)) fun _ => et_and (et_B (ev_gtN (j := 0) (ev_fS (ev_var (i := 0) rfl) h T.cS T.nS_walk sl_walk) ev_c)) fun _ => et_not (et_B (ev_mS (ev_var (i := 0) rfl) h sm_people_walk ea_nil (spB_v h hp)))) (fun hb H1 e1 => ?_) fun hb H1 e1 => ?_
      · have e : hear1 p d b = { d with but := true } := if_pos hb
        rw [e]
        exact s_put ev_c (ev_var rfl) (h.ex e1) T.cS T.nS_button_kept sp_button_kept fun H2 h2 f2 => ⟨rfl, h2, (Fr1.of_ex e1).trans f2⟩
      · have e : hear1 p d b = d := if_neg (by rw [hb]; decide)
        rw [e]
        exact ⟨rfl, h.ex e1, Fr1.of_ex e1⟩
    · rintro σ' H' ⟨rfl, h1, f1⟩
      have hg : grn (hear1 p d b) = grn d := by
        unfold hear1
        split <;> rfl
      refine s_when (et_and (et_B (ev_var (i := 1) rfl)) fun _ => et_and (et_B (ev_mS (ev_var (i := 0) rfl) h1 sm_keeps_cars ea_nil (spKeeps_v h1 hp))) fun _ => et_not (et_B (ev_mS (ev_var (i := 0) rfl) h1 sm_is_green ea_nil (spB_v h1 hp)))) (fun hb H1 e1 => ?_) fun hb H1 e1 => ?_
      · have e : hear p d c b = { hear1 p d b with car := true } := if_pos hb
        rw [e] at q
        exact s_put ev_c (ev_var rfl) (h1.ex e1) T.cS T.nS_car_kept sp_car_kept fun H2 h2 f2 => q H2 h2 (f1.trans ((Fr1.of_ex e1).trans f2))
      · have e : hear p d c b = hear1 p d b := if_neg (by rw [hb]; decide)
        rw [e] at q
        exact q _ (h1.ex e1) (f1.trans (Fr1.of_ex e1))
theorem ok_S_is_called (T : Txt K mg A) : FnOk P w K mg base CX0 2 A.f_S_is_called A.d_S_is_called ["self", "car"] (spB1 A.CS isCalled) := by
  refine T.F_S_is_called.ok sc_S_is_called (fun vs H Q E h => ?_) (fun cdv Ar outer s H vs Q E hr h => ?_)
  · obtain ⟨a, k, p, d, c, rfl, _⟩ := h
    rfl
  · obtain ⟨a, k, p, d, c, rfl, h, hp, q⟩ := h
    refine ⟨_, (pss_cons (ps_if (PW.pt (pw_or (pt_val (pe_meth0 (pv 0) T.cS T.M_S_is_always_called (ok_S_is_always_called T) (hr.mono (by decide)) T.B_S_is_always_called .nil pass0)) (pw_or (pt_val (pe_fld (pv 0) rfl)) (pw_or1 (pt_val (pe_fld (pv 0) rfl)))))) (pss_one (ps_ret pe_bl)) pss_nil)
      (pss_one (ps_ret (pe_and (pv 1) (pe_one (pe_not (pe_meth0 (pv 0) T.cS T.M_S_is_green (ok_S_is_green T) (hr.mono (by decide)) T.B_S_is_green .nil pass0))))))), ?_⟩
    refine q_when (et_or (et_B (ev_mS (ev_var (i := 0) rfl) h sm_is_always_called ea_nil (spB_v h hp))) fun _ => et_or (et_B (ev_fS (ev_var (i := 0) rfl) h T.cS T.nS_car_kept sl_car_kept)) fun _ => et_B (ev_fS (ev_var (i := 0) rfl) h T.cS T.nS_button_kept sl_button_kept)) (fun hb H1 e1 => ?_) fun hb H1 e1 => ?_
    · have e : isCalled p d c = true := if_pos hb
      rw [e] at q
      exact s_ret ev_c fun H2 e2 => q H2 (e1.trans e2)
    · have e : isCalled p d c = (c && !grn d) := if_neg (by rw [hb]; decide)
      rw [e] at q
      have h1 := h.ex e1
      exact s_ret (ev_andV (ev_var (i := 1) rfl) fun _ => ev_notV (ev_mS (ev_var (i := 0) rfl) h1 sm_is_green ea_nil (spB_v h1 hp))) fun H2 e2 => q H2 (e1.trans e2)
theorem ok_S_run_clock (T : Txt K mg A) : FnOk P w K mg base CX0 2 A.f_S_run_clock A.d_S_run_clock ["self"] (spM A.CS fun _ d => tick d) := by
  refine T.F_S_run_clock.ok sc_S_run_clock (fun vs H Q E h => ?_) (fun cdv Ar outer s H vs Q E hr h => ?_)
  · obtain ⟨a, k, p, d, rfl, _⟩ := h
    rfl
  · obtain ⟨a, k, p, d, rfl, h, hp, q⟩ := h
    replace q : ∀ H', StAt A.CS H' a k p (tick d) → Fr1 a H H' → Q .non H' := q
    refine ⟨_, (pss_one (ps_if (pt_val (pe_meth0 (pv 0) T.cS T.M_S_is_in_colour (ok_S_is_in_colour T) (hr.mono (by decide)) T.B_S_is_in_colour .nil pass0)) (pss_one (ps_fldaug (pv 0) pe_int in_add)) pss_nil)), ?_⟩
    refine s_when (et_B (ev_mS (ev_var (i := 0) rfl) h sm_is_in_colour ea_nil (spB_v h hp))) (fun hb H1 e1 => ?_) fun hb H1 e1 => ?_
    · have e : tick d = { d with time := d.time + 1 } := if_pos hb
      rw [e] at q
      exact s_inc (ev_var rfl) (h.ex e1) T.cS T.nS_time sl_time ev_c (sp_time rfl) fun H2 h2 f2 => q H2 h2 ((Fr1.of_ex e1).trans f2)
    · have e : tick d = d := if_neg (by rw [hb]; decide)
      rw [e] at q
      exact q _ (h.ex e1) (Fr1.of_ex e1)
theorem ok_S_run_gap (T : Txt K mg A) : FnOk P w K mg base CX0 1 A.f_S_run_gap A.d_S_run_gap ["self", "car"] (spM1 A.CS gapR) := by
  refine T.F_S_run_gap.ok sc_S_run_gap (fun vs H Q E h => ?_) (fun cdv Ar outer s H vs Q E hr h => ?_)
  · obtain ⟨a, k, p, d, c, rfl, _⟩ := h
    rfl
  · obtain ⟨a, k, p, d, c, rfl, h, hp, q⟩ := h
    refine ⟨_, (pss_one (ps_if (pt_val (pv 1)) (pss_one (ps_fld (pv 0) (pe_fld (pv 0) rfl) rfl)) (pss_one (ps_if (pt_cmp (pc_gt (pe_fld (pv 0) rfl) pe_int)) (pss_one (ps_fldaug (pv 0) pe_int in_sub)) pss_nil)))), ?_⟩
    refine s_if (et_B (ev_var (i := 1) rfl)) (fun hb H1 e1 => ?_) fun hb H1 e1 => ?_
    · have e : gapR p d c = { d with rest := p.gap } := if_pos hb
      rw [e] at q
      exact s_put (ev_fS (ev_var (i := 0) rfl) (h.ex e1) T.cS T.nS_gap sl_gap) (ev_var rfl) (h.ex e1) T.cS T.nS_gap_rest (sp_gap_rest rfl) fun H2 h2 f2 => q H2 h2 ((Fr1.of_ex e1).trans f2)
    · have e : gapR p d c = if 0 < d.rest then { d with rest := d.rest - 1 } else d := if_neg (by rw [hb]; decide)
      rw [e] at q
      have h1 := h.ex e1
      refine s_when (et_B (ev_gtN (j := 0) (ev_fS (ev_var (i := 0) rfl) h1 T.cS T.nS_gap_rest sl_gap_rest) ev_c)) (fun hb2 H2 e2 => ?_) fun hb2 H2 e2 => ?_
      · have hr2 : 0 < d.rest := of_decide_eq_true hb2
        rw [if_pos hr2] at q
        refine s_dec (ev_var rfl) (h1.ex e2) T.cS T.nS_gap_rest sl_gap_rest ev_c (sp_gap_rest (n := d.rest - 1) (by omega)) fun H3 h3 f3 => q H3 h3 ((Fr1.of_ex (e1.trans e2)).trans f3)
      · rw [if_neg (of_decide_eq_false hb2)] at q
        exact q _ (h1.ex e2) (Fr1.of_ex (e1.trans e2))
theorem ok_S_end_walk (T : Txt K mg A) : FnOk P w K mg base CX0 3 A.f_S_end_walk A.d_S_end_walk ["self"] (spM A.CS endW) := by
  refine T.F_S_end_walk.ok sc_S_end_walk (fun vs H Q E h => ?_) (fun cdv Ar outer s H vs Q E hr h => ?_)
  · obtain ⟨a, k, p, d, rfl, _⟩ := h
    rfl
  · obtain ⟨a, k, p, d, rfl, h, hp, q⟩ := h
    refine ⟨_, (pss_one (ps_if (pt_val (pe_meth0 (pv 0) T.cS T.M_S_people_walk (ok_S_people_walk T) (hr.mono (by decide)) T.B_S_people_walk .nil pass0)) (pss_one (ps_fld (pv 0) (pe_fld (pv 0) rfl) rfl)) pss_nil)), ?_⟩
    refine s_when (et_B (ev_mS (ev_var (i := 0) rfl) h sm_people_walk ea_nil (spB_v h hp))) (fun hb H1 e1 => ?_) fun hb H1 e1 => ?_
    · have e : endW p d = { d with time := p.walk } := if_pos hb
      rw [e] at q
      have h1 := h.ex e1
      exact s_put (ev_fS (ev_var (i := 0) rfl) h1 T.cS T.nS_walk sl_walk) (ev_var rfl) h1 T.cS T.nS_time (sp_time rfl) fun H2 h2 f2 => q H2 h2 ((Fr1.of_ex e1).trans f2)
    · have e : endW p d = d := if_neg (by rw [hb]; decide)
      rw [e] at q
      exact q _ (h.ex e1) (Fr1.of_ex e1)
theorem ok_S_may_end (T : Txt K mg A) : FnOk P w K mg base CX0 4 A.f_S_may_end A.d_S_may_end ["self"] (spB A.CS mayEnd) := by
  refine T.F_S_may_end.ok sc_S_may_end (fun vs H Q E h => ?_) (fun cdv Ar outer s H vs Q E hr h => ?_)
  · obtain ⟨a, k, p, d, rfl, _⟩ := h
    rfl
  · obtain ⟨a, k, p, d, rfl, h, hp, q⟩ := h
    refine ⟨_, (pss_cons (ps_if (PW.pt (pw_or (pt_cmp (pc_lt (pe_fld (pv 0) rfl) (pe_fld (pv 0) rfl))) (pw_or1 (pt_not (pt_val (pe_meth0 (pv 0) T.cS T.M_S_people_are_done (ok_S_people_are_done T) (hr.mono (by decide)) T.B_S_people_are_done .nil pass0)))))) (pss_one (ps_ret pe_bl)) pss_nil)
      (pss_cons (ps_if (pt_cmp (pc_ge (pe_fld (pv 0) rfl) (pe_fld (pv 0) rfl))) (pss_one (ps_ret pe_bl)) pss_nil)
      (pss_one (ps_ret (pe_and (pe_cmp (pc_eqI (pe_fld (pv 0) rfl) pe_int)) (pe_one (pe_not (pe_meth0 (pv 0) T.cS T.M_S_is_till_most (ok_S_is_till_most T) (hr.mono (by decide)) T.B_S_is_till_most .nil pass0)))))))), ?_⟩
    refine q_when (et_or (et_B (ev_ltN (ev_fS (ev_var (i := 0) rfl) h T.cS T.nS_time sl_time) (ev_fS (ev_var (i := 0) rfl) h T.cS T.nS_least sl_least))) fun _ => et_not (et_B (ev_mS (ev_var (i := 0) rfl) h sm_people_are_done ea_nil (spB_v h hp)))) (fun hb H1 e1 => ?_) fun hb H1 e1 => ?_
    · have e : mayEnd p d = false := if_pos hb
      rw [e] at q
      exact s_ret ev_c fun H2 e2 => q H2 (e1.trans e2)
    · have e : mayEnd p d = if p.most ≤ d.waited then true else (decide (d.rest = 0) && !p.tillMost) := if_neg (by rw [hb]; decide)
      rw [e] at q
      have h1 := h.ex e1
      refine q_when (et_B (ev_geN (ev_fS (ev_var (i := 0) rfl) h1 T.cS T.nS_waited sl_waited) (ev_fS (ev_var (i := 0) rfl) h1 T.cS T.nS_most sl_most))) (fun hb2 H2 e2 => ?_) fun hb2 H2 e2 => ?_
      · rw [if_pos (of_decide_eq_true hb2)] at q
        exact s_ret ev_c fun H3 e3 => q H3 ((e1.trans e2).trans e3)
      · rw [if_neg (of_decide_eq_false hb2)] at q
        have h2 := h1.ex e2
        exact s_ret (ev_andV (ev_eqN (j := 0) (ev_fS (ev_var (i := 0) rfl) h2 T.cS T.nS_gap_rest sl_gap_rest) ev_c) fun _ => ev_notV (ev_mS (ev_var (i := 0) rfl) h2 sm_is_till_most ea_nil (spB_v h2 hp))) fun H3 e3 => q H3 ((e1.trans e2).trans e3)
theorem ok_S_take_colour (T : Txt K mg A) : FnOk P w K mg base CX0 1 A.f_S_take_colour A.d_S_take_colour ["self", "colour"] (spTake A.CS) := by
  refine T.F_S_take_colour.ok sc_S_take_colour (fun vs H Q E h => ?_) (fun cdv Ar outer s H vs Q E hr h => ?_)
  · obtain ⟨a, k, p, d, c, rfl, _⟩ := h
    rfl
  · obtain ⟨a, k, p, d, c, rfl, h, hp, q⟩ := h
    refine ⟨_, (pss_cons (ps_fld (pv 0) (pv 1) rfl)
      (pss_one (ps_fld (pv 0) pe_int rfl))), ?_⟩
    refine q_put (ev_var (i := 1) rfl) (ev_var rfl) h T.cS T.nS_colour (sp_colour (n := c) rfl) fun H1 h1 f1 => ?_
    exact s_put ev_c (ev_var rfl) h1 T.cS T.nS_time (sp_time (n := 0) rfl) fun H2 h2 f2 => q H2 h2 (f1.trans f2)
theorem ok_S_become_green (T : Txt K mg A) : FnOk P w K mg base CX0 2 A.f_S_become_green A.d_S_become_green ["self"] (spM A.CS becomeG) := by
  refine T.F_S_become_green.ok sc_S_become_green (fun vs H Q E h => ?_) (fun cdv Ar outer s H vs Q E hr h => ?_)
  · obtain ⟨a, k, p, d, rfl, _⟩ := h
    rfl
  · obtain ⟨a, k, p, d, rfl, h, hp, q⟩ := h
    refine ⟨_, (pss_cons (ps_expr (pe_meth (pv 0) T.cS T.M_S_take_colour (ok_S_take_colour T) (hr.mono (by decide)) T.B_S_take_colour .nil pass0 (pa_cons (pe_glob (v := .int (1)) rfl T.g_GREEN ⟨_, rfl⟩) pa_nil)))
      (pss_cons (ps_fld (pv 0) (pe_fld (pv 0) rfl) rfl)
      (pss_cons (ps_fld (pv 0) pe_int rfl)
      (pss_cons (ps_fld (pv 0) pe_bl rfl)
      (pss_cons (ps_fld (pv 0) (pe_or (pe_fld (pv 0) rfl) (pe_one (pe_and (pe_meth0 (pv 0) T.cS T.M_S_is_till_most (ok_S_is_till_most T) (hr.mono (by decide)) T.B_S_is_till_most .nil pass0) (pe_one (pe_cmp (pc_gt (pe_fld (pv 0) rfl) pe_int)))))) rfl)
      (pss_one (ps_fld (pv 0) pe_bl rfl))))))), ?_⟩
    refine q_mS (ev_var (i := 0) rfl) h sm_take_colour (ea_cons ev_c ea_nil) fun H1 e1 => ⟨a, k, p, d, 1, rfl, h.ex e1, hp, fun H2 h2 f2 => ?_⟩
    refine q_put (ev_fS (ev_var (i := 0) rfl) h2 T.cS T.nS_gap sl_gap) (ev_var rfl) h2 T.cS T.nS_gap_rest (sp_gap_rest rfl) fun H3 h3 f3 => ?_
    refine q_put ev_c (ev_var rfl) h3 T.cS T.nS_waited (sp_waited (n := 0) rfl) fun H4 h4 f4 => ?_
    refine q_put ev_c (ev_var rfl) h4 T.cS T.nS_car_kept sp_car_kept fun H5 h5 f5 => ?_
    refine q_put (ev_orV (ev_fS (ev_var (i := 0) rfl) h5 T.cS T.nS_button_kept sl_button_kept) fun _ => ev_andV (ev_mS (ev_var (i := 0) rfl) h5 sm_is_till_most ea_nil (spB_v h5 hp)) fun _ => ev_gtN (j := 0) (ev_fS (ev_var (i := 0) rfl) h5 T.cS T.nS_walk sl_walk) ev_c) (ev_var rfl) h5 T.cS T.nS_let_go sp_let_go fun H6 h6 f6 => ?_
    exact s_put ev_c (ev_var rfl) h6 T.cS T.nS_button_kept sp_button_kept fun H7 h7 f7 => q H7 h7 ((Fr1.of_ex e1).trans (f2.trans (f3.trans (f4.trans (f5.trans (f6.trans f7))))))
theorem ok_S_end_yellow_and_clearing (T : Txt K mg A) : FnOk P w K mg base CX0 2 A.f_S_end_yellow_and_clearing A.d_S_end_yellow_and_clearing ["self"] (spM A.CS fade) := by
  refine T.F_S_end_yellow_and_clearing.ok sc_S_end_yellow_and_clearing (fun vs H Q E h => ?_) (fun cdv Ar outer s H vs Q E hr h => ?_)
  · obtain ⟨a, k, p, d, rfl, _⟩ := h
    rfl
  · obtain ⟨a, k, p, d, rfl, h, hp, q⟩ := h
    refine ⟨_, (pss_cut (ps_if (PW.pt (pw_and (pt_val (pe_meth0 (pv 0) T.cS T.M_S_is_yellow (ok_S_is_yellow T) (hr.mono (by decide)) T.B_S_is_yellow .nil pass0)) (pw_and1 (pt_cmp (pc_ge (pe_fld (pv 0) rfl) (pe_fld (pv 0) rfl)))))) (pss_one (ps_expr (pe_meth (pv 0) T.cS T.M_S_take_colour (ok_S_take_colour T) (hr.mono (by decide)) T.B_S_take_colour .nil pass0 (pa_cons (pe_glob (v := .int (3)) rfl T.g_CLEARING ⟨_, rfl⟩) pa_nil)))) pss_nil)
      (pss_one (ps_if (PW.pt (pw_and (pt_cmp (pc_eqI (pe_fld (pv 0) rfl) (pe_glob (v := .int (3)) rfl T.g_CLEARING ⟨_, rfl⟩))) (pw_and1 (pt_cmp (pc_ge (pe_fld (pv 0) rfl) (pe_fld (pv 0) rfl)))))) (pss_one (ps_expr (pe_meth (pv 0) T.cS T.M_S_take_colour (ok_S_take_colour T) (hr.mono (by decide)) T.B_S_take_colour .nil pass0 (pa_cons (pe_glob (v := .int (0)) rfl T.g_RED ⟨_, rfl⟩) pa_nil)))) pss_nil))), ?_⟩
    refine q_cut (M := fun σ' H' => σ' = [some (.ref a)] ∧ StAt A.CS H' a k p (fade1 p d) ∧ Fr1 a H H') ?_ ?_
    · refine s_when (et_and (et_B (ev_mS (ev_var (i := 0) rfl) h sm_is_yellow ea_nil (spB_v h hp))) fun _ => et_B (ev_geN (ev_fS (ev_var (i := 0) rfl) h T.cS T.nS_time sl_time) (ev_fS (ev_var (i := 0) rfl) h T.cS T.nS_yellow sl_yellow))) (fun hb H1 e1 => ?_) fun hb H1 e1 => ?_
      · have e : fade1 p d = takeC 3 d := if_pos hb
        rw [e]
        exact s_mS (ev_var (i := 0) rfl) (h.ex e1) sm_take_colour (ea_cons ev_c ea_nil) fun H2 e2 => ⟨a, k, p, d, 3, rfl, (h.ex e1).ex e2, hp, fun H3 h3 f3 => ⟨rfl, h3, (Fr1.of_ex (e1.trans e2)).trans f3⟩⟩
      · have e : fade1 p d = d := if_neg (by rw [hb]; decide)
        rw [e]
        exact ⟨rfl, h.ex e1, Fr1.of_ex e1⟩
    · rintro σ' H' ⟨rfl, h1, f1⟩
      refine s_when (et_and (et_B (ev_eqN (j := 3) (ev_fS (ev_var (i := 0) rfl) h1 T.cS T.nS_colour sl_colour) ev_c)) fun _ => et_B (ev_geN (ev_fS (ev_var (i := 0) rfl) h1 T.cS T.nS_time sl_time) (ev_fS (ev_var (i := 0) rfl) h1 T.cS T.nS_red sl_red))) (fun hb H1 e1 => ?_) fun hb H1 e1 => ?_
      · have e : fade p d = takeC 0 (fade1 p d) := if_pos hb
        rw [e] at q
        exact s_mS (ev_var (i := 0) rfl) (h1.ex e1) sm_take_colour (ea_cons ev_c ea_nil) fun H2 e2 => ⟨a, k, p, _, 0, rfl, (h1.ex e1).ex e2, hp, fun H3 h3 f3 => q H3 h3 (f1.trans ((Fr1.of_ex (e1.trans e2)).trans f3))⟩
      · have e : fade p d = fade1 p d := if_neg (by rw [hb]; decide)
        rw [e] at q
        exact q _ (h1.ex e1) (f1.trans (Fr1.of_ex e1))
end
end Xg

namespace Xg
open PySem PySem.Spec PyProof.Rows L2 Evl
open PySem.W (Codec)
section
variable {P : Program} {w : World} {K : PySem.W.Frag} {mg : Str → Option Value} {base : Heap} {A : Adr}
/-! ### two streams -/
def crossS (j : Nat) (p : Strm) (k : Nat) (q : Strm) : Bool := if j = k then false else (decide (p.ring = q.ring) || !decide (p.group = q.group))
def besideS (p q : Strm) : Bool := decide (p.ring = q.ring) && decide (p.group = q.group)
def sp2 (C : Addr) (g : Nat → Strm → Nat → Strm → Bool) : Sp := fun vs H Q _ => ∃ a j p d b k q e, vs = [.ref a, .ref b] ∧ StAt C H a j p d ∧ StAt C H b k q e ∧ RetV (.bl (g j p k q)) H Q
theorem sp2_v {C : Addr} {g : Nat → Strm → Nat → Strm → Bool} {H : Hp} {a b : Addr} {j k : Nat} {p q : Strm} {d e : Dy} (h1 : StAt C H a j p d) (h2 : StAt C H b k q e) : SpV (sp2 C g) [.ref a, .ref b] H (.bl (g j p k q)) :=
  fun H1 x Q w E => ⟨a, j, p, d, b, k, q, e, rfl, h1.ex x, h2.ex x, w⟩
theorem ok_G_of_one_ring_and_group (T : Txt K mg A) : FnOk P w K mg base CX0 1 A.f_G_of_one_ring_and_group A.d_G_of_one_ring_and_group ["one", "other"] (sp2 A.CS fun _ p _ q => besideS p q) := by
  refine T.F_G_of_one_ring_and_group.ok sc_G_of_one_ring_and_group (fun vs H Q E h => ?_) (fun cdv Ar outer s H vs Q E hr h => ?_)
  · obtain ⟨a, j, p, d, b, k, q, e, rfl, _⟩ := h
    rfl
  · obtain ⟨a, j, p, d, b, k, q, e, rfl, h1, h2, w⟩ := h
    refine ⟨_, (pss_one (ps_ret (pe_and (pe_cmp (pc_eqI (pe_fld (pv 0) rfl) (pe_fld (pv 1) rfl))) (pe_one (pe_cmp (pc_eqI (pe_fld (pv 0) rfl) (pe_fld (pv 1) rfl))))))), ?_⟩
    exact s_ret (ev_andV (ev_eqN (ev_fS (ev_var (i := 0) rfl) h1 T.cS T.nS_ring sl_ring) (ev_fS (ev_var (i := 1) rfl) h2 T.cS T.nS_ring sl_ring)) fun _ => ev_eqN (ev_fS (ev_var (i := 0) rfl) h1 T.cS T.nS_group sl_group) (ev_fS (ev_var (i := 1) rfl) h2 T.cS T.nS_group sl_group)) w
theorem ok_G_cross (T : Txt K mg A) : FnOk P w K mg base CX0 1 A.f_G_cross A.d_G_cross ["one", "other"] (sp2 A.CS crossS) := by
  refine T.F_G_cross.ok sc_G_cross (fun vs H Q E h => ?_) (fun cdv Ar outer s H vs Q E hr h => ?_)
  · obtain ⟨a, j, p, d, b, k, q, e, rfl, _⟩ := h
    rfl
  · obtain ⟨a, j, p, d, b, k, q, e, rfl, h1, h2, w⟩ := h
    refine ⟨_, (pss_cons (ps_if (pt_cmp (pc_eqI (pe_fld (pv 0) rfl) (pe_fld (pv 1) rfl))) (pss_one (ps_ret pe_bl)) pss_nil)
      (pss_one (ps_ret (pe_or (pe_cmp (pc_eqI (pe_fld (pv 0) rfl) (pe_fld (pv 1) rfl))) (pe_one (pe_cmp (pc_neI (pe_fld (pv 0) rfl) (pe_fld (pv 1) rfl)))))))), ?_⟩
    refine q_when (et_B (ev_eqN (ev_fS (ev_var (i := 0) rfl) h1 T.cS T.nS_number sl_number) (ev_fS (ev_var (i := 1) rfl) h2 T.cS T.nS_number sl_number))) (fun hb H1 e1 => ?_) fun hb H1 e1 => ?_
    · have x : crossS j p k q = false := if_pos (of_decide_eq_true hb)
      rw [x] at w
      exact s_ret ev_c fun H2 e2 => w H2 (e1.trans e2)
    · have x : crossS j p k q = (decide (p.ring = q.ring) || !decide (p.group = q.group)) := if_neg (of_decide_eq_false hb)
      rw [x] at w
      have h3 := h1.ex e1
      have h4 := h2.ex e1
      exact s_ret (ev_orV (ev_eqN (ev_fS (ev_var (i := 0) rfl) h3 T.cS T.nS_ring sl_ring) (ev_fS (ev_var (i := 1) rfl) h4 T.cS T.nS_ring sl_ring)) fun _ => ev_neN (ev_fS (ev_var (i := 0) rfl) h3 T.cS T.nS_group sl_group) (ev_fS (ev_var (i := 1) rfl) h4 T.cS T.nS_group sl_group)) fun H2 e2 => w H2 (e1.trans e2)
/-! ### streams as bits -/
theorem bit_or (b k : Nat) : Builtin.bitOr (b : Int) (1 * 2 ^ ((k : Int)).toNat) = ((b ||| 2 ^ k : Nat) : Int) := by
  rw [Int.one_mul, Int.toNat_natCast, two_pow_cast, Bits.bitOr_pp (Int.natCast_nonneg _) (Int.natCast_nonneg _), Int.toNat_natCast, Int.toNat_natCast]
theorem bit_get (c k : Nat) : decide (Builtin.bitAnd ((c : Int) / 2 ^ ((k : Int)).toNat) 1 = 1) = c.testBit k := by
  rw [bitAnd_m1, Int.toNat_natCast, two_pow_cast, Nat.testBit_eq_decide_div_mod_eq]
  refine decide_eq_decide.mpr ?_
  omega
theorem take_more {α : Type} {l : List α} {i : Nat} {x : α} (h : l[i]? = some x) : l.take (i + 1) = l.take i ++ [x] := by
  rw [List.take_succ, h]
  rfl
theorem bits_more {l : List Nat} {i x : Nat} (h : l[i]? = some x) : bitsL (l.take (i + 1)) = bitsL (l.take i) ||| 2 ^ x := by
  unfold bitsL
  rw [take_more h, List.foldl_append]
  rfl
/-- the streams ks, by their addresses -/
def refs (ad : Nat → Addr) (ks : List Nat) : List V := ks.map fun k => .ref (ad k)
theorem refs_get {ad : Nat → Addr} {ks : List Nat} {i : Nat} {x : V} (h : (refs ad ks)[i]? = some x) : ∃ k, ks[i]? = some k ∧ x = .ref (ad k) := by
  unfold refs at h
  rw [List.getElem?_map] at h
  cases e : ks[i]? with
  | none =>
    rw [e] at h
    cases h
  | some k =>
    rw [e] at h
    exact ⟨k, rfl, (Option.some.inj h).symm⟩
def spBits (K : PySem.W.Frag) (C : Addr) : Sp := fun vs H Q _ => ∃ (l : Addr) (ad : Nat → Addr) (ks : List Nat), vs = [.ref l] ∧ SqL K H l (refs ad ks) ∧ (∀ k, k ∈ ks → k ≤ 1000 ∧ ∃ p d, StAt C H (ad k) k p d) ∧ RetV (.int (bitsL ks : Nat)) H Q
theorem ok_G_bits_of (T : Txt K mg A) : FnOk P w K mg base CX0 1 A.f_G_bits_of A.d_G_bits_of ["streams"] (spBits K A.CS) := by
  refine T.F_G_bits_of.ok sc_G_bits_of (fun vs H Q E h => ?_) (fun cdv Ar outer s H vs Q E hr h => ?_)
  · obtain ⟨l, ad, ks, rfl, _⟩ := h
    rfl
  · obtain ⟨l, ad, ks, rfl, hS, hk, q⟩ := h
    refine ⟨_, (pss_cons (ps_set (i := 1) sc_G_bits_of.nd rfl (Or.inl rfl) pe_int)
      (pss_cons (ps_for PassesOwn.never rfl (pi_list (pv 0)) (pg_name (i := 2) sc_G_bits_of.nd rfl (Or.inl rfl)) (pss_one (ps_set (i := 1) sc_G_bits_of.nd rfl (Or.inl rfl) (pe_op op_or (pv 1) (pe_op op_shl pe_int (pe_fld (pv 2) rfl))))))
      (pss_one (ps_ret (pv 1))))), ?_⟩
    refine q_asg (ev_c (v := .int ((0 : Nat) : Int))) fun H1 e1 => ?_
    refine q_forLn (ev_var (i := 0) rfl) (ex_l e1 hS) (fun i σ' H' => (∃ v, σ' = [some (.ref l), some (.int (bitsL (ks.take i) : Nat)), v]) ∧ Ex H H') (fun H2 e2 => ⟨⟨_, rfl⟩, e1.trans e2⟩) (fun i σ' H' _ ⟨_, e⟩ => ex_l e hS) ?_ ?_
    · rintro i x σ' H' hi ⟨⟨v, rfl⟩, e⟩
      obtain ⟨k, hki, rfl⟩ := refs_get hi
      obtain ⟨hle, p, d, hst⟩ := hk k (List.mem_of_getElem? hki)
      have h1 := hst.ex e
      refine s_asg (ev_is (ev_op (ev_var (i := 1) rfl) (ev_op (ev_c (v := .int 1)) (ev_fS (ev_var (i := 2) rfl) h1 T.cS T.nS_number sl_number) (rv_I ⟨by omega, by omega, by decide⟩)) rv_I0) (congrArg V.int (bit_or _ k))) fun H2 e2 => ?_
      refine ⟨⟨some (.ref (ad k)), ?_⟩, e.trans e2⟩
      rw [bits_more hki]
      rfl
    · rintro σ' H' ⟨⟨v, rfl⟩, e⟩
      have el : (refs ad ks).length = ks.length := List.length_map ..
      rw [el, List.take_length]
      exact s_ret (ev_var (i := 1) rfl) fun H2 e2 => q H2 (e.trans e2)
/-! ### what a stream may be -/
theorem int_get {l : List Int} {j : Nat} (h : j < l.length) : (l.map V.int)[j]? = some (.int (l.getD j 0)) := by
  rw [List.getElem?_map, List.getD_eq_getElem?_getD, List.getElem?_eq_getElem h]
  rfl
def spAllowed (K : PySem.W.Frag) : Sp := fun vs H Q _ => ∃ (l : Addr) (ns : List Int), vs = [.ref l] ∧ SqL K H l (ns.map V.int) ∧ ns.length = 10 ∧ RetV (.bl (allowed ns)) H Q
theorem ok_G_are_allowed (T : Txt K mg A) : FnOk P w K mg base CX0 1 A.f_G_are_allowed A.d_G_are_allowed ["numbers"] (spAllowed K) := by
  refine T.F_G_are_allowed.ok sc_G_are_allowed (fun vs H Q E h => ?_) (fun cdv Ar outer s H vs Q E hr h => ?_)
  · obtain ⟨l, ns, rfl, _⟩ := h
    rfl
  · obtain ⟨l, ns, rfl, hS, hn, q⟩ := h
    have at_ : ∀ {H' : Hp}, Ex H H' → ∀ (j : Nat), j < 10 → SqL K H' l (ns.map V.int) ∧ atI (ns.map V.int) (j : Int) = some (.int (ns.getD j 0)) := fun e j hj => ⟨ex_l e hS, atI_nat (int_get (by omega))⟩
    refine ⟨_, (pss_cons (ps_for PassesOwn.never rfl (pi_range1 rfl T.g_range (pa_cons (pe_glob (v := .int (10)) rfl T.g_NUMBERS ⟨_, rfl⟩) pa_nil)) (pg_name (i := 1) sc_G_are_allowed.nd rfl (Or.inl rfl)) (pss_one (ps_if (PW.pt (pw_or (pt_cmp (pc_lt (pe_ix ix_list (pv 0) (pv 1) (fun _ _ => rfl)) (pe_ix ix_tup (pe_glob (v := .ref A.a_LOWEST) rfl T.g_LOWEST rfl) (pv 1) (fun _ _ => rfl)))) (pw_or1 (pt_cmp (pc_gt (pe_ix ix_list (pv 0) (pv 1) (fun _ _ => rfl)) (pe_ix ix_tup (pe_glob (v := .ref A.a_HIGHEST) rfl T.g_HIGHEST rfl) (pv 1) (fun _ _ => rfl))))))) (pss_one (ps_ret pe_bl)) pss_nil)))
      (pss_cons (ps_set (i := 2) sc_G_are_allowed.nd rfl (Or.inl rfl) (pe_ix ix_list (pv 0) pe_int (fun _ _ => rfl)))
      (pss_cons (ps_set (i := 3) sc_G_are_allowed.nd rfl (Or.inl rfl) (pe_ix ix_list (pv 0) pe_int (fun _ _ => rfl)))
      (pss_one (ps_ret (pe_cmp (pc_le (pv 2) (pv 3)))))))), ?_⟩
    refine q_forR1 (j := 1) (ea_cons (ev_c (v := .int 10)) ea_nil) (by omega) (fun i σ' H' => (∃ v, σ' = [some (.ref l), v, none, none]) ∧ Ex H H' ∧ ∀ j, j < i → badAt ns j = false) (fun H1 e1 => ⟨⟨_, rfl⟩, e1, fun j hj => absurd hj (by omega)⟩) ?_ ?_
    · rintro i σ' H' hi ⟨⟨v, rfl⟩, e, hb⟩
      have hi' : i < 10 := by omega
      refine s_when (b := badAt ns i) (et_or (et_B (ev_cmp (ev_op (ev_var (i := 0) rfl) (ev_var (i := 1) rfl) (rv_ixL (at_ e i hi').1 (at_ e i hi').2)) (ev_op (ev_c (v := .ref A.a_LOWEST)) (ev_var (i := 1) rfl) (rv_ixT (T.w_LOWEST _) (atI_nat (int_get (l := lows) hi')))))) fun _ =>
        et_B (ev_cmp (ev_op (ev_var (i := 0) rfl) (ev_var (i := 1) rfl) (rv_ixL (at_ e i hi').1 (at_ e i hi').2)) (ev_op (ev_c (v := .ref A.a_HIGHEST)) (ev_var (i := 1) rfl) (rv_ixT (T.w_HIGHEST _) (atI_nat (int_get (l := highs) hi')))))) (fun hc H1 e1 => ?_) fun hc H1 e1 => ?_
      · have x : allowed ns = false := by
          unfold allowed
          have y : ((List.range 10).all fun j => !badAt ns j) = false := by
            rw [List.all_eq_false]
            exact ⟨i, List.mem_range.mpr hi', by rw [hc]; decide⟩
          rw [y]
          rfl
        rw [x] at q
        exact s_ret ev_c fun H2 e2 => q H2 (e.trans (e1.trans e2))
      · refine ⟨⟨_, rfl⟩, e.trans e1, fun j hj => ?_⟩
        by_cases h : j = i
        · rw [h]
          exact hc
        · exact hb j (by omega)
    · rintro σ' H' ⟨⟨v, rfl⟩, e, hb⟩
      have x : allowed ns = decide (ns.getD 2 0 ≤ ns.getD 4 0) := by
        unfold allowed
        have y : ((List.range 10).all fun j => !badAt ns j) = true := by
          rw [List.all_eq_true]
          intro j hj
          rw [hb j (List.mem_range.mp hj)]
          rfl
        rw [y]
        rfl
      rw [x] at q
      refine q_asg (ev_op (ev_var (i := 0) rfl) (ev_c (v := .int ((2 : Nat) : Int))) (rv_ixL (at_ e 2 (by omega)).1 (at_ e 2 (by omega)).2)) fun H1 e1 => ?_
      have e' := e.trans e1
      refine q_asg (ev_op (ev_var (i := 0) rfl) (ev_c (v := .int ((4 : Nat) : Int))) (rv_ixL (at_ e' 4 (by omega)).1 (at_ e' 4 (by omega)).2)) fun H2 e2 => ?_
      exact s_ret (ev_cmp (ev_var (i := 2) rfl) (ev_var (i := 3) rfl)) fun H3 e3 => q H3 (e'.trans (e2.trans e3))
theorem cut_ten {ns : List Int} {k : Nat} {n : Nat} (hl : ns.length = 10 * n) (hk : k < n) : cutV (ns.map V.int) (some ((k : Int) * 10)) (some (((k : Int) + 1) * 10)) = (ten ns k).map V.int := by
  have e1 : ((k : Int) * 10) = ((10 * k : Nat) : Int) := by omega
  have e2 : (((k : Int) + 1) * 10) = ((10 * k + 10 : Nat) : Int) := by omega
  unfold cutV ten
  rw [e1, e2, HT.sIx_nat, HT.sIx_nat, List.length_map, hl, Nat.min_eq_left (by omega), Nat.min_eq_left (by omega), List.map_take, List.map_drop]
  congr 1
  omega
theorem ten_len {ns : List Int} {k n : Nat} (hl : ns.length = 10 * n) (hk : k < n) : (ten ns k).length = 10 := by
  unfold ten
  rw [List.length_take, List.length_drop]
  omega
def spHas (K : PySem.W.Frag) : Sp := fun vs H Q _ => ∃ (l : Addr) (n : Int) (ns : List Int), vs = [.int n, .ref l] ∧ SqL K H l (ns.map V.int) ∧ (1 ≤ n → n ≤ 16 → ns.length = 10 * n.toNat) ∧ RetV (.bl (good n ns)) H Q
theorem ok_G_has_allowed_streams (T : Txt K mg A) : FnOk P w K mg base CX0 2 A.f_G_has_allowed_streams A.d_G_has_allowed_streams ["n", "numbers"] (spHas K) := by
  refine T.F_G_has_allowed_streams.ok sc_G_has_allowed_streams (fun vs H Q E h => ?_) (fun cdv Ar outer s H vs Q E hr h => ?_)
  · obtain ⟨l, n, ns, rfl, _⟩ := h
    rfl
  · obtain ⟨l, n, ns, rfl, hS, hn, q⟩ := h
    refine ⟨_, (pss_cons (ps_if (PW.pt (pw_or (pt_cmp (pc_lt (pv 0) pe_int)) (pw_or1 (pt_cmp (pc_gt (pv 0) (pe_glob (v := .int (16)) rfl T.g_MOST_STREAMS ⟨_, rfl⟩)))))) (pss_one (ps_ret pe_bl)) pss_nil)
      (pss_cons (ps_for PassesOwn.never rfl (pi_range1 rfl T.g_range (pa_cons (pv 0) pa_nil)) (pg_name (i := 2) sc_G_has_allowed_streams.nd rfl (Or.inl rfl)) (pss_one (ps_if (pt_not (pt_val (pe_call (ok_G_are_allowed T) (hr.mono (by decide)) rfl T.g_G_are_allowed T.F_G_are_allowed.kp T.B_G_are_allowed .nil pass0 (pa_cons (pe_slice sl_list (pv 1) (po_some (pe_op op_mul (pv 2) (pe_glob (v := .int (10)) rfl T.g_NUMBERS ⟨_, rfl⟩))) (po_some (pe_op op_mul (pe_op op_add (pv 2) pe_int) (pe_glob (v := .int (10)) rfl T.g_NUMBERS ⟨_, rfl⟩)))) pa_nil)))) (pss_one (ps_ret pe_bl)) pss_nil)))
      (pss_one (ps_ret pe_bl)))), ?_⟩
    refine q_when (et_or (et_B (ev_cmp (ev_var (i := 0) rfl) (ev_c (v := .int 1)))) fun _ => et_B (ev_cmp (ev_var (i := 0) rfl) (ev_c (v := .int 16)))) (fun hb H1 e1 => ?_) fun hb H1 e1 => ?_
    · have x : good n ns = false := if_pos (by simpa using hb)
      rw [x] at q
      exact s_ret ev_c fun H2 e2 => q H2 (e1.trans e2)
    · have hb' : ¬ (n < 1 ∨ 16 < n) := by simpa using hb
      have x : good n ns = (List.range n.toNat).all fun k => allowed (ten ns k) := if_neg hb'
      rw [x] at q
      have hl := hn (by omega) (by omega)
      refine q_forR1 (j := 2) (ea_cons (ev_var (i := 0) rfl) ea_nil) (by omega) (fun i σ' H' => (∃ v, σ' = [some (.int n), some (.ref l), v]) ∧ Ex H H' ∧ ∀ j, j < i → allowed (ten ns j) = true) (fun H2 e2 => ⟨⟨_, rfl⟩, e1.trans e2, fun j hj => absurd hj (by omega)⟩) ?_ ?_
      · rintro i σ' H' hi ⟨⟨v, rfl⟩, e, hb⟩
        have hi' : i < n.toNat := by omega
        refine s_when (b := !allowed (ten ns i)) (et_not (et_B ?_)) (fun hc H2 e2 => ?_) fun hc H2 e2 => ?_
        · intro H2 e2 Q2 q2
          refine el_sl (lo := some ((i : Int) * 10)) (hi := some (((i : Int) + 1) * 10)) (ev_var (i := 1) rfl) (eo_some (ev_op (ev_var (i := 2) rfl) (ev_c (v := .int 10)) (rv_I (.inr (by decide))))) (eo_some (ev_op (ev_op (ev_var (i := 2) rfl) (ev_c (v := .int 1)) rv_I0) (ev_c (v := .int 10)) (rv_I (.inr (by decide))))) (ex_l e hS) H2 e2 _ fun p H3 hp e3 hl3 => ?_
          rw [cut_ten hl hi'] at hl3
          exact ⟨p, _, rfl, sq_of hl3, ten_len hl hi', fun H4 e4 => q2 H4 (e3.trans e4)⟩
        · have hc' : allowed (ten ns i) = false := by simpa using hc
          have y : ((List.range n.toNat).all fun k => allowed (ten ns k)) = false := by
            rw [List.all_eq_false]
            exact ⟨i, List.mem_range.mpr hi', by rw [hc']; decide⟩
          rw [y] at q
          exact s_ret ev_c fun H3 e3 => q H3 (e.trans (e2.trans e3))
        · refine ⟨⟨_, rfl⟩, e.trans e2, fun j hj => ?_⟩
          by_cases h : j = i
          · rw [h]
            simpa using hc
          · exact hb j (by omega)
      · rintro σ' H' ⟨⟨v, rfl⟩, e, hb⟩
        have y : ((List.range n.toNat).all fun k => allowed (ten ns k)) = true := by
          rw [List.all_eq_true]
          intro j hj
          exact hb j (List.mem_range.mp hj)
        rw [y] at q
        exact s_ret ev_c fun H3 e3 => q H3 (e.trans e3)
end
end Xg

namespace Xg
open PySem PySem.Spec PyProof.Rows L2 Evl
open PySem.W (Codec)
section
variable {P : Program} {w : World} {K : PySem.W.Frag} {mg : Str → Option Value} {base : Heap} {A : Adr}
/-! ### a crossing in the heap -/
/-- where a crossing lies: itself, its streams' list, its list of the latest, its streams -/
structure Lay where
  a : Addr
  ls : Addr
  ll : Addr
  ad : Nat → Addr
def oV (ad : Nat → Addr) : Option Nat → V
  | some k => .ref (ad k)
  | none => .non
/-- what holds of a crossing at any time -/
structure Hw (m : Cm) : Prop where
  pos : 1 ≤ m.n
  most : m.n ≤ 16
  rt : ∀ k, k < m.n → Rt (m.st k)
  grp : m.group < 8
  lat : ∀ r k, m.latest r = some k → k < m.n
def latL (ad : Nat → Addr) (f : Nat → Option Nat) : List V := (List.range 4).map fun r => oV ad (f r)
structure CrAt (CX CS : Addr) (H : Hp) (L : Lay) (m : Cm) : Prop where
  obj : ∃ dx, H L.a = some (.ins CX dx (xF (.ref L.ls) m.group (.ref L.ll)))
  sts : H L.ls = some (.lst (refs L.ad (List.range m.n)))
  lat : H L.ll = some (.lst (latL L.ad m.latest))
  st : ∀ k, k < m.n → StAt CS H (L.ad k) k (m.st k) (m.dy k)
  inj : ∀ j k, j < m.n → k < m.n → L.ad j = L.ad k → j = k
  nel : L.ls ≠ L.ll
  hw : Hw m
def Own (L : Lay) (n : Nat) (b : Addr) : Prop := b = L.a ∨ b = L.ls ∨ b = L.ll ∨ ∃ k, k < n ∧ b = L.ad k
/-- what a step may change -/
def Foot (L : Lay) (n : Nat) (b : Addr) : Prop := b = L.a ∨ b = L.ll ∨ ∃ k, k < n ∧ b = L.ad k
def Fr (S : Addr → Prop) (H H' : Hp) : Prop := ∀ b o, H b = some o → ¬ S b → H' b = some o
theorem Fr.of_ex {S : Addr → Prop} {H H' : Hp} (e : Ex H H') : Fr S H H' := fun b o h _ => e b o h
theorem Fr.trans {S : Addr → Prop} {H H1 H2 : Hp} (x : Fr S H H1) (y : Fr S H1 H2) : Fr S H H2 := fun b o h n => y b o (x b o h n) n
theorem Fr.mono {S S' : Addr → Prop} {H H' : Hp} (x : Fr S H H') (h : ∀ b, S b → S' b) : Fr S' H H' := fun b o e n => x b o e fun z => n (h b z)
theorem Fr.of1 {S : Addr → Prop} {a : Addr} {H H' : Hp} (x : Fr1 a H H') (h : S a) : Fr S H H' := fun b o e n => x b o e fun z => n (by rw [z]; exact h)
/-! ### the makers -/
theorem allowed_at {ns : List Int} (h : allowed ns = true) (j : Nat) (hj : j < 10) : lows.getD j 0 ≤ ns.getD j 0 ∧ ns.getD j 0 ≤ highs.getD j 0 := by
  unfold allowed at h
  rw [Bool.and_eq_true, List.all_eq_true] at h
  have q := h.1 j (List.mem_range.mpr hj)
  unfold badAt at q
  simp only [Bool.not_eq_true', Bool.or_eq_false_iff, decide_eq_false_iff_not] at q
  omega
theorem lows_nn : ∀ j : Nat, j < 10 → 0 ≤ lows.getD j 0 := by decide
theorem allowed_nn {ns : List Int} (h : allowed ns = true) (j : Nat) (hj : j < 10) : ns.getD j 0 = (((ns.getD j 0).toNat : Nat) : Int) := by
  have h1 := (allowed_at h j hj).1
  have h2 := lows_nn j hj
  omega
theorem rt_of {ns : List Int} (h : allowed ns = true) : Rt (strmOf ns) := by
  refine ⟨?_, ?_, ?_⟩
  · have q : ns.getD 0 0 ≤ 3 := (allowed_at h 0 (by omega)).2
    show (ns.getD 0 0).toNat < 4
    omega
  · have q : ns.getD 1 0 ≤ 7 := (allowed_at h 1 (by omega)).2
    show (ns.getD 1 0).toNat < 8
    omega
  · have q : ns.getD 9 0 ≤ 7 := (allowed_at h 9 (by omega)).2
    show (ns.getD 9 0).toNat < 8
    omega
theorem put_newZ {f : Str} {v : V} : ∀ {ns : List Str} {vs : List V}, f ∉ ns → ns.length = vs.length → putF f v (ns.zip vs) = (ns ++ [f]).zip (vs ++ [v])
  | [], [], _, _ => rfl
  | [], _ :: _, _, h => by simp at h
  | _ :: _, [], _, h => by simp at h
  | g :: ns, w :: vs, h, hl => by
    have ne : ¬ g = f := fun e => h (by rw [← e]; exact List.mem_cons_self)
    exact (if_neg ne).trans (congrArg (fun q => (g, w) :: q) (put_newZ (fun m => h (List.mem_cons_of_mem _ m)) (Nat.succ.inj hl)))
theorem put_next {N : List Str} (nd : N.Nodup) {i : Nat} {f : Str} {v : V} {vs : List V} (hi : N[i]? = some f) (hl : vs.length = i) : putF f v ((N.take i).zip vs) = (N.take (i + 1)).zip (vs ++ [v]) := by
  have hlt : i < N.length := (List.getElem?_eq_some_iff.mp hi).1
  have hn : f ∉ N.take i := by
    intro hm
    obtain ⟨j, hj, e⟩ := List.getElem_of_mem hm
    have hj' : j < i := by
      rw [List.length_take] at hj
      omega
    rw [List.getElem_take] at e
    have e2 : N[j]? = some f := by
      rw [List.getElem?_eq_getElem (by omega), e]
    exact absurd (nd_ix nd e2 hi) (by omega)
  rw [put_newZ hn (by rw [List.length_take, hl]; omega), take_more hi]
section
variable {σ : L2.St} {H : Hp} {ta tb te tv : TE} {x y v z : V} {D : Ends} {t : TA} {f m : Str} {a C dx : Addr} {tz : TS} {fs : List (Str × V)} {N : List Str} {vs : List V} {i : Nat}
theorem q_next (nd : N.Nodup) (hv : Ev tv σ H v) (ha : Ev ta σ H (.ref a)) (hH : H a = some (.ins C dx ((N.take i).zip vs))) (c : Cls K C) (n : NoAttr K C f) (hi : N[i]? = some f) (hl : vs.length = i) (h1 : i < 1000)
    (kk : ∀ H', H' a = some (.ins C dx ((N.take (i + 1)).zip (vs ++ [v]))) → Fr1 a H H' → tz D σ H') : tSeq (sFld K ta tv f) tz D σ H :=
  q_fldset hv ha hH c n (Nat.lt_of_le_of_lt (by rw [List.length_zip]; exact Nat.min_le_right _ _) (by rw [hl]; exact h1)) fun H1 e1 => kk _ (by rw [upd_same, put_next nd hi hl]) fun b o hb ne => by
    rw [upd_ne ne]
    exact e1 _ _ hb
theorem s_next (nd : N.Nodup) (hv : Ev tv σ H v) (ha : Ev ta σ H (.ref a)) (hH : H a = some (.ins C dx ((N.take i).zip vs))) (c : Cls K C) (n : NoAttr K C f) (hi : N[i]? = some f) (hl : vs.length = i) (h1 : i < 1000)
    (kk : ∀ H', H' a = some (.ins C dx ((N.take (i + 1)).zip (vs ++ [v]))) → Fr1 a H H' → D.nx σ H') : sFld K ta tv f D σ H :=
  s_fldset hv ha hH c n (Nat.lt_of_le_of_lt (by rw [List.length_zip]; exact Nat.min_le_right _ _) (by rw [hl]; exact h1)) fun H1 e1 => kk _ (by rw [upd_same, put_next nd hi hl]) fun b o hb ne => by
    rw [upd_ne ne]
    exact e1 _ _ hb
end
theorem s_appG {K : PySem.W.Frag} {σ : L2.St} {H : Hp} {ta te : TE} {D : Ends} {l : Addr} {xs : List V} (ha : Ev ta σ H (.ref l)) (hl : H l = some (.lst xs)) (kk : ∀ H1, Ex H H1 → te σ H1 fun y H2 => rAppend (.ref l) [y] H2 fun _ H3 => D.nx σ H3) :
    tDrop (tBM K "list" rAppend ta (tCons te tNil)) D σ H := ha H (Ex.refl H) _ fun H1 e1 => ⟨.inl ⟨rfl, _, SqL.of (e1 _ _ hl)⟩, kk H1 e1⟩
theorem fr1_seq {a l : Addr} {H H' : Hp} {xs : List V} {C dx : Addr} {fs : List (Str × V)} (hS : SqL K H l xs) (ha : H a = some (.ins C dx fs)) (f : Fr1 a H H') : SqL K H' l xs := by
  rcases hS with (h | ⟨o, h⟩) | h
  · exact .inl (.inl (f _ _ h (ne_of h ha (by intro z; cases z))))
  · exact .inl (.inr ⟨o, f _ _ h (ne_of h ha (by intro z; cases z))⟩)
  · exact .inr h
theorem spKeeps_w {C a dx : Addr} {H : Hp} {fs : List (Str × V)} {m : Nat} (h : H a = some (.ins C dx fs)) (hl : fs.lookup ("mode" : Str) = some (.int (m : Int))) (hm : m < 8) : SpV (spKeeps C) [.ref a] H (.bl (m.testBit 2)) :=
  fun H1 e Q q E => ⟨a, dx, fs, m, rfl, e _ _ h, hl, hm, q⟩
def spSInit (K : PySem.W.Frag) (C : Addr) : Sp := fun vs H Q _ => ∃ (a dx : Addr) (k : Nat) (l : Addr) (ns : List Int), vs = [.ref a, .int (k : Nat), .ref l] ∧ H a = some (.ins C dx []) ∧ SqL K H l (ns.map V.int) ∧ ns.length = 10 ∧ allowed ns = true ∧
  ∀ H', StAt C H' a k (strmOf ns) (Dy.new (strmOf ns)) → Fr1 a H H' → Q .non H'
theorem ok_S_init (T : Txt K mg A) : FnOk P w K mg base CX0 2 A.f_S_init A.d_S_init ["self", "number", "numbers"] (spSInit K A.CS) := by
  refine T.F_S_init.ok sc_S_init (fun vs H Q E h => ?_) (fun cdv Ar outer s H vs Q E hr h => ?_)
  · obtain ⟨a, dx, k, l, ns, rfl, _⟩ := h
    rfl
  · obtain ⟨a, dx, k, l, ns, rfl, h0, hS, hn, hal, q⟩ := h
    have rd : ∀ {H' : Hp} {σ' : L2.St} {te : TE} (j : Nat), j < 10 → Fr1 a H H' → σ'[2]? = some (some (.ref l)) → Ev te σ' H' (.int (j : Int)) → Ev (tOp (rIxL K) (tVar 2) te) σ' H' (.int ((ns.getD j 0).toNat : Nat)) := fun j hj fr hσ hte => by
      refine ev_is (ev_op (ev_var hσ) hte (rv_ixL (fr1_seq hS h0 fr) (atI_nat (int_get (by omega))))) ?_
      rw [← allowed_nn hal j hj]
    refine ⟨_, (pss_cons (ps_fld (pv 0) (pv 1) rfl)
      (pss_cons (ps_fld (pv 0) (pe_ix ix_list (pv 2) pe_int (fun _ _ => rfl)) rfl)
      (pss_cons (ps_fld (pv 0) (pe_ix ix_list (pv 2) pe_int (fun _ _ => rfl)) rfl)
      (pss_cons (ps_fld (pv 0) (pe_ix ix_list (pv 2) pe_int (fun _ _ => rfl)) rfl)
      (pss_cons (ps_fld (pv 0) (pe_ix ix_list (pv 2) pe_int (fun _ _ => rfl)) rfl)
      (pss_cons (ps_fld (pv 0) (pe_ix ix_list (pv 2) pe_int (fun _ _ => rfl)) rfl)
      (pss_cons (ps_fld (pv 0) (pe_ix ix_list (pv 2) pe_int (fun _ _ => rfl)) rfl)
      (pss_cons (ps_fld (pv 0) (pe_ix ix_list (pv 2) pe_int (fun _ _ => rfl)) rfl)
      (pss_cons (ps_fld (pv 0) (pe_ix ix_list (pv 2) pe_int (fun _ _ => rfl)) rfl)
      (pss_cons (ps_fld (pv 0) (pe_ix ix_list (pv 2) pe_int (fun _ _ => rfl)) rfl)
      (pss_cons (ps_fld (pv 0) (pe_ix ix_list (pv 2) pe_int (fun _ _ => rfl)) rfl)
      (pss_cons (ps_fld (pv 0) (pe_glob (v := .int (0)) rfl T.g_RED ⟨_, rfl⟩) rfl)
      (pss_cons (ps_fld (pv 0) pe_int rfl)
      (pss_cons (ps_fld (pv 0) pe_int rfl)
      (pss_cons (ps_fld (pv 0) pe_int rfl)
      (pss_cons (ps_fld (pv 0) pe_bl rfl)
      (pss_cons (ps_fld (pv 0) (pe_meth0 (pv 0) T.cS T.M_S_keeps_cars (ok_S_keeps_cars T) (hr.mono (by decide)) T.B_S_keeps_cars .nil pass0) rfl)
      (pss_one (ps_fld (pv 0) (pe_cmp (pc_gt (pe_fld (pv 0) rfl) pe_int)) rfl))))))))))))))))))), ?_⟩
    refine q_next (i := 0) (vs := []) sNd (ev_var (i := 1) rfl) (ev_var (i := 0) rfl) h0 T.cS T.nS_number rfl rfl (by decide) fun H1 h1 f1 => ?_
    refine q_next (i := 1) sNd (rd 0 (by omega) f1 rfl ev_c) (ev_var (i := 0) rfl) h1 T.cS T.nS_ring rfl rfl (by decide) fun H2 h2 g2 => ?_
    have f2 := f1.trans g2
    refine q_next (i := 2) sNd (rd 1 (by omega) f2 rfl ev_c) (ev_var (i := 0) rfl) h2 T.cS T.nS_group rfl rfl (by decide) fun H3 h3 g3 => ?_
    have f3 := f2.trans g3
    refine q_next (i := 3) sNd (rd 2 (by omega) f3 rfl ev_c) (ev_var (i := 0) rfl) h3 T.cS T.nS_least rfl rfl (by decide) fun H4 h4 g4 => ?_
    have f4 := f3.trans g4
    refine q_next (i := 4) sNd (rd 3 (by omega) f4 rfl ev_c) (ev_var (i := 0) rfl) h4 T.cS T.nS_gap rfl rfl (by decide) fun H5 h5 g5 => ?_
    have f5 := f4.trans g5
    refine q_next (i := 5) sNd (rd 4 (by omega) f5 rfl ev_c) (ev_var (i := 0) rfl) h5 T.cS T.nS_most rfl rfl (by decide) fun H6 h6 g6 => ?_
    have f6 := f5.trans g6
    refine q_next (i := 6) sNd (rd 5 (by omega) f6 rfl ev_c) (ev_var (i := 0) rfl) h6 T.cS T.nS_yellow rfl rfl (by decide) fun H7 h7 g7 => ?_
    have f7 := f6.trans g7
    refine q_next (i := 7) sNd (rd 6 (by omega) f7 rfl ev_c) (ev_var (i := 0) rfl) h7 T.cS T.nS_red rfl rfl (by decide) fun H8 h8 g8 => ?_
    have f8 := f7.trans g8
    refine q_next (i := 8) sNd (rd 7 (by omega) f8 rfl ev_c) (ev_var (i := 0) rfl) h8 T.cS T.nS_walk rfl rfl (by decide) fun H9 h9 g9 => ?_
    have f9 := f8.trans g9
    refine q_next (i := 9) sNd (rd 8 (by omega) f9 rfl ev_c) (ev_var (i := 0) rfl) h9 T.cS T.nS_clearance rfl rfl (by decide) fun H10 h10 g10 => ?_
    have f10 := f9.trans g10
    refine q_next (i := 10) sNd (rd 9 (by omega) f10 rfl ev_c) (ev_var (i := 0) rfl) h10 T.cS T.nS_mode rfl rfl (by decide) fun H11 h11 g11 => ?_
    have f11 := f10.trans g11
    refine q_next (i := 11) sNd (ev_c (v := .int ((0 : Nat) : Int))) (ev_var (i := 0) rfl) h11 T.cS T.nS_colour rfl rfl (by decide) fun H12 h12 g12 => ?_
    have f12 := f11.trans g12
    refine q_next (i := 12) sNd (ev_c (v := .int ((0 : Nat) : Int))) (ev_var (i := 0) rfl) h12 T.cS T.nS_time rfl rfl (by decide) fun H13 h13 g13 => ?_
    have f13 := f12.trans g13
    refine q_next (i := 13) sNd (ev_c (v := .int ((0 : Nat) : Int))) (ev_var (i := 0) rfl) h13 T.cS T.nS_gap_rest rfl rfl (by decide) fun H14 h14 g14 => ?_
    have f14 := f13.trans g14
    refine q_next (i := 14) sNd (ev_c (v := .int ((0 : Nat) : Int))) (ev_var (i := 0) rfl) h14 T.cS T.nS_waited rfl rfl (by decide) fun H15 h15 g15 => ?_
    have f15 := f14.trans g15
    refine q_next (i := 15) sNd (ev_c (v := .bl false)) (ev_var (i := 0) rfl) h15 T.cS T.nS_let_go rfl rfl (by decide) fun H16 h16 g16 => ?_
    have f16 := f15.trans g16
    have nd16 : (sN.take 16).Nodup := by decide +kernel
    have nd17 : (sN.take 17).Nodup := by decide +kernel
    refine q_next (i := 16) sNd (v := .bl ((ns.getD 9 0).toNat.testBit 2)) (ev_meth (ev_var (i := 0) rfl) h16 (lk_zip_none (by decide +kernel)) ea_nil (spKeeps_w h16 (lk_zip nd16 (i := 10) rfl rfl) (rt_of hal).mode)) (ev_var (i := 0) rfl) h16 T.cS T.nS_car_kept rfl rfl (by decide) fun H17 h17 g17 => ?_
    have f17 := f16.trans g17
    refine s_next (i := 17) sNd (ev_gtN (j := 0) (ev_fld (ev_var (i := 0) rfl) h17 T.cS T.nS_walk (lk_zip nd17 (i := 8) rfl rfl)) ev_c) (ev_var (i := 0) rfl) h17 T.cS T.nS_button_kept rfl rfl (by decide) fun H18 h18 g18 => ?_
    exact q H18 ⟨dx, h18⟩ (f17.trans g18)
end
end Xg

namespace Xg
open PySem PySem.Spec PyProof.Rows L2 Evl
open PySem.W (Codec)
section
variable {P : Program} {w : World} {K : PySem.W.Frag} {mg : Str → Option Value} {base : Heap} {A : Adr}
/-- the streams that are made of the numbers -/
theorem stP_strms {n k : Nat} {ns : List Int} (hk : k < n) : stP (strmsOf n ns) k = strmOf (ten ns k) := by
  unfold stP strmsOf
  rw [List.getD_eq_getElem?_getD, List.getElem?_map, List.getElem?_range hk]
  rfl
def spXInit (K : PySem.W.Frag) (CX CS : Addr) : Sp := fun vs H Q _ => ∃ (a dx : Addr) (n : Nat) (l : Addr) (ns : List Int), vs = [.ref a, .int (n : Nat), .ref l] ∧ H a = some (.ins CX dx []) ∧ SqL K H l (ns.map V.int) ∧ 1 ≤ n ∧ n ≤ 16 ∧ ns.length = 10 * n ∧ (∀ k, k < n → allowed (ten ns k) = true) ∧
  ∀ H' L, L.a = a → CrAt CX CS H' L (Cm.new (strmsOf n ns)) → (∀ b, Own L n b → b ≠ a → H b = none) → Fr1 a H H' → Q .non H'
theorem ex_fr1 {a b : Addr} {H H' : Hp} (f : Fr1 a H H') (ha : H a ≠ none) (h : H' b = none) (hb : b ≠ a) : H b = none := by
  cases e : H b with
  | none => rfl
  | some o =>
    rw [f b o e hb] at h
    cases h
theorem setF_same {α : Type} {f : Nat → α} {k : Nat} {x : α} : setF f k x k = x := if_pos rfl
theorem setF_ne {α : Type} {f : Nat → α} {j k : Nat} {x : α} (h : j ≠ k) : setF f k x j = f j := if_neg h
theorem ok_X_init (T : Txt K mg A) : FnOk P w K mg base CX0 4 A.f_X_init A.d_X_init ["self", "n", "numbers"] (spXInit K A.CX A.CS) := by
  refine T.F_X_init.ok sc_X_init (fun vs H Q E h => ?_) (fun cdv Ar outer s H vs Q E hr h => ?_)
  · obtain ⟨a, dx, n, l, ns, rfl, _⟩ := h
    rfl
  · obtain ⟨a, dx, n, l, ns, rfl, h0, hS, hn1, hn16, hl, hal, q⟩ := h
    refine ⟨_, (pss_cons (ps_fld (pv 0) (pe_lst pa_nil) rfl)
      (pss_cons (ps_for PassesOwn.never rfl (pi_range1 rfl T.g_range (pa_cons (pv 1) pa_nil)) (pg_name (i := 3) sc_X_init.nd rfl (Or.inl rfl)) (pss_one (ps_expr (pe_bm PySem.F.plainAttrs_list PySem.F.slot_list_append PySem.F.type_list_append mt_append (pe_fld (pv 0) rfl) (pa_cons (pe_make T.K_S (ok_S_init T) (hr.mono (by decide)) rfl T.g_CS T.B_S_init .nil pass0 (pa_cons (pv 3) (pa_cons (pe_slice sl_list (pv 2) (po_some (pe_op op_mul (pv 3) (pe_glob (v := .int (10)) rfl T.g_NUMBERS ⟨_, rfl⟩))) (po_some (pe_op op_mul (pe_op op_add (pv 3) pe_int) (pe_glob (v := .int (10)) rfl T.g_NUMBERS ⟨_, rfl⟩)))) pa_nil))) pa_nil)))))
      (pss_cons (ps_fld (pv 0) (pe_op op_sub (pe_glob (v := .int (8)) rfl T.g_GROUPS ⟨_, rfl⟩) pe_int) rfl)
      (pss_one (ps_fld (pv 0) (pe_op op_rep (pe_lst (pa_cons pe_non pa_nil)) (pe_glob (v := .int (4)) rfl T.g_RINGS ⟨_, rfl⟩)) rfl))))), ?_⟩
    -- self.streams = []
    refine ⟨(by show 0 ≤ sizeLine; decide), fun ls hls => ?_⟩
    have a_ls : a ≠ ls := ne_of_none h0 hls
    refine ⟨_, rfl, a, A.CX, dx, [], rfl, by rw [upd_ne a_ls]; exact h0, T.cX, T.nX_streams, by decide, ?_⟩
    refine q_forR1 (j := 3) (ea_cons (ev_var (i := 1) rfl) ea_nil) (by omega)
      (fun i σ' H' => (∃ v, σ' = [some (.ref a), some (.int (n : Nat)), some (.ref l), v]) ∧ H' a = some (.ins A.CX dx ((xN.take 1).zip [.ref ls])) ∧ Fr1 a H H' ∧ ∃ ad : Nat → Addr, H' ls = some (.lst (refs ad (List.range i))) ∧
        (∀ k, k < i → StAt A.CS H' (ad k) k (strmOf (ten ns k)) (Dy.new (strmOf (ten ns k))) ∧ H (ad k) = none) ∧ ∀ j k, j < i → k < i → ad j = ad k → j = k) (fun H1 e1 => ?_) ?_ ?_
    · have hb : Fr1 a H H1 := fun b o hb ne => e1 _ _ (by rw [upd_ne ne, upd_ne (ne_of_none hb hls)]; exact hb)
      exact ⟨⟨_, rfl⟩, e1 _ _ upd_same, hb, fun _ => 0, e1 _ _ (by rw [upd_ne a_ls.symm]; exact upd_same), fun k hk => absurd hk (by omega), fun j k hj => absurd hj (by omega)⟩
    · rintro i σ' H' hi ⟨⟨v, rfl⟩, ha, hf, ad, hlst, hst, hin⟩
      have hi' : i < n := by omega
      have hS' := fr1_seq hS h0 hf
      refine s_appG (ev_fld (ev_var (i := 0) rfl) ha T.cX T.nX_streams (lk_zip (i := 0) (by decide +kernel) rfl rfl)) hlst fun H1 e1 => ?_
      refine ⟨_, rfl, ?_⟩
      refine el_sl (lo := some ((i : Int) * 10)) (hi := some (((i : Int) + 1) * 10)) (ev_var (i := 2) rfl) (eo_some (ev_op (ev_var (i := 3) rfl) (ev_c (v := .int 10)) (rv_I (.inr (by decide))))) (eo_some (ev_op (ev_op (ev_var (i := 3) rfl) (ev_c (v := .int 1)) rv_I0) (ev_c (v := .int 10)) (rv_I (.inr (by decide))))) hS' H1 e1 _ fun p H2 hp e2 hl3 => ?_
      rw [cut_ten hl hi'] at hl3
      have e12 := e1.trans e2
      intro x dxx nx ndx nex
      have ex3 : Ex H2 (upd (upd H2 dxx (.own x)) x (.ins A.CS dxx [])) := fun b o hb => by
        rw [upd_ne (ne_of_none hb nx), upd_ne (ne_of_none hb ndx)]
        exact hb
      refine ⟨x, dxx, i, p, ten ns i, rfl, upd_same, sq_of (ex3 _ _ hl3), ten_len hl hi', hal i hi', fun H4 h4 f4 => ⟨rfl, ?_⟩⟩
      have k4 : ∀ b o, H' b = some o → H4 b = some o := fun b o hb => f4 b o (ex3 b o (e12 b o hb)) (ne_of_none (e12 b o hb) nx)
      have hx0 : H x = none ∧ x ≠ a := by
        have xa : x ≠ a := (ne_of_none (e12 _ _ ha) nx).symm
        exact ⟨ex_fr1 hf (by rw [h0]; simp) (fresh_back e12 nx) xa, xa⟩
      have hxls : ls ≠ x := ne_of_none (e12 _ _ hlst) nx
      have hix : ∀ k, k < i → ad k ≠ x := fun k hk => by
        obtain ⟨⟨dk, hk'⟩, _⟩ := hst k hk
        exact ne_of_none (e12 _ _ hk') nx
      have rl : (refs ad (List.range i)).length < 100 := by
        unfold refs
        rw [List.length_map, List.length_range]
        omega
      refine ⟨ls, _, _, rfl, rfl, k4 _ _ hlst, Nat.lt_trans rl (by decide), ?_⟩
      refine ⟨⟨_, rfl⟩, ?_, ?_, setF ad i x, ?_, ?_, ?_⟩
      · rw [upd_ne a_ls]
        exact k4 _ _ ha
      · exact fun b o hb ne => by
          rw [upd_ne (ne_of_none hb hls)]
          exact k4 _ _ (hf b o hb ne)
      · rw [upd_same]
        refine congrArg (fun q => some (HO.lst q)) ?_
        unfold refs
        rw [List.range_succ, List.map_append]
        refine congr (congrArg HAppend.hAppend ?_) ?_
        · refine List.map_congr_left fun k hk => ?_
          have hk' := List.mem_range.mp hk
          rw [setF_ne (by omega)]
        · show [V.ref x] = [V.ref (setF ad i x i)]
          rw [setF_same]
      · intro k hk
        by_cases hki : k = i
        · subst hki
          rw [setF_same]
          obtain ⟨d4, h4'⟩ := h4
          exact ⟨⟨d4, by rw [upd_ne hxls.symm]; exact h4'⟩, hx0.1⟩
        · rw [setF_ne hki]
          obtain ⟨⟨dk, hk'⟩, hfr⟩ := hst k (by omega)
          refine ⟨⟨dk, ?_⟩, hfr⟩
          rw [upd_ne (ne_of (k4 _ _ hk') (k4 _ _ hlst) (by intro z; cases z))]
          exact k4 _ _ hk'
      · intro j k hj hk
        by_cases hji : j = i
        · by_cases hki : k = i
          · intro _
            omega
          · rw [hji, setF_same, setF_ne hki]
            exact fun z => absurd z.symm (hix k (by omega))
        · by_cases hki : k = i
          · rw [hki, setF_same, setF_ne hji]
            exact fun z => absurd z (hix j (by omega))
          · rw [setF_ne hji, setF_ne hki]
            exact hin j k (by omega) (by omega)
    · rintro σ' H' ⟨⟨v, rfl⟩, ha, hf, ad, hlst, hst, hin⟩
      have hnt : (((n : Nat) : Int)).toNat = n := rfl
      rw [hnt] at hlst hst hin
      refine q_next (i := 1) xNd (ev_op (ev_c (v := .int 8)) (ev_c (v := .int 1)) rv_I0) (ev_var (i := 0) rfl) ha T.cX T.nX_group rfl rfl (by decide) fun H2 h2 f2 => ?_
      have hls2 : H2 ls = some (.lst (refs ad (List.range n))) := f2 _ _ hlst a_ls.symm
      -- self.latest = [None] * 4
      refine ⟨(by show 1 ≤ sizeLine; decide), fun p1 hp1 => ?_⟩
      refine ⟨p1, _, _, rfl, rfl, upd_same, by decide, by decide, by decide, fun p2 hp2 => ?_⟩
      have np1 : H2 p2 = none := by
        have : p2 ≠ p1 := fun z => by
          rw [z, upd_same] at hp2
          cases hp2
        rwa [upd_ne this] at hp2
      have e3 : Ex H2 (upd (upd H2 p1 (.lst [.non])) p2 (.lst [.non, .non, .non, .non])) := fun b o hb => by
        rw [upd_ne (ne_of_none hb np1), upd_ne (ne_of_none hb hp1)]
        exact hb
      refine ⟨_, rfl, a, A.CX, dx, _, rfl, e3 _ _ h2, T.cX, T.nX_latest, by show 2 < 1000; decide, ?_⟩
      have a_p1 : a ≠ p1 := ne_of_none h2 hp1
      have a_p2 : a ≠ p2 := ne_of_none h2 np1
      have ls_p2 : ls ≠ p2 := ne_of_none hls2 np1
      have hla : ls ≠ a := a_ls.symm
      have hna : H a ≠ none := by rw [h0]; simp
      have f3 : Fr1 a H H2 := hf.trans f2
      have st_a : ∀ k, k < n → ad k ≠ a := fun k hk z => by
        have := (hst k hk).2
        rw [z] at this
        exact hna this
      have nstr : (Cm.new (strmsOf n ns)).n = n := by
        show (strmsOf n ns).length = n
        unfold strmsOf
        rw [List.length_map, List.length_range]
      refine q _ ⟨a, ls, p2, ad⟩ rfl ⟨⟨dx, ?_⟩, ?_, ?_, ?_, ?_, ls_p2, ?_⟩ ?_ ?_
      · rw [upd_same, put_next xNd (i := 2) rfl rfl]
        rfl
      · rw [upd_ne hla, nstr]
        exact e3 _ _ hls2
      · rw [upd_ne a_p2.symm]
        exact upd_same
      · intro k hk
        rw [nstr] at hk
        obtain ⟨⟨dk, hk'⟩, _⟩ := hst k hk
        refine ⟨dk, ?_⟩
        rw [upd_ne (st_a k hk)]
        have e5 := e3 _ _ (f2 _ _ hk' (st_a k hk))
        show _ = some (HO.ins A.CS dk (sF k (stP (strmsOf n ns) k) (Dy.new (stP (strmsOf n ns) k))))
        rw [stP_strms hk]
        exact e5
      · intro j k hj hk
        rw [nstr] at hj hk
        exact hin j k hj hk
      · refine ⟨by rw [nstr]; exact hn1, by rw [nstr]; exact hn16, fun k hk => ?_, by show 7 < 8; decide, fun r k z => by cases z⟩
        rw [nstr] at hk
        show Rt (stP (strmsOf n ns) k)
        rw [stP_strms hk]
        exact rt_of (hal k hk)
      · rintro b (rfl | rfl | rfl | ⟨k, hk, rfl⟩) hb
        · exact absurd rfl hb
        · exact hls
        · exact ex_fr1 f3 hna np1 hb
        · exact (hst k hk).2
      · intro b o hb ne
        rw [upd_ne ne]
        exact e3 _ _ (f3 b o hb ne)
end
end Xg

namespace Xg
open PySem PySem.Spec PyProof.Rows L2 Evl
open PySem.W (Codec)
section
variable {P : Program} {w : World} {K : PySem.W.Frag} {mg : Str → Option Value} {base : Heap} {A : Adr}
theorem pe_fldB {X : Cx} {e : Expr} {f : Str} {pos : Pos} {ta : TE} (hK : X.K = K) (he : PE X e ta) (hb : attributeBase e f X.env (eval e X.env) = eval e X.env) : PE X (.Attribute e f pos) (tFld K ta f) := by
  subst hK
  exact pe_fld he hb
theorem refs_at {ad : Nat → Addr} {n i : Nat} (h : i < n) : (refs ad (List.range n))[i]? = some (.ref (ad i)) := by
  unfold refs
  rw [List.getElem?_map, List.getElem?_range h]
  rfl
theorem refs_range {ad : Nat → Addr} {n i : Nat} {x : V} (h : (refs ad (List.range n))[i]? = some x) : i < n ∧ x = .ref (ad i) := by
  have hl := (List.getElem?_eq_some_iff.mp h).1
  unfold refs at hl
  rw [List.length_map, List.length_range] at hl
  rw [refs_at hl] at h
  exact ⟨hl, (Option.some.inj h).symm⟩
theorem refs_len {ad : Nat → Addr} {ks : List Nat} : (refs ad ks).length = ks.length := List.length_map ..
theorem latL_at {ad : Nat → Addr} {f : Nat → Option Nat} {r : Nat} (h : r < 4) : (latL ad f)[r]? = some (oV ad (f r)) := by
  unfold latL
  rw [List.getElem?_map, List.getElem?_range h]
  rfl
theorem latL_len {ad : Nat → Addr} {f : Nat → Option Nat} : (latL ad f).length = 4 := rfl
theorem latL_set {ad : Nat → Addr} {f : Nat → Option Nat} {r : Nat} {o : Option Nat} (h : r < 4) : (latL ad f).set r (oV ad o) = latL ad (setF f r o) := by
  match r, h with
  | 0, _ => rfl
  | 1, _ => rfl
  | 2, _ => rfl
  | 3, _ => rfl
/-! ### what a crossing keeps -/
section
variable {CX CS : Addr} {H H' : Hp} {L : Lay} {m : Cm} {k : Nat}
theorem CrAt.ex (h : CrAt CX CS H L m) (e : Ex H H') : CrAt CX CS H' L m := by
  obtain ⟨dx, ho⟩ := h.obj
  exact ⟨⟨dx, e _ _ ho⟩, e _ _ h.sts, e _ _ h.lat, fun k hk => (h.st k hk).ex e, h.inj, h.nel, h.hw⟩
theorem x_ne_s {a b C C' dx dx' : Addr} {ls ll : V} {g k : Nat} {p : Strm} {d : Dy} (h1 : H a = some (.ins C dx (xF ls g ll))) (h2 : H b = some (.ins C' dx' (sF k p d))) : a ≠ b := ne_of h1 h2 (by
  intro z
  have e : xF ls g ll = sF k p d := by injection z
  have e2 := congrArg List.length e
  have e3 : (3 : Nat) = 18 := e2
  omega)
theorem CrAt.a_st (h : CrAt CX CS H L m) (hk : k < m.n) : L.a ≠ L.ad k := by
  obtain ⟨dx, ho⟩ := h.obj
  obtain ⟨dk, hs⟩ := h.st k hk
  exact x_ne_s ho hs
theorem CrAt.ls_st (h : CrAt CX CS H L m) (hk : k < m.n) : L.ls ≠ L.ad k := by
  obtain ⟨dk, hs⟩ := h.st k hk
  exact ne_of h.sts hs (by intro z; cases z)
theorem CrAt.ll_st (h : CrAt CX CS H L m) (hk : k < m.n) : L.ll ≠ L.ad k := by
  obtain ⟨dk, hs⟩ := h.st k hk
  exact ne_of h.lat hs (by intro z; cases z)
theorem CrAt.a_ls (h : CrAt CX CS H L m) : L.a ≠ L.ls := by
  obtain ⟨dx, ho⟩ := h.obj
  exact ne_of ho h.sts (by intro z; cases z)
theorem CrAt.a_ll (h : CrAt CX CS H L m) : L.a ≠ L.ll := by
  obtain ⟨dx, ho⟩ := h.obj
  exact ne_of ho h.lat (by intro z; cases z)
/-- a stream changes -/
theorem CrAt.setD {d : Dy} (h : CrAt CX CS H L m) (hk : k < m.n) (hs : StAt CS H' (L.ad k) k (m.st k) d) (f : Fr1 (L.ad k) H H') : CrAt CX CS H' L (m.setD k d) := by
  obtain ⟨dx, ho⟩ := h.obj
  refine ⟨⟨dx, f _ _ ho (h.a_st hk)⟩, f _ _ h.sts (h.ls_st hk), f _ _ h.lat (h.ll_st hk), fun j hj => ?_, h.inj, h.nel, ⟨h.hw.pos, h.hw.most, h.hw.rt, h.hw.grp, h.hw.lat⟩⟩
  show StAt CS H' (L.ad j) j (m.st j) (setF m.dy k d j)
  by_cases e : j = k
  · subst e
    rw [setF_same]
    exact hs
  · rw [setF_ne e]
    obtain ⟨dj, hj'⟩ := h.st j hj
    exact ⟨dj, f _ _ hj' fun z => e (h.inj j k hj hk z)⟩
theorem CrAt.congr {m' : Cm} (h : CrAt CX CS H L m) (hP : m'.P = m.P) (hg : m'.group = m.group) (hl : m'.latest = m.latest) (hd : ∀ j, j < m.n → m'.dy j = m.dy j) : CrAt CX CS H L m' := by
  obtain ⟨P, dy, g, la⟩ := m
  obtain ⟨P', dy', g', la'⟩ := m'
  obtain rfl : P' = P := hP
  obtain rfl : g' = g := hg
  obtain rfl : la' = la := hl
  refine ⟨h.obj, h.sts, h.lat, fun k hk => ?_, h.inj, h.nel, ⟨h.hw.pos, h.hw.most, h.hw.rt, h.hw.grp, h.hw.lat⟩⟩
  have e : dy' k = dy k := hd k hk
  show StAt CS H (L.ad k) k (stP P' k) (dy' k)
  rw [e]
  exact h.st k hk
end
/-! ### reading it -/
section
variable {σ : L2.St} {H : Hp} {ta tb te tl : TE} {D : Ends} {L : Lay} {m : Cm} {k j : Nat} {tt : TT}
theorem ev_x_streams {X : Addr} (T : Txt K mg A) (ha : Ev ta σ H (.ref L.a)) (h : CrAt A.CX A.CS H L m) : Ev (tFld K ta "streams") σ H (.ref L.ls) := by
  obtain ⟨dx, ho⟩ := h.obj
  exact ev_fld ha ho T.cX T.nX_streams xl_streams
theorem ev_x_group (T : Txt K mg A) (ha : Ev ta σ H (.ref L.a)) (h : CrAt A.CX A.CS H L m) : Ev (tFld K ta "group") σ H (.int (m.group : Nat)) := by
  obtain ⟨dx, ho⟩ := h.obj
  exact ev_fld ha ho T.cX T.nX_group xl_group
theorem ev_x_latest (T : Txt K mg A) (ha : Ev ta σ H (.ref L.a)) (h : CrAt A.CX A.CS H L m) : Ev (tFld K ta "latest") σ H (.ref L.ll) := by
  obtain ⟨dx, ho⟩ := h.obj
  exact ev_fld ha ho T.cX T.nX_latest xl_latest
/-- self.latest[r] -/
theorem ev_x_at {r : Nat} (T : Txt K mg A) (ha : Ev ta σ H (.ref L.a)) (h : CrAt A.CX A.CS H L m) (hb : Ev tb σ H (.int (r : Nat))) (hr : r < 4) : Ev (tOp (rIxL K) (tFld K ta "latest") tb) σ H (oV L.ad (m.latest r)) :=
  ev_op (ev_x_latest T ha h) hb (rv_ixL (sq_of h.lat) (atI_nat (latL_at hr)))
theorem ev_mX {mn : Str} {sp : Sp} {dvs vs : List V} {E : XK} {t : TA} {z : V} (ha : Ev ta σ H (.ref L.a)) (h : CrAt A.CX A.CS H L m) (hm : ∀ {ls : V} {g : Nat} {ll : V}, (xF ls g ll).lookup mn = none) (hA : EvA t σ H vs) (hs : SpV sp (.ref L.a :: (vs ++ dvs)) H z) : Ev (tMeth A.CX mn sp dvs E ta t) σ H z := by
  obtain ⟨dx, ho⟩ := h.obj
  exact ev_meth ha ho hm hA hs
theorem el_mX {mn : Str} {sp : Sp} {dvs vs : List V} {E : XK} {t : TA} {xs : List V} (ha : Ev ta σ H (.ref L.a)) (h : CrAt A.CX A.CS H L m) (hm : ∀ {ls : V} {g : Nat} {ll : V}, (xF ls g ll).lookup mn = none) (hA : EvA t σ H vs) (hs : SpL sp (.ref L.a :: (vs ++ dvs)) H xs) : EvL (tMeth A.CX mn sp dvs E ta t) σ H xs := by
  obtain ⟨dx, ho⟩ := h.obj
  exact el_meth ha ho hm hA hs
theorem go_mX {mn : Str} {sp : Sp} {dvs vs : List V} {E : XK} {t : TA} {Q : VK} (ha : Ev ta σ H (.ref L.a)) (h : CrAt A.CX A.CS H L m) (hm : ∀ {ls : V} {g : Nat} {ll : V}, (xF ls g ll).lookup mn = none) (hA : EvA t σ H vs) (kk : ∀ H1, Ex H H1 → sp (.ref L.a :: (vs ++ dvs)) H1 Q E) : tMeth A.CX mn sp dvs E ta t σ H Q := by
  obtain ⟨dx, ho⟩ := h.obj
  exact go_meth ha ho hm hA kk
/-- [stream for stream in self.streams if ..] -/
theorem el_sel {CX CS : Addr} {g : Nat → Bool} (h : CrAt CX CS H L m) (hl : Ev tl σ H (.ref L.ls)) (hw : ∀ x, wipe ((wipe σ [j]).set j (some x)) [j] = wipe σ [j]) (hj : j < (wipe σ [j]).length)
    (ht : ∀ (i : Nat) H1, Ex H H1 → i < m.n → EvT tt ((wipe σ [j]).set j (some (.ref (L.ad i)))) H1 (g i)) : EvL (tLc (iList K tl) (gName j) tt (tVar j) [j]) σ H (refs L.ad (sel m g)) := by
  have e : refs L.ad (sel m g) = given (refs L.ad (List.range m.n)).length g (fun i => .ref (L.ad i)) := by
    rw [refs_len, List.length_range]
    rfl
  rw [e]
  refine el_lcL g _ hl (sq_of h.sts) (by rw [refs_len, List.length_range]; exact Nat.le_trans h.hw.most (by decide)) hw (fun i x H1 e hi => ?_) fun i x H1 e hi _ => ?_
  · obtain ⟨hin, rfl⟩ := refs_range hi
    exact ht i H1 e hin
  · obtain ⟨hin, rfl⟩ := refs_range hi
    exact ev_var (List.getElem?_set_self hj)
theorem ev_callL1 {sp : Sp} {E : XK} {xs : List V} {z : V} (h : EvL te σ H xs) (hs : ∀ p H1, H1 p = some (.lst xs) → Ex H H1 → SpV sp [.ref p] H1 z) : Ev (tCall sp [] E (tCons te tNil)) σ H z :=
  fun H1 e Q q => h H1 e _ fun p H2 hp e2 h2 => hs p H2 h2 (e.trans e2) H2 (Ex.refl _) Q (fun H3 e3 => q H3 (e2.trans e3)) E
theorem ev_bits {E : XK} {g : Nat → Bool} (h : CrAt A.CX A.CS H L m) (hl : EvL te σ H (refs L.ad (sel m g))) : Ev (tCall (spBits K A.CS) [] E (tCons te tNil)) σ H (.int (bitsL (sel m g) : Nat)) :=
  ev_callL1 hl fun p H1 hp e H2 e2 Q q E => ⟨p, L.ad, sel m g, rfl, sq_of (e2 _ _ hp), fun k hk => by
    have hkn : k < m.n := List.mem_range.mp (List.mem_filter.mp hk).1
    exact ⟨by have := h.hw.most; omega, _, _, (h.st k hkn).ex (e.trans e2)⟩, q⟩
end
/-! ### its defs -/
def spGreens (A : Adr) : Sp := fun vs H Q _ => ∃ L m, vs = [.ref L.a] ∧ CrAt A.CX A.CS H L m ∧ RetL (refs L.ad (greens m)) H Q
theorem spGreens_v {H : Hp} {L : Lay} {m : Cm} (h : CrAt A.CX A.CS H L m) : SpL (spGreens A) [.ref L.a] H (refs L.ad (greens m)) := fun H1 e Q q E => ⟨L, m, rfl, h.ex e, q⟩
theorem ok_X_greens (T : Txt K mg A) : FnOk P w K mg base CX0 2 A.f_X_greens A.d_X_greens ["self"] (spGreens A) := by
  refine T.F_X_greens.ok sc_X_greens (fun vs H Q E h => ?_) (fun cdv Ar outer s H vs Q E hr h => ?_)
  · obtain ⟨L, m, rfl, _⟩ := h
    rfl
  · obtain ⟨L, m, rfl, h, q⟩ := h
    refine ⟨_, (pss_one (ps_ret (pe_lc (own := [("stream", 1)]) (g := gName 1) rfl sc_X_greens.nd (pi_list (pe_fld (pv 0) rfl)) (blkOk_by (N := ["self", "stream"]) (sc := defScope st_X_greens) (by decide +kernel)) (fun _ _ _ _ _ => pg_name (i := 1) sc_X_greens.nd rfl (Or.inl rfl)) (fun _ _ _ _ _ => by exact pts_one (pt_val (pe_meth0 (pv 1) T.cS T.M_S_is_green (ok_S_is_green T) (hr.mono (by decide)) T.B_S_is_green .nil pass0))) (fun _ _ _ _ _ => by exact (pv 1))))), ?_⟩
    refine s_retL (el_sel (g := fun k => grn (m.dy k)) h (ev_x_streams (X := L.a) T (ev_var (i := 0) rfl) h) (fun _ => rfl) (by show 1 < 2; decide) fun i H1 e hi => ?_) q
    have h1 := (h.st i hi).ex e
    have hp := h.hw.rt i hi
    exact et_B (ev_mS (ev_var (i := 1) rfl) h1 sm_is_green ea_nil (spB_v h1 hp))
def spXB (A : Adr) (g : Cm → Bool) : Sp := fun vs H Q _ => ∃ L m, vs = [.ref L.a] ∧ CrAt A.CX A.CS H L m ∧ RetV (.bl (g m)) H Q
theorem spXB_v {g : Cm → Bool} {H : Hp} {L : Lay} {m : Cm} (h : CrAt A.CX A.CS H L m) : SpV (spXB A g) [.ref L.a] H (.bl (g m)) := fun H1 e Q q E => ⟨L, m, rfl, h.ex e, q⟩
def spInCol (A : Adr) : Sp := fun vs H Q _ => ∃ L m, ∃ r : Nat, vs = [.ref L.a, .int (r : Nat)] ∧ CrAt A.CX A.CS H L m ∧ r < 4 ∧ RetV (oV L.ad (inCol m r)) H Q
theorem spInCol_v {H : Hp} {L : Lay} {m : Cm} {r : Nat} (h : CrAt A.CX A.CS H L m) (hr : r < 4) : SpV (spInCol A) [.ref L.a, .int (r : Nat)] H (oV L.ad (inCol m r)) := fun H1 e Q q E => ⟨L, m, r, rfl, h.ex e, hr, q⟩
theorem ok_X_in_colour (T : Txt K mg A) : FnOk P w K mg base CX0 2 A.f_X_in_colour A.d_X_in_colour ["self", "ring"] (spInCol A) := by
  refine T.F_X_in_colour.ok sc_X_in_colour (fun vs H Q E h => ?_) (fun cdv Ar outer s H vs Q E hr h => ?_)
  · obtain ⟨L, m, r, rfl, _⟩ := h
    rfl
  · obtain ⟨L, m, r, rfl, h, hr4, q⟩ := h
    refine ⟨_, (pss_cons (ps_set (i := 2) sc_X_in_colour.nd rfl (Or.inl rfl) (pe_ix ix_list (pe_fld (pv 0) rfl) (pv 1) (fun _ _ => rfl)))
      (pss_cons (ps_if (PW.pt (pw_and (pt_cmp (pc_notN (pv 2))) (pw_and1 (pt_val (pe_meth0 (pv 2) T.cS T.M_S_is_in_colour (ok_S_is_in_colour T) (hr.mono (by decide)) T.B_S_is_in_colour .nil pass0))))) (pss_one (ps_ret (pv 2))) pss_nil)
      (pss_one (ps_ret pe_non)))), ?_⟩
    refine q_asg (ev_x_at T (ev_var (i := 0) rfl) h (ev_var (i := 1) rfl) hr4) fun H1 e1 => ?_
    have hl := h.hw.lat r
    unfold inCol at q
    cases hm : m.latest r with
    | none =>
      rw [hm] at q
      refine q_when (b := false) (et_is (et_and (b := false) (et_B (ev_notN (x := .non) (ev_var (i := 2) rfl))) fun z => absurd z (by decide)) rfl) (fun hb => absurd hb (by decide)) fun _ H2 e2 => ?_
      exact s_ret ev_c fun H3 e3 => q H3 (e1.trans (e2.trans e3))
    | some k =>
      rw [hm] at q
      have hk := hl k hm
      have h1 := (h.st k hk).ex e1
      have hp := h.hw.rt k hk
      refine q_when (et_and (et_B (ev_notN (x := .ref (L.ad k)) (ev_var (i := 2) rfl))) fun _ => et_B (ev_mS (ev_var (i := 2) rfl) h1 sm_is_in_colour ea_nil (spB_v h1 hp))) (fun hb H2 e2 => ?_) fun hb H2 e2 => ?_
      · have hb' : inc (m.dy k) = true := by simpa using hb
        replace q : RetV (oV L.ad (if inc (m.dy k) = true then some k else none)) H Q := q
        rw [if_pos hb'] at q
        exact s_ret (ev_var (i := 2) rfl) fun H3 e3 => q H3 (e1.trans (e2.trans e3))
      · have hb' : ¬ inc (m.dy k) = true := by simpa using hb
        replace q : RetV (oV L.ad (if inc (m.dy k) = true then some k else none)) H Q := q
        rw [if_neg hb'] at q
        exact s_ret ev_c fun H3 e3 => q H3 (e1.trans (e2.trans e3))
theorem oV_non {ad : Nat → Addr} {o : Option Nat} : (!decide (oV ad o = .non)) = o.isSome := by
  cases o with
  | none => rfl
  | some k => rfl
theorem oV_is {ad : Nat → Addr} {o : Option Nat} : decide (oV ad o = .non) = o.isNone := by
  cases o with
  | none => rfl
  | some k => rfl
theorem ok_X_is_all_red (T : Txt K mg A) : FnOk P w K mg base CX0 3 A.f_X_is_all_red A.d_X_is_all_red ["self"] (spXB A allRed) := by
  refine T.F_X_is_all_red.ok sc_X_is_all_red (fun vs H Q E h => ?_) (fun cdv Ar outer s H vs Q E hr h => ?_)
  · obtain ⟨L, m, rfl, _⟩ := h
    rfl
  · obtain ⟨L, m, rfl, h, q⟩ := h
    refine ⟨_, (pss_cons (ps_for PassesOwn.never rfl (pi_range1 rfl T.g_range (pa_cons (pe_glob (v := .int (4)) rfl T.g_RINGS ⟨_, rfl⟩) pa_nil)) (pg_name (i := 1) sc_X_is_all_red.nd rfl (Or.inl rfl)) (pss_one (ps_if (pt_cmp (pc_notN (pe_meth (pv 0) T.cX T.M_X_in_colour (ok_X_in_colour T) (hr.mono (by decide)) T.B_X_in_colour .nil pass0 (pa_cons (pv 1) pa_nil)))) (pss_one (ps_ret pe_bl)) pss_nil)))
      (pss_one (ps_ret pe_bl))), ?_⟩
    refine q_forR1 (j := 1) (ea_cons (ev_c (v := .int 4)) ea_nil) (by omega) (fun i σ' H' => (∃ v, σ' = [some (.ref L.a), v]) ∧ Ex H H' ∧ ∀ j, j < i → (inCol m j).isNone = true) (fun H1 e1 => ⟨⟨_, rfl⟩, e1, fun j hj => absurd hj (by omega)⟩) ?_ ?_
    · rintro i σ' H' hi ⟨⟨v, rfl⟩, e, hb⟩
      have hi' : i < 4 := by omega
      have h1 := h.ex e
      refine s_when (et_B (ev_is (ev_notN (ev_mX (ev_var (i := 0) rfl) h1 xm_in_colour (ea_cons (ev_var (i := 1) rfl) ea_nil) (spInCol_v h1 hi'))) (congrArg V.bl oV_non))) (fun hc H1 e1 => ?_) fun hc H1 e1 => ?_
      · have y : allRed m = false := by
          unfold allRed
          rw [List.all_eq_false]
          exact ⟨i, List.mem_range.mpr hi', by simpa [Option.isSome_iff_ne_none] using hc⟩
        rw [y] at q
        exact s_ret ev_c fun H3 e3 => q H3 (e.trans (e1.trans e3))
      · refine ⟨⟨_, rfl⟩, e.trans e1, fun j hj => ?_⟩
        by_cases hji : j = i
        · rw [hji]
          simpa using hc
        · exact hb j (by omega)
    · rintro σ' H' ⟨⟨v, rfl⟩, e, hb⟩
      have y : allRed m = true := by
        unfold allRed
        rw [List.all_eq_true]
        intro j hj
        exact hb j (List.mem_range.mp hj)
      rw [y] at q
      exact s_ret ev_c fun H3 e3 => q H3 (e.trans e3)
def spStuck (A : Adr) : Sp := fun vs H Q _ => ∃ L m k, vs = [.ref L.a, .ref (L.ad k)] ∧ CrAt A.CX A.CS H L m ∧ k < m.n ∧ RetV (.bl (isStuck m k)) H Q
theorem spStuck_v {H : Hp} {L : Lay} {m : Cm} {k : Nat} (h : CrAt A.CX A.CS H L m) (hk : k < m.n) : SpV (spStuck A) [.ref L.a, .ref (L.ad k)] H (.bl (isStuck m k)) := fun H1 e Q q E => ⟨L, m, k, rfl, h.ex e, hk, q⟩
theorem ok_X_is_stuck (T : Txt K mg A) : FnOk P w K mg base CX0 3 A.f_X_is_stuck A.d_X_is_stuck ["self", "stream"] (spStuck A) := by
  refine T.F_X_is_stuck.ok sc_X_is_stuck (fun vs H Q E h => ?_) (fun cdv Ar outer s H vs Q E hr h => ?_)
  · obtain ⟨L, m, k, rfl, _⟩ := h
    rfl
  · obtain ⟨L, m, k, rfl, h, hk, q⟩ := h
    refine ⟨_, (pss_cons (ps_if (PW.pt (pw_or (pt_cmp (pc_neI (pe_fld (pv 1) rfl) (pe_fld (pv 0) rfl))) (pw_or1 (pt_cmp (pc_notN (pe_meth (pv 0) T.cX T.M_X_in_colour (ok_X_in_colour T) (hr.mono (by decide)) T.B_X_in_colour .nil pass0 (pa_cons (pe_fld (pv 1) rfl) pa_nil))))))) (pss_one (ps_ret pe_bl)) pss_nil)
      (pss_cons (ps_set (i := 2) sc_X_is_stuck.nd rfl (Or.inl rfl) (pe_ix ix_list (pe_fld (pv 0) rfl) (pe_fld (pv 1) rfl) (fun _ _ => rfl)))
      (pss_one (ps_ret (pe_and (pe_cmp (pc_notN (pv 2))) (pe_one (pe_cmp (pc_ge (pe_fld (pv 2) rfl) (pe_fld (pv 1) rfl))))))))), ?_⟩
    have hs := h.st k hk
    have hrt := h.hw.rt k hk
    refine q_when (b := !decide ((m.st k).group = m.group) || (inCol m (m.st k).ring).isSome) (et_or (et_B (ev_neN (ev_fS (ev_var (i := 1) rfl) hs T.cS T.nS_group sl_group) (ev_x_group T (ev_var (i := 0) rfl) h))) fun _ => et_B (ev_is (ev_notN (ev_mX (ev_var (i := 0) rfl) h xm_in_colour (ea_cons (ev_fS (ev_var (i := 1) rfl) hs T.cS T.nS_ring sl_ring) ea_nil) (spInCol_v h hrt.ring))) (congrArg V.bl oV_non))) (fun hb H1 e1 => ?_) fun hb H1 e1 => ?_
    · have y : isStuck m k = false := if_pos hb
      rw [y] at q
      exact s_ret ev_c fun H3 e3 => q H3 (e1.trans e3)
    · have y : isStuck m k = (match m.latest (m.st k).ring with
        | some l => decide (k ≤ l)
        | none => false) := if_neg (by rw [hb]; decide)
      rw [y] at q
      have h1 := h.ex e1
      have hs1 := h1.st k hk
      refine q_asg (ev_x_at T (ev_var (i := 0) rfl) h1 (ev_fS (ev_var (i := 1) rfl) hs1 T.cS T.nS_ring sl_ring) hrt.ring) fun H2 e2 => ?_
      cases hm : m.latest (m.st k).ring with
      | none =>
        rw [hm] at q
        exact s_ret (ev_is (ev_andV (b := false) (ev_notN (x := .non) (ev_var (i := 2) rfl)) fun z => absurd z (by decide)) rfl) fun H3 e3 => q H3 (e1.trans (e2.trans e3))
      | some l =>
        rw [hm] at q
        have hl := (h1.ex e2).st l (h.hw.lat _ l hm)
        have hs2 := hs1.ex e2
        exact s_ret (ev_is (ev_andV (ev_notN (x := .ref (L.ad l)) (ev_var (i := 2) rfl)) fun _ => ev_geN (ev_fS (ev_var (i := 2) rfl) hl T.cS T.nS_number sl_number) (ev_fS (ev_var (i := 1) rfl) hs2 T.cS T.nS_number sl_number)) (congrArg V.bl (by simp))) fun H3 e3 => q H3 (e1.trans (e2.trans e3))
def spLst (A : Adr) (g : Cm → List Nat) : Sp := fun vs H Q _ => ∃ L m, vs = [.ref L.a] ∧ CrAt A.CX A.CS H L m ∧ RetL ((g m).map fun x => V.int (x : Nat)) H Q
theorem spLst_v {g : Cm → List Nat} {H : Hp} {L : Lay} {m : Cm} (h : CrAt A.CX A.CS H L m) : SpL (spLst A g) [.ref L.a] H ((g m).map fun x => V.int (x : Nat)) := fun H1 e Q q E => ⟨L, m, rfl, h.ex e, q⟩
theorem ok_X_lights (T : Txt K mg A) : FnOk P w K mg base CX0 3 A.f_X_lights A.d_X_lights ["self"] (spLst A lights) := by
  refine T.F_X_lights.ok sc_X_lights (fun vs H Q E h => ?_) (fun cdv Ar outer s H vs Q E hr h => ?_)
  · obtain ⟨L, m, rfl, _⟩ := h
    rfl
  · obtain ⟨L, m, rfl, h, q⟩ := h
    refine ⟨_, (pss_one (ps_ret (pe_lst (pa_cons (pe_call (ok_G_bits_of T) (hr.mono (by decide)) rfl T.g_G_bits_of T.F_G_bits_of.kp T.B_G_bits_of .nil pass0 (pa_cons (pe_meth0 (pv 0) T.cX T.M_X_greens (ok_X_greens T) (hr.mono (by decide)) T.B_X_greens .nil pass0) pa_nil)) (pa_cons (pe_call (ok_G_bits_of T) (hr.mono (by decide)) rfl T.g_G_bits_of T.F_G_bits_of.kp T.B_G_bits_of .nil pass0 (pa_cons (pe_lc (own := [("stream", 1)]) (g := gName 1) rfl sc_X_lights.nd (pi_list (pe_fld (pv 0) rfl)) (blkOk_by (N := ["self", "stream"]) (sc := defScope st_X_lights) (by decide +kernel)) (fun _ _ _ _ _ => pg_name (i := 1) sc_X_lights.nd rfl (Or.inl rfl)) (fun _ _ _ _ _ => by exact pts_one (pt_val (pe_meth0 (pv 1) T.cS T.M_S_is_yellow (ok_S_is_yellow T) (hr.mono (by decide)) T.B_S_is_yellow .nil pass0))) (fun _ _ _ _ _ => by exact (pv 1))) pa_nil)) (pa_cons (pe_call (ok_G_bits_of T) (hr.mono (by decide)) rfl T.g_G_bits_of T.F_G_bits_of.kp T.B_G_bits_of .nil pass0 (pa_cons (pe_lc (own := [("stream", 1)]) (g := gName 1) rfl sc_X_lights.nd (pi_list (pe_fld (pv 0) rfl)) (blkOk_by (N := ["self", "stream"]) (sc := defScope st_X_lights) (by decide +kernel)) (fun _ _ _ _ _ => pg_name (i := 1) sc_X_lights.nd rfl (Or.inl rfl)) (fun _ _ _ _ _ => by exact pts_one (pt_val (pe_meth0 (pv 1) T.cS T.M_S_people_walk (ok_S_people_walk T) (hr.mono (by decide)) T.B_S_people_walk .nil pass0))) (fun _ _ _ _ _ => by exact (pv 1))) pa_nil)) (pa_cons (pe_call (ok_G_bits_of T) (hr.mono (by decide)) rfl T.g_G_bits_of T.F_G_bits_of.kp T.B_G_bits_of .nil pass0 (pa_cons (pe_lc (own := [("stream", 1)]) (g := gName 1) rfl sc_X_lights.nd (pi_list (pe_fld (pv 0) rfl)) (blkOk_by (N := ["self", "stream"]) (sc := defScope st_X_lights) (by decide +kernel)) (fun _ _ _ _ _ => pg_name (i := 1) sc_X_lights.nd rfl (Or.inl rfl)) (fun _ _ _ _ _ => by exact pts_one (pt_val (pe_meth0 (pv 1) T.cS T.M_S_people_clear (ok_S_people_clear T) (hr.mono (by decide)) T.B_S_people_clear .nil pass0))) (fun _ _ _ _ _ => by exact (pv 1))) pa_nil)) pa_nil))))))), ?_⟩
    refine s_retL (el_lst (ea_cons (ev_bits (g := fun k => grn (m.dy k)) h (el_mX (ev_var (i := 0) rfl) h xm_greens ea_nil (spGreens_v h)))
      (ea_cons (ev_bits (g := fun k => ylw (m.dy k)) h (el_sel h (ev_x_streams (X := L.a) T (ev_var (i := 0) rfl) h) (fun _ => rfl) (by show 1 < 2; decide) fun i H1 e hi => ?_))
      (ea_cons (ev_bits (g := fun k => walks (m.st k) (m.dy k)) h (el_sel h (ev_x_streams (X := L.a) T (ev_var (i := 0) rfl) h) (fun _ => rfl) (by show 1 < 2; decide) fun i H1 e hi => ?_))
      (ea_cons (ev_bits (g := fun k => clears (m.st k) (m.dy k)) h (el_sel h (ev_x_streams (X := L.a) T (ev_var (i := 0) rfl) h) (fun _ => rfl) (by show 1 < 2; decide) fun i H1 e hi => ?_)) ea_nil)))) (by show 4 ≤ 100000; decide)) q
    · have h1 := (h.st i hi).ex e
      have hp := h.hw.rt i hi
      exact et_B (ev_mS (ev_var (i := 1) rfl) h1 sm_is_yellow ea_nil (spB_v h1 hp))
    · have h1 := (h.st i hi).ex e
      have hp := h.hw.rt i hi
      exact et_B (ev_mS (ev_var (i := 1) rfl) h1 sm_people_walk ea_nil (spB_v h1 hp))
    · have h1 := (h.st i hi).ex e
      have hp := h.hw.rt i hi
      exact et_B (ev_mS (ev_var (i := 1) rfl) h1 sm_people_clear ea_nil (spB_v h1 hp))
theorem ok_X_remembered (T : Txt K mg A) : FnOk P w K mg base CX0 2 A.f_X_remembered A.d_X_remembered ["self"] (spLst A kept) := by
  refine T.F_X_remembered.ok sc_X_remembered (fun vs H Q E h => ?_) (fun cdv Ar outer s H vs Q E hr h => ?_)
  · obtain ⟨L, m, rfl, _⟩ := h
    rfl
  · obtain ⟨L, m, rfl, h, q⟩ := h
    refine ⟨_, (pss_one (ps_ret (pe_lst (pa_cons (pe_call (ok_G_bits_of T) (hr.mono (by decide)) rfl T.g_G_bits_of T.F_G_bits_of.kp T.B_G_bits_of .nil pass0 (pa_cons (pe_lc (own := [("stream", 1)]) (g := gName 1) rfl sc_X_remembered.nd (pi_list (pe_fld (pv 0) rfl)) (blkOk_by (N := ["self", "stream"]) (sc := defScope st_X_remembered) (by decide +kernel)) (fun _ _ _ _ _ => pg_name (i := 1) sc_X_remembered.nd rfl (Or.inl rfl)) (fun _ _ _ _ _ => by exact pts_one (pt_val (pe_fldB (K := K) rfl (pv 1) rfl))) (fun _ _ _ _ _ => by exact (pv 1))) pa_nil)) (pa_cons (pe_call (ok_G_bits_of T) (hr.mono (by decide)) rfl T.g_G_bits_of T.F_G_bits_of.kp T.B_G_bits_of .nil pass0 (pa_cons (pe_lc (own := [("stream", 1)]) (g := gName 1) rfl sc_X_remembered.nd (pi_list (pe_fld (pv 0) rfl)) (blkOk_by (N := ["self", "stream"]) (sc := defScope st_X_remembered) (by decide +kernel)) (fun _ _ _ _ _ => pg_name (i := 1) sc_X_remembered.nd rfl (Or.inl rfl)) (fun _ _ _ _ _ => by exact pts_one (pt_val (pe_fldB (K := K) rfl (pv 1) rfl))) (fun _ _ _ _ _ => by exact (pv 1))) pa_nil)) pa_nil))))), ?_⟩
    refine s_retL (el_lst (ea_cons (ev_bits (g := fun k => (m.dy k).car) h (el_sel h (ev_x_streams (X := L.a) T (ev_var (i := 0) rfl) h) (fun _ => rfl) (by show 1 < 2; decide) fun i H1 e hi => ?_))
      (ea_cons (ev_bits (g := fun k => (m.dy k).but) h (el_sel h (ev_x_streams (X := L.a) T (ev_var (i := 0) rfl) h) (fun _ => rfl) (by show 1 < 2; decide) fun i H1 e hi => ?_)) ea_nil)) (by show 2 ≤ 100000; decide)) q
    · have h1 := (h.st i hi).ex e
      exact et_B (ev_fS (ev_var (i := 1) rfl) h1 T.cS T.nS_car_kept sl_car_kept)
    · have h1 := (h.st i hi).ex e
      exact et_B (ev_fS (ev_var (i := 1) rfl) h1 T.cS T.nS_button_kept sl_button_kept)
end
end Xg

namespace Xg
open PySem PySem.Spec PyProof.Rows L2 Evl
open PySem.W (Codec)
section
variable {P : Program} {w : World} {K : PySem.W.Frag} {mg : Str → Option Value} {base : Heap} {A : Adr}
/-! ### a step in the heap -/
structure SL where
  L : Lay
  p : Addr
  lc : Addr
structure StpAt (A : Adr) (H : Hp) (S : SL) (i : Inp) (m : Cm) (c : List Nat) : Prop where
  cr : CrAt A.CX A.CS H S.L m
  obj : ∃ dx, H S.p = some (.ins A.CP dx (pF (.ref S.L.a) i.cars i.people (oV S.L.ad i.f) (.ref S.lc)))
  lst : H S.lc = some (.lst (refs S.L.ad c))
  fn : ∀ j, i.f = some j → j < m.n
  cn : ∀ k, k ∈ c → k < m.n
  clen : c.length ≤ 16
  n1 : S.lc ≠ S.L.ls
  n2 : S.lc ≠ S.L.ll
section
variable {H H' : Hp} {S : SL} {i : Inp} {m m' : Cm} {c : List Nat} {k : Nat}
theorem StpAt.ex (h : StpAt A H S i m c) (e : Ex H H') : StpAt A H' S i m c := by
  obtain ⟨dx, ho⟩ := h.obj
  exact ⟨h.cr.ex e, ⟨dx, e _ _ ho⟩, e _ _ h.lst, h.fn, h.cn, h.clen, h.n1, h.n2⟩
theorem p_ne_x {a b C C' dx dx' : Addr} {ls ll cr f lc : V} {g x y : Nat} (h1 : H a = some (.ins C dx (pF cr x y f lc))) (h2 : H b = some (.ins C' dx' (xF ls g ll))) : a ≠ b := ne_of h1 h2 (by
  intro z
  have e : pF cr x y f lc = xF ls g ll := by injection z
  have e2 := congrArg List.length e
  have e3 : (5 : Nat) = 3 := e2
  omega)
theorem p_ne_s {a b C C' dx dx' : Addr} {cr f lc : V} {x y k : Nat} {p : Strm} {d : Dy} (h1 : H a = some (.ins C dx (pF cr x y f lc))) (h2 : H b = some (.ins C' dx' (sF k p d))) : a ≠ b := ne_of h1 h2 (by
  intro z
  have e : pF cr x y f lc = sF k p d := by injection z
  have e2 := congrArg List.length e
  have e3 : (5 : Nat) = 18 := e2
  omega)
theorem StpAt.p_foot (h : StpAt A H S i m c) : ¬ Foot S.L m.n S.p := by
  obtain ⟨dx, ho⟩ := h.obj
  obtain ⟨dx2, ho2⟩ := h.cr.obj
  rintro (e | e | ⟨k, hk, e⟩)
  · exact p_ne_x ho ho2 e
  · exact ne_of ho h.cr.lat (by intro z; cases z) e
  · obtain ⟨dk, hs⟩ := h.cr.st k hk
    exact p_ne_s ho hs e
theorem StpAt.lc_foot (h : StpAt A H S i m c) : ¬ Foot S.L m.n S.lc := by
  obtain ⟨dx2, ho2⟩ := h.cr.obj
  rintro (e | e | ⟨k, hk, e⟩)
  · exact ne_of h.lst ho2 (by intro z; cases z) e
  · exact h.n2 e
  · obtain ⟨dk, hs⟩ := h.cr.st k hk
    exact ne_of h.lst hs (by intro z; cases z) e
/-- the crossing changes -/
theorem StpAt.keep {ll : Addr} (h : StpAt A H S i m c) (hc : CrAt A.CX A.CS H' { S.L with ll := ll } m') (hP : m'.P = m.P) (hf : Fr (Foot S.L m.n) H H') (hl : ll = S.L.ll ∨ H ll = none) : StpAt A H' { S with L := { S.L with ll := ll } } i m' c := by
  obtain ⟨dx, ho⟩ := h.obj
  have hn : m'.n = m.n := congrArg List.length hP
  refine ⟨hc, ⟨dx, hf _ _ ho h.p_foot⟩, hf _ _ h.lst h.lc_foot, fun j hj => by rw [hn]; exact h.fn j hj, fun k hk => by rw [hn]; exact h.cn k hk, h.clen, h.n1, ?_⟩
  rcases hl with rfl | hl
  · exact h.n2
  · exact ne_of_none h.lst hl
theorem StpAt.keep0 (h : StpAt A H S i m c) (hc : CrAt A.CX A.CS H' S.L m') (hP : m'.P = m.P) (hf : Fr (Foot S.L m.n) H H') : StpAt A H' S i m' c := h.keep (ll := S.L.ll) hc hP hf (Or.inl rfl)
end
/-! ### reading it -/
section
variable {σ : L2.St} {H : Hp} {ta tb te tl : TE} {D : Ends} {S : SL} {i : Inp} {m : Cm} {c : List Nat} {k j : Nat}
theorem ev_p_crossing (T : Txt K mg A) (ha : Ev ta σ H (.ref S.p)) (h : StpAt A H S i m c) : Ev (tFld K ta "crossing") σ H (.ref S.L.a) := by
  obtain ⟨dx, ho⟩ := h.obj
  exact ev_fld ha ho T.cP T.nP_crossing pl_crossing
theorem ev_p_cars (T : Txt K mg A) (ha : Ev ta σ H (.ref S.p)) (h : StpAt A H S i m c) : Ev (tFld K ta "cars") σ H (.int (i.cars : Nat)) := by
  obtain ⟨dx, ho⟩ := h.obj
  exact ev_fld ha ho T.cP T.nP_cars pl_cars
theorem ev_p_people (T : Txt K mg A) (ha : Ev ta σ H (.ref S.p)) (h : StpAt A H S i m c) : Ev (tFld K ta "people") σ H (.int (i.people : Nat)) := by
  obtain ⟨dx, ho⟩ := h.obj
  exact ev_fld ha ho T.cP T.nP_people pl_people
theorem ev_p_first (T : Txt K mg A) (ha : Ev ta σ H (.ref S.p)) (h : StpAt A H S i m c) : Ev (tFld K ta "first") σ H (oV S.L.ad i.f) := by
  obtain ⟨dx, ho⟩ := h.obj
  exact ev_fld ha ho T.cP T.nP_first pl_first
theorem ev_p_called (T : Txt K mg A) (ha : Ev ta σ H (.ref S.p)) (h : StpAt A H S i m c) : Ev (tFld K ta "called") σ H (.ref S.lc) := by
  obtain ⟨dx, ho⟩ := h.obj
  exact ev_fld ha ho T.cP T.nP_called pl_called
theorem ev_mP {mn : Str} {sp : Sp} {dvs vs : List V} {E : XK} {t : TA} {z : V} (ha : Ev ta σ H (.ref S.p)) (h : StpAt A H S i m c) (hm : ∀ {cr : V} {x y : Nat} {f lc : V}, (pF cr x y f lc).lookup mn = none) (hA : EvA t σ H vs) (hs : SpV sp (.ref S.p :: (vs ++ dvs)) H z) : Ev (tMeth A.CP mn sp dvs E ta t) σ H z := by
  obtain ⟨dx, ho⟩ := h.obj
  exact ev_meth ha ho hm hA hs
theorem go_mP {mn : Str} {sp : Sp} {dvs vs : List V} {E : XK} {t : TA} {Q : VK} (ha : Ev ta σ H (.ref S.p)) (h : StpAt A H S i m c) (hm : ∀ {cr : V} {x y : Nat} {f lc : V}, (pF cr x y f lc).lookup mn = none) (hA : EvA t σ H vs) (kk : ∀ H1, Ex H H1 → sp (.ref S.p :: (vs ++ dvs)) H1 Q E) : tMeth A.CP mn sp dvs E ta t σ H Q := by
  obtain ⟨dx, ho⟩ := h.obj
  exact go_meth ha ho hm hA kk
end
def spPB (A : Adr) (g : Inp → Cm → List Nat → Nat → Bool) : Sp := fun vs H Q _ => ∃ S i m c k, vs = [.ref S.p, .ref (S.L.ad k)] ∧ StpAt A H S i m c ∧ k < m.n ∧ RetV (.bl (g i m c k)) H Q
theorem spPB_v {g : Inp → Cm → List Nat → Nat → Bool} {H : Hp} {S : SL} {i : Inp} {m : Cm} {c : List Nat} {k : Nat} (h : StpAt A H S i m c) (hk : k < m.n) : SpV (spPB A g) [.ref S.p, .ref (S.L.ad k)] H (.bl (g i m c k)) := fun H1 e Q q E => ⟨S, i, m, c, k, rfl, h.ex e, hk, q⟩
theorem ok_P_has_car (T : Txt K mg A) : FnOk P w K mg base CX0 1 A.f_P_has_car A.d_P_has_car ["self", "stream"] (spPB A fun i _ _ k => i.cars.testBit k) := by
  refine T.F_P_has_car.ok sc_P_has_car (fun vs H Q E h => ?_) (fun cdv Ar outer s H vs Q E hr h => ?_)
  · obtain ⟨S, i, m, c, k, rfl, _⟩ := h
    rfl
  · obtain ⟨S, i, m, c, k, rfl, h, hk, q⟩ := h
    refine ⟨_, (pss_one (ps_ret (pe_cmp (pc_eqI (pe_op op_and (pe_op op_shr (pe_fld (pv 0) rfl) (pe_fld (pv 1) rfl)) pe_int) pe_int)))), ?_⟩
    have hs := h.cr.st k hk
    exact s_ret (ev_is (ev_cmp (ev_op (ev_op (ev_p_cars T (ev_var (i := 0) rfl) h) (ev_fS (ev_var (i := 1) rfl) hs T.cS T.nS_number sl_number) (rv_I (Int.natCast_nonneg _))) ev_c rv_I0) ev_c) (congrArg V.bl (bit_get _ _))) q
theorem ok_P_has_button (T : Txt K mg A) : FnOk P w K mg base CX0 1 A.f_P_has_button A.d_P_has_button ["self", "stream"] (spPB A fun i _ _ k => i.people.testBit k) := by
  refine T.F_P_has_button.ok sc_P_has_button (fun vs H Q E h => ?_) (fun cdv Ar outer s H vs Q E hr h => ?_)
  · obtain ⟨S, i, m, c, k, rfl, _⟩ := h
    rfl
  · obtain ⟨S, i, m, c, k, rfl, h, hk, q⟩ := h
    refine ⟨_, (pss_one (ps_ret (pe_cmp (pc_eqI (pe_op op_and (pe_op op_shr (pe_fld (pv 0) rfl) (pe_fld (pv 1) rfl)) pe_int) pe_int)))), ?_⟩
    have hs := h.cr.st k hk
    exact s_ret (ev_is (ev_cmp (ev_op (ev_op (ev_p_people T (ev_var (i := 0) rfl) h) (ev_fS (ev_var (i := 1) rfl) hs T.cS T.nS_number sl_number) (rv_I (Int.natCast_nonneg _))) ev_c rv_I0) ev_c) (congrArg V.bl (bit_get _ _))) q
theorem ok_P_is_first (T : Txt K mg A) : FnOk P w K mg base CX0 1 A.f_P_is_first A.d_P_is_first ["self", "stream"] (spPB A fun i _ _ k => isFirst i.f k) := by
  refine T.F_P_is_first.ok sc_P_is_first (fun vs H Q E h => ?_) (fun cdv Ar outer s H vs Q E hr h => ?_)
  · obtain ⟨S, i, m, c, k, rfl, _⟩ := h
    rfl
  · obtain ⟨S, i, m, c, k, rfl, h, hk, q⟩ := h
    refine ⟨_, (pss_one (ps_ret (pe_and (pe_cmp (pc_notN (pe_fld (pv 0) rfl))) (pe_one (pe_cmp (pc_eqI (pe_fld (pe_fld (pv 0) rfl) rfl) (pe_fld (pv 1) rfl))))))), ?_⟩
    have hs := h.cr.st k hk
    have ef := ev_p_first (σ := [some (.ref S.p), some (.ref (S.L.ad k))]) T (ev_var (i := 0) rfl) h
    have hf := h.fn
    replace q : RetV (.bl (isFirst i.f k)) H Q := q
    cases hi : i.f with
    | none =>
      rw [hi] at ef q
      exact s_ret (ev_is (ev_andV (b := false) (ev_notN ef) fun z => absurd (show false = true from z) (by decide)) rfl) q
    | some j =>
      rw [hi] at ef q
      have hj := h.cr.st j (hf j hi)
      exact s_ret (ev_is (ev_andV (ev_notN ef) fun _ => ev_eqN (ev_fS ef hj T.cS T.nS_number sl_number) (ev_fS (ev_var (i := 1) rfl) hs T.cS T.nS_number sl_number)) (congrArg V.bl (Bool.true_and _))) q
theorem ok_P_is_crossed_by_first (T : Txt K mg A) : FnOk P w K mg base CX0 2 A.f_P_is_crossed_by_first A.d_P_is_crossed_by_first ["self", "stream"] (spPB A fun i m _ k => byFirst m.P i.f k) := by
  refine T.F_P_is_crossed_by_first.ok sc_P_is_crossed_by_first (fun vs H Q E h => ?_) (fun cdv Ar outer s H vs Q E hr h => ?_)
  · obtain ⟨S, i, m, c, k, rfl, _⟩ := h
    rfl
  · obtain ⟨S, i, m, c, k, rfl, h, hk, q⟩ := h
    refine ⟨_, (pss_one (ps_ret (pe_and (pe_cmp (pc_notN (pe_fld (pv 0) rfl))) (pe_one (pe_call (ok_G_cross T) (hr.mono (by decide)) rfl T.g_G_cross T.F_G_cross.kp T.B_G_cross .nil pass0 (pa_cons (pe_fld (pv 0) rfl) (pa_cons (pv 1) pa_nil))))))), ?_⟩
    have hs := h.cr.st k hk
    have ef := ev_p_first (σ := [some (.ref S.p), some (.ref (S.L.ad k))]) T (ev_var (i := 0) rfl) h
    have hf := h.fn
    replace q : RetV (.bl (byFirst m.P i.f k)) H Q := q
    cases hi : i.f with
    | none =>
      rw [hi] at ef q
      exact s_ret (ev_is (ev_andV (b := false) (ev_notN ef) fun z => absurd (show false = true from z) (by decide)) rfl) q
    | some j =>
      rw [hi] at ef q
      have hj := h.cr.st j (hf j hi)
      exact s_ret (ev_is (ev_andV (ev_notN ef) fun _ => ev_call (ea_cons ef (ea_cons (ev_var (i := 1) rfl) ea_nil)) (sp2_v hj hs)) (congrArg V.bl (Bool.true_and _))) q
theorem ok_P_is_ready (T : Txt K mg A) : FnOk P w K mg base CX0 5 A.f_P_is_ready A.d_P_is_ready ["self", "stream"] (spPB A fun i m _ k => ready m i.f k) := by
  refine T.F_P_is_ready.ok sc_P_is_ready (fun vs H Q E h => ?_) (fun cdv Ar outer s H vs Q E hr h => ?_)
  · obtain ⟨S, i, m, c, k, rfl, _⟩ := h
    rfl
  · obtain ⟨S, i, m, c, k, rfl, h, hk, q⟩ := h
    refine ⟨_, (pss_cons (ps_if (pt_val (pe_meth (pv 0) T.cP T.M_P_is_first (ok_P_is_first T) (hr.mono (by decide)) T.B_P_is_first .nil pass0 (pa_cons (pv 1) pa_nil))) (pss_one (ps_ret pe_bl)) pss_nil)
      (pss_cons (ps_if (pt_val (pe_meth (pv 0) T.cP T.M_P_is_crossed_by_first (ok_P_is_crossed_by_first T) (hr.mono (by decide)) T.B_P_is_crossed_by_first .nil pass0 (pa_cons (pv 1) pa_nil))) (pss_one (ps_ret (pe_meth0 (pv 1) T.cS T.M_S_people_are_done (ok_S_people_are_done T) (hr.mono (by decide)) T.B_S_people_are_done .nil pass0))) pss_nil)
      (pss_one (ps_ret (pe_meth0 (pv 1) T.cS T.M_S_may_end (ok_S_may_end T) (hr.mono (by decide)) T.B_S_may_end .nil pass0))))), ?_⟩
    replace q : RetV (.bl (ready m i.f k)) H Q := q
    have hp := h.cr.hw.rt k hk
    refine q_when (et_B (ev_mP (ev_var (i := 0) rfl) h pm_is_first (ea_cons (ev_var (i := 1) rfl) ea_nil) (spPB_v h hk))) (fun hb H1 e1 => ?_) fun hb H1 e1 => ?_
    · have y : ready m i.f k = false := if_pos hb
      rw [y] at q
      exact s_ret ev_c fun H3 e3 => q H3 (e1.trans e3)
    · have y : ready m i.f k = if byFirst m.P i.f k = true then done (m.st k) (m.dy k) else mayEnd (m.st k) (m.dy k) := if_neg (by rw [hb]; decide)
      rw [y] at q
      have h1 := h.ex e1
      refine q_when (et_B (ev_mP (ev_var (i := 0) rfl) h1 pm_is_crossed_by_first (ea_cons (ev_var (i := 1) rfl) ea_nil) (spPB_v h1 hk))) (fun hb2 H2 e2 => ?_) fun hb2 H2 e2 => ?_
      · rw [if_pos hb2] at q
        have hs := (h1.ex e2).cr.st k hk
        exact s_ret (ev_mS (ev_var (i := 1) rfl) hs sm_people_are_done ea_nil (spB_v hs hp)) fun H3 e3 => q H3 (e1.trans (e2.trans e3))
      · rw [if_neg (by rw [hb2]; decide)] at q
        have hs := (h1.ex e2).cr.st k hk
        exact s_ret (ev_mS (ev_var (i := 1) rfl) hs sm_may_end ea_nil (spB_v hs hp)) fun H3 e3 => q H3 (e1.trans (e2.trans e3))
/-! ### the first that fits -/
theorem find_at {c : List Nat} {g : Nat → Bool} : ∀ {i x : Nat}, c[i]? = some x → g x = true → (∀ y, y ∈ c.take i → g y = false) → c.find? g = some x := by
  induction c with
  | nil =>
    intro i x h
    simp at h
  | cons a l ih =>
    intro i x h hx hb
    cases i with
    | zero =>
      obtain rfl : a = x := Option.some.inj h
      rw [List.find?_cons_of_pos hx]
    | succ i =>
      have ha : g a = false := hb a (by simp)
      rw [List.find?_cons_of_neg (by rw [ha]; decide)]
      exact ih (i := i) h hx fun y hy => hb y (by simp [hy])
theorem find_no {c : List Nat} {g : Nat → Bool} (h : ∀ y, y ∈ c → g y = false) : c.find? g = none := by
  rw [List.find?_eq_none]
  intro x hx
  rw [h x hx]
  decide
theorem take_all {c : List Nat} {i x : Nat} {R : Nat → Prop} (hi : c[i]? = some x) (hx : R x) (h : ∀ y, y ∈ c.take i → R y) : ∀ y, y ∈ c.take (i + 1) → R y := by
  intro y hy
  rw [take_more hi, List.mem_append] at hy
  rcases hy with hy | hy
  · exact h y hy
  · rw [List.mem_singleton] at hy
    rw [hy]
    exact hx
def spPV (A : Adr) (g : Inp → Cm → List Nat → Nat → Option Nat) : Sp := fun vs H Q _ => ∃ S i m c k, vs = [.ref S.p, .ref (S.L.ad k)] ∧ StpAt A H S i m c ∧ k < m.n ∧ RetV (oV S.L.ad (g i m c k)) H Q
theorem spPV_v {g : Inp → Cm → List Nat → Nat → Option Nat} {H : Hp} {S : SL} {i : Inp} {m : Cm} {c : List Nat} {k : Nat} (h : StpAt A H S i m c) (hk : k < m.n) : SpV (spPV A g) [.ref S.p, .ref (S.L.ad k)] H (oV S.L.ad (g i m c k)) := fun H1 e Q q E => ⟨S, i, m, c, k, rfl, h.ex e, hk, q⟩
theorem ok_P_heir (T : Txt K mg A) : FnOk P w K mg base CX0 3 A.f_P_heir A.d_P_heir ["self", "stream"] (spPV A fun i m c k => heir m.P c i.f k) := by
  refine T.F_P_heir.ok sc_P_heir (fun vs H Q E h => ?_) (fun cdv Ar outer s H vs Q E hr h => ?_)
  · obtain ⟨S, i, m, c, k, rfl, _⟩ := h
    rfl
  · obtain ⟨S, i, m, c, k, rfl, h, hk, q⟩ := h
    refine ⟨_, (pss_cons (ps_if (pt_val (pe_meth (pv 0) T.cP T.M_P_is_crossed_by_first (ok_P_is_crossed_by_first T) (hr.mono (by decide)) T.B_P_is_crossed_by_first .nil pass0 (pa_cons (pv 1) pa_nil))) (pss_cons (ps_if (pt_val (pe_call (ok_G_of_one_ring_and_group T) (hr.mono (by decide)) rfl T.g_G_of_one_ring_and_group T.F_G_of_one_ring_and_group.kp T.B_G_of_one_ring_and_group .nil pass0 (pa_cons (pe_fld (pv 0) rfl) (pa_cons (pv 1) pa_nil)))) (pss_one (ps_ret (pe_fld (pv 0) rfl))) pss_nil)
      (pss_one (ps_ret pe_non))) pss_nil)
      (pss_cons (ps_for PassesOwn.never rfl (pi_list (pe_fld (pv 0) rfl)) (pg_name (i := 2) sc_P_heir.nd rfl (Or.inl rfl)) (pss_one (ps_if (PW.pt (pw_and (pt_cmp (pc_gt (pe_fld (pv 2) rfl) (pe_fld (pv 1) rfl))) (pw_and1 (pt_val (pe_call (ok_G_of_one_ring_and_group T) (hr.mono (by decide)) rfl T.g_G_of_one_ring_and_group T.F_G_of_one_ring_and_group.kp T.B_G_of_one_ring_and_group .nil pass0 (pa_cons (pv 2) (pa_cons (pv 1) pa_nil))))))) (pss_one (ps_ret (pv 2))) pss_nil)))
      (pss_one (ps_ret pe_non)))), ?_⟩
    replace q : RetV (oV S.L.ad (heir m.P c i.f k)) H Q := q
    refine q_when (et_B (ev_mP (ev_var (i := 0) rfl) h pm_is_crossed_by_first (ea_cons (ev_var (i := 1) rfl) ea_nil) (spPB_v h hk))) (fun hb H1 e1 => ?_) fun hb H1 e1 => ?_
    · have h1 := h.ex e1
      have ef := ev_p_first (σ := [some (.ref S.p), some (.ref (S.L.ad k)), none]) T (ev_var (i := 0) rfl) h1
      have hs := h1.cr.st k hk
      unfold heir at q
      replace hb : byFirst m.P i.f k = true := hb
      rw [if_pos hb] at q
      cases hi : i.f with
      | none =>
        rw [hi] at hb
        exact absurd (show false = true from hb) (by decide)
      | some j =>
        rw [hi] at ef q
        have hj := h1.cr.st j (h.fn j hi)
        replace q : RetV (oV S.L.ad (if besideP m.P j k = true then some j else none)) H Q := q
        refine q_when (b := besideP m.P j k) (et_B (ev_call (ea_cons ef (ea_cons (ev_var (i := 1) rfl) ea_nil)) (sp2_v hj hs))) (fun hb2 H2 e2 => ?_) fun hb2 H2 e2 => ?_
        · rw [if_pos hb2] at q
          exact s_ret (ef.mono e2) fun H3 e3 => q H3 (e1.trans (e2.trans e3))
        · rw [if_neg (by rw [hb2]; decide)] at q
          exact s_ret ev_c fun H3 e3 => q H3 (e1.trans (e2.trans e3))
    · unfold heir at q
      replace hb : byFirst m.P i.f k = false := hb
      rw [if_neg (by rw [hb]; decide)] at q
      have h1 := h.ex e1
      refine q_forLn (ev_p_called T (ev_var (i := 0) rfl) h1) (sq_of h1.lst) (fun t σ' H' => (∃ v, σ' = [some (.ref S.p), some (.ref (S.L.ad k)), v]) ∧ Ex H H' ∧ ∀ j, j ∈ c.take t → (decide (k < j) && besideP m.P j k) = false) (fun H2 e2 => ⟨⟨_, rfl⟩, e1.trans e2, fun j hj => by simp at hj⟩) (fun t σ' H' _ ⟨_, e, _⟩ => sq_of (e _ _ h.lst)) ?_ ?_
      · rintro t x σ' H' ht ⟨⟨v, rfl⟩, e, hno⟩
        obtain ⟨j, hj, rfl⟩ := refs_get ht
        have h2 := h.ex e
        have hjn := h.cn j (List.mem_of_getElem? hj)
        have hsj := h2.cr.st j hjn
        have hsk := h2.cr.st k hk
        refine s_when (b := decide (k < j) && besideP m.P j k) (et_and (et_B (ev_gtN (ev_fS (ev_var (i := 2) rfl) hsj T.cS T.nS_number sl_number) (ev_fS (ev_var (i := 1) rfl) hsk T.cS T.nS_number sl_number))) fun _ => et_B (ev_call (ea_cons (ev_var (i := 2) rfl) (ea_cons (ev_var (i := 1) rfl) ea_nil)) (sp2_v hsj hsk))) (fun hc H3 e3 => ?_) fun hc H3 e3 => ?_
        · rw [find_at (g := fun j => decide (k < j) && besideP m.P j k) hj hc hno] at q
          exact s_ret (ev_var (i := 2) rfl) fun H4 e4 => q H4 (e.trans (e3.trans e4))
        · exact ⟨⟨_, rfl⟩, e.trans e3, take_all hj hc hno⟩
      · rintro σ' H' ⟨⟨v, rfl⟩, e, hno⟩
        rw [refs_len, List.take_length] at hno
        rw [find_no (g := fun j => decide (k < j) && besideP m.P j k) hno] at q
        exact s_ret ev_c fun H4 e4 => q H4 (e.trans e4)
def spP0 (A : Adr) (g : Inp → Cm → List Nat → V) : Sp := fun vs H Q _ => ∃ S i m c, vs = [.ref S.p] ∧ StpAt A H S i m c ∧ RetV (g i m c) H Q
theorem spP0_v {g : Inp → Cm → List Nat → V} {H : Hp} {S : SL} {i : Inp} {m : Cm} {c : List Nat} (h : StpAt A H S i m c) : SpV (spP0 A g) [.ref S.p] H (g i m c) := fun H1 e Q q E => ⟨S, i, m, c, rfl, h.ex e, q⟩
theorem any_at {c : List Nat} {g : Nat → Bool} {x : Nat} (h : x ∈ c) (hx : g x = true) : c.any g = true := List.any_eq_true.mpr ⟨x, h, hx⟩
theorem any_no {c : List Nat} {g : Nat → Bool} (h : ∀ y, y ∈ c → g y = false) : c.any g = false := by
  rw [List.any_eq_false]
  intro x hx
  rw [h x hx]
  decide
theorem ok_P_is_pressed (T : Txt K mg A) : FnOk P w K mg base CX0 4 A.f_P_is_pressed A.d_P_is_pressed ["self"] (spP0 A fun _ m c => .bl (pressed m c)) := by
  refine T.F_P_is_pressed.ok sc_P_is_pressed (fun vs H Q E h => ?_) (fun cdv Ar outer s H vs Q E hr h => ?_)
  · obtain ⟨S, i, m, c, rfl, _⟩ := h
    rfl
  · obtain ⟨S, i, m, c, rfl, h, q⟩ := h
    refine ⟨_, (pss_cons (ps_set (i := 1) sc_P_is_pressed.nd rfl (Or.inl rfl) (pe_meth0 (pe_fld (pv 0) rfl) T.cX T.M_X_greens (ok_X_greens T) (hr.mono (by decide)) T.B_X_greens .nil pass0))
      (pss_cons (ps_if (pt_cmp (pc_eqI (pe_callB call_len_seq (by rfl) T.g_len PySem.boot_len (pa_cons (pv 1) pa_nil)) pe_int)) (pss_one (ps_ret pe_bl)) pss_nil)
      (pss_cons (ps_for PassesOwn.never rfl (pi_list (pe_fld (pv 0) rfl)) (pg_name (i := 2) sc_P_is_pressed.nd rfl (Or.inl rfl)) (pss_cons (ps_if (pt_val (pe_meth (pe_fld (pv 0) rfl) T.cX T.M_X_is_stuck (ok_X_is_stuck T) (hr.mono (by decide)) T.B_X_is_stuck .nil pass0 (pa_cons (pv 2) pa_nil))) (pss_one (ps_ret pe_bl)) pss_nil)
      (pss_one (ps_for PassesOwn.never rfl (pi_list (pv 1)) (pg_name (i := 3) sc_P_is_pressed.nd rfl (Or.inl rfl)) (pss_one (ps_if (pt_val (pe_call (ok_G_cross T) (hr.mono (by decide)) rfl T.g_G_cross T.F_G_cross.kp T.B_G_cross .nil pass0 (pa_cons (pv 2) (pa_cons (pv 3) pa_nil)))) (pss_one (ps_ret pe_bl)) pss_nil))))))
      (pss_one (ps_ret pe_bl))))), ?_⟩
    replace q : RetV (.bl (pressed m c)) H Q := q
    refine q_asgL (el_mX (ev_p_crossing T (ev_var (i := 0) rfl) h) h.cr xm_greens ea_nil (spGreens_v h.cr)) fun gl H0 hgl e0 hg => ?_
    have h0 := h.ex e0
    refine q_when (b := decide ((greens m).length = 0)) (et_B (ev_eqN (j := 0) (ev_is (ev_len (ev_var (i := 1) rfl) (sq_of hg)) (by rw [refs_len])) ev_c)) (fun hb H1 e1 => ?_) fun hb H1 e1 => ?_
    · have y : pressed m c = false := if_pos (List.length_eq_zero_iff.mp (of_decide_eq_true hb))
      rw [y] at q
      exact s_ret ev_c fun H3 e3 => q H3 (e0.trans (e1.trans e3))
    · have y : pressed m c = c.any fun j => isStuck m j || (greens m).any fun g => crossP m.P j g := if_neg fun z => by
        rw [z] at hb
        exact absurd hb (by decide)
      rw [y] at q
      refine q_forLn (ev_p_called T (ev_var (i := 0) rfl) (h0.ex e1)) (sq_of (h0.ex e1).lst) (fun t σ' H' => (∃ v w, σ' = [some (.ref S.p), some (.ref gl), v, w]) ∧ Ex H0 H' ∧ ∀ j, j ∈ c.take t → (isStuck m j || (greens m).any fun g => crossP m.P j g) = false) (fun H2 e2 => ⟨⟨_, _, rfl⟩, e1.trans e2, fun j hj => by simp at hj⟩) (fun t σ' H' _ ⟨_, e, _⟩ => sq_of (e _ _ h0.lst)) ?_ ?_
      · rintro t x σ' H' ht ⟨⟨v, w, rfl⟩, e, hno⟩
        obtain ⟨j, hj, rfl⟩ := refs_get ht
        have h2 := h0.ex e
        have hjc := List.mem_of_getElem? hj
        have hjn := h.cn j hjc
        refine q_when (b := isStuck m j) (et_B (ev_mX (ev_p_crossing T (ev_var (i := 0) rfl) h2) h2.cr xm_is_stuck (ea_cons (ev_var (i := 2) rfl) ea_nil) (spStuck_v h2.cr hjn))) (fun hc H3 e3 => ?_) fun hc H3 e3 => ?_
        · rw [any_at (g := fun j => isStuck m j || (greens m).any fun g => crossP m.P j g) hjc (by rw [hc]; rfl)] at q
          exact s_ret ev_c fun H4 e4 => q H4 (e0.trans (e.trans (e3.trans e4)))
        · refine s_forLn (ev_var (i := 1) rfl) (sq_of (e3 _ _ (e _ _ hg))) (fun u σ' H' => (∃ w, σ' = [some (.ref S.p), some (.ref gl), some (.ref (S.L.ad j)), w]) ∧ Ex H0 H' ∧ ∀ g, g ∈ (greens m).take u → crossP m.P j g = false) (fun H4 e4 => ⟨⟨_, rfl⟩, e.trans (e3.trans e4), fun j hj => by simp at hj⟩) (fun t σ' H' _ ⟨_, e, _⟩ => sq_of (e _ _ hg)) ?_ ?_
          · rintro u x σ' H' hu ⟨⟨w, rfl⟩, e5, hno5⟩
            obtain ⟨g, hgj, rfl⟩ := refs_get hu
            have hgm := List.mem_of_getElem? hgj
            have h5 := h0.ex e5
            have hgn : g < m.n := List.mem_range.mp (List.mem_filter.mp hgm).1
            refine s_when (b := crossP m.P j g) (et_B (ev_call (ea_cons (ev_var (i := 2) rfl) (ea_cons (ev_var (i := 3) rfl) ea_nil)) (sp2_v (h5.cr.st j hjn) (h5.cr.st g hgn)))) (fun hd H6 e6 => ?_) fun hd H6 e6 => ?_
            · rw [any_at (g := fun j => isStuck m j || (greens m).any fun g => crossP m.P j g) hjc (by rw [hc, any_at hgm hd]; rfl)] at q
              exact s_ret ev_c fun H7 e7 => q H7 (e0.trans (e5.trans (e6.trans e7)))
            · exact ⟨⟨_, rfl⟩, e5.trans e6, take_all hgj hd hno5⟩
          · rintro σ' H' ⟨⟨w, rfl⟩, e5, hno5⟩
            rw [refs_len, List.take_length] at hno5
            refine ⟨⟨_, _, rfl⟩, e5, take_all hj ?_ hno⟩
            rw [hc, any_no hno5]
            rfl
      · rintro σ' H' ⟨⟨v, w, rfl⟩, e, hno⟩
        rw [refs_len, List.take_length] at hno
        rw [any_no (g := fun j => isStuck m j || (greens m).any fun g => crossP m.P j g) hno] at q
        exact s_ret ev_c fun H4 e4 => q H4 (e0.trans (e.trans e4))
def spPR (A : Adr) (g : Inp → Cm → List Nat → Nat → Option Nat) : Sp := fun vs H Q _ => ∃ S i m c, ∃ r : Nat, vs = [.ref S.p, .int (r : Nat)] ∧ StpAt A H S i m c ∧ r < 4 ∧ RetV (oV S.L.ad (g i m c r)) H Q
theorem spPR_v {g : Inp → Cm → List Nat → Nat → Option Nat} {H : Hp} {S : SL} {i : Inp} {m : Cm} {c : List Nat} {r : Nat} (h : StpAt A H S i m c) (hr : r < 4) : SpV (spPR A g) [.ref S.p, .int (r : Nat)] H (oV S.L.ad (g i m c r)) := fun H1 e Q q E => ⟨S, i, m, c, r, rfl, h.ex e, hr, q⟩
theorem ok_P_first_called (T : Txt K mg A) : FnOk P w K mg base CX0 3 A.f_P_first_called A.d_P_first_called ["self", "ring"] (spPR A fun i m c r => firstCalled m i c r) := by
  refine T.F_P_first_called.ok sc_P_first_called (fun vs H Q E h => ?_) (fun cdv Ar outer s H vs Q E hr h => ?_)
  · obtain ⟨S, i, m, c, r, rfl, _⟩ := h
    rfl
  · obtain ⟨S, i, m, c, r, rfl, h, hr4, q⟩ := h
    refine ⟨_, (pss_cons (ps_for PassesOwn.never rfl (pi_list (pe_fld (pv 0) rfl)) (pg_name (i := 2) sc_P_first_called.nd rfl (Or.inl rfl)) (pss_one (ps_if (PW.pt (pw_and (pt_cmp (pc_eqI (pe_fld (pv 2) rfl) (pv 1))) (pw_and1 (pt_cmp (pc_eqI (pe_fld (pv 2) rfl) (pe_fld (pe_fld (pv 0) rfl) rfl)))))) (pss_one (ps_if (pt_not (pt_val (pe_meth (pv 0) T.cP T.M_P_is_crossed_by_first (ok_P_is_crossed_by_first T) (hr.mono (by decide)) T.B_P_is_crossed_by_first .nil pass0 (pa_cons (pv 2) pa_nil)))) (pss_one (ps_ret (pv 2))) pss_nil)) pss_nil)))
      (pss_one (ps_ret pe_non))), ?_⟩
    replace q : RetV (oV S.L.ad (c.find? fun k => (decide ((m.st k).ring = r) && decide ((m.st k).group = m.group)) && !byFirst m.P i.f k)) H Q := q
    refine q_forLn (ev_p_called T (ev_var (i := 0) rfl) h) (sq_of h.lst) (fun t σ' H' => (∃ v, σ' = [some (.ref S.p), some (.int (r : Nat)), v]) ∧ Ex H H' ∧ ∀ j, j ∈ c.take t → ((decide ((m.st j).ring = r) && decide ((m.st j).group = m.group)) && !byFirst m.P i.f j) = false) (fun H2 e2 => ⟨⟨_, rfl⟩, e2, fun j hj => by simp at hj⟩) (fun t σ' H' _ ⟨_, e, _⟩ => sq_of (e _ _ h.lst)) ?_ ?_
    · rintro t x σ' H' ht ⟨⟨v, rfl⟩, e, hno⟩
      obtain ⟨j, hj, rfl⟩ := refs_get ht
      have h2 := h.ex e
      have hjn := h.cn j (List.mem_of_getElem? hj)
      have hsj := h2.cr.st j hjn
      refine s_when (b := decide ((m.st j).ring = r) && decide ((m.st j).group = m.group)) (et_and (et_B (ev_eqN (ev_fS (ev_var (i := 2) rfl) hsj T.cS T.nS_ring sl_ring) (ev_var (i := 1) rfl))) fun _ => et_B (ev_eqN (ev_fS (ev_var (i := 2) rfl) hsj T.cS T.nS_group sl_group) (ev_x_group T (ev_p_crossing T (ev_var (i := 0) rfl) h2) h2.cr))) (fun hc H3 e3 => ?_) fun hc H3 e3 => ?_
      · have h3 := h2.ex e3
        refine s_when (b := !byFirst m.P i.f j) (et_not (et_B (ev_mP (ev_var (i := 0) rfl) h3 pm_is_crossed_by_first (ea_cons (ev_var (i := 2) rfl) ea_nil) (spPB_v (g := fun i m _ k => byFirst m.P i.f k) h3 hjn)))) (fun hd H4 e4 => ?_) fun hd H4 e4 => ?_
        · rw [find_at hj (by rw [hc, hd]; rfl) hno] at q
          exact s_ret (ev_var (i := 2) rfl) fun H5 e5 => q H5 (e.trans (e3.trans (e4.trans e5)))
        · exact ⟨⟨_, rfl⟩, e.trans (e3.trans e4), take_all hj (by rw [hc, hd]; rfl) hno⟩
      · exact ⟨⟨_, rfl⟩, e.trans e3, take_all hj (by rw [hc]; rfl) hno⟩
    · rintro σ' H' ⟨⟨v, rfl⟩, e, hno⟩
      rw [refs_len, List.take_length] at hno
      rw [find_no hno] at q
      exact s_ret ev_c fun H4 e4 => q H4 (e.trans e4)
end
end Xg

namespace Xg
open PySem PySem.Spec PyProof.Rows L2 Evl
open PySem.W (Codec)
section
variable {P : Program} {w : World} {K : PySem.W.Frag} {mg : Str → Option Value} {base : Heap} {A : Adr}
/-! ### the least of some numbers -/
theorem minL_le : ∀ {l : List Nat} {y : Nat}, y ∈ l → minL l ≤ y
  | [a], y, h => by
    rw [List.mem_singleton] at h
    rw [h]
    exact Nat.le_refl _
  | a :: b :: r, y, h => by
    show min a (minL (b :: r)) ≤ y
    rcases List.mem_cons.mp h with rfl | h
    · exact Nat.min_le_left _ _
    · exact Nat.le_trans (Nat.min_le_right _ _) (minL_le h)
theorem minL_mem : ∀ {l : List Nat}, l ≠ [] → minL l ∈ l
  | [], h => absurd rfl h
  | [a], _ => List.mem_singleton.mpr rfl
  | a :: b :: r, _ => by
    show min a (minL (b :: r)) ∈ a :: b :: r
    rcases Nat.le_total a (minL (b :: r)) with h | h
    · rw [Nat.min_eq_left h]
      exact List.mem_cons_self
    · rw [Nat.min_eq_right h]
      exact List.mem_cons_of_mem _ (minL_mem (by simp))
theorem ev_min {σ : L2.St} {H : Hp} {te : TE} {l : List Nat} (h : EvL te σ H (l.map fun x => V.int (x : Nat))) (hl : l ≠ []) : Ev (tCB (rMin K) (tCons te tNil)) σ H (.int (minL l : Nat)) :=
  fun H1 e Q q => h H1 e _ fun p H2 hp e2 h2 => ⟨p, l.map fun x => ((x : Nat) : Int), rfl, sq_of (by rw [List.map_map]; exact h2), by
    rw [List.length_map]
    exact List.length_pos_iff.mpr hl, fun z hz hle => by
    obtain ⟨n, hn, rfl⟩ := List.mem_map.mp hz
    have h1 := minL_le hn
    have h3 : (n : Int) ≤ ((minL l : Nat) : Int) := hle _ (List.mem_map.mpr ⟨_, minL_mem hl, rfl⟩)
    have e3 : n = minL l := by omega
    rw [e3]
    exact q H2 e2⟩
theorem given_all {c : List Nat} {g : Nat → Nat} : given c.length (fun _ => true) (fun t => V.int (g (c.getD t 0) : Nat)) = (c.map g).map fun x => V.int (x : Nat) := by
  unfold given
  rw [List.filter_eq_self.mpr (fun _ _ => rfl), List.map_map]
  refine List.ext_getElem (by simp) fun t h1 h2 => ?_
  simp only [List.length_map, List.length_range] at h1
  simp only [List.getElem_map, List.getElem_range, Function.comp, List.getD_eq_getElem?_getD, List.getElem?_eq_getElem h1, Option.getD_some]
theorem mod_dist {a b : Nat} (ha : a < 8) (hb : b < 8) : (((a : Int) - ((b : Int) + 1)) % 8) = (((a + 8 - (b + 1)) % 8 : Nat) : Int) := by omega
def spNext (A : Adr) : Sp := fun vs H Q _ => ∃ S i m c, vs = [.ref S.p] ∧ StpAt A H S i m c ∧ (i.f = none → c ≠ []) ∧ RetV (.int (nextGroup m i c : Nat)) H Q
theorem ok_P_next_group (T : Txt K mg A) : FnOk P w K mg base CX0 1 A.f_P_next_group A.d_P_next_group ["self"] (spNext A) := by
  refine T.F_P_next_group.ok sc_P_next_group (fun vs H Q E h => ?_) (fun cdv Ar outer s H vs Q E hr h => ?_)
  · obtain ⟨S, i, m, c, rfl, _⟩ := h
    rfl
  · obtain ⟨S, i, m, c, rfl, h, hc, q⟩ := h
    refine ⟨_, (pss_cons (ps_if (pt_cmp (pc_notN (pe_fld (pv 0) rfl))) (pss_one (ps_ret (pe_fld (pe_fld (pv 0) rfl) rfl))) pss_nil)
      (pss_cons (ps_set (i := 1) sc_P_next_group.nd rfl (Or.inr rfl) (pe_op op_add (pe_fld (pe_fld (pv 0) rfl) rfl) pe_int))
      (pss_cons (ps_set (i := 2) sc_P_next_group.nd rfl (Or.inl rfl) (pe_callB (cr_min rfl) (by rfl) T.g_min (by decide +kernel) (pa_cons (pe_lc (own := [("stream", 3)]) (g := gName 3) rfl sc_P_next_group.nd (pi_list (pe_fld (pv 0) rfl)) (blkOk_by (N := ["self", "behind", "distance", "stream"]) (sc := defScope st_P_next_group) (by decide +kernel)) (fun _ _ _ _ _ => pg_name (i := 3) sc_P_next_group.nd rfl (Or.inl rfl)) (fun _ _ _ _ _ => pts_nil) (fun _ _ _ _ _ => by exact (pe_op op_mod (pe_op op_sub (pe_fldB (K := K) rfl (pv 3) rfl) (pv 1)) (pe_glob (v := .int (8)) rfl T.g_GROUPS ⟨_, rfl⟩)))) pa_nil)))
      (pss_one (ps_ret (pe_op op_mod (pe_op op_add (pv 1) (pv 2)) (pe_glob (v := .int (8)) rfl T.g_GROUPS ⟨_, rfl⟩))))))), ?_⟩
    have ef := ev_p_first (σ := [some (.ref S.p), none, none, none]) T (ev_var (i := 0) rfl) h
    unfold nextGroup at q
    cases hi : i.f with
    | some j =>
      rw [hi] at ef q
      refine q_when (et_B (ev_notN ef)) (fun hb H1 e1 => ?_) fun hb => absurd (show true = false from hb) (by decide)
      have h1 := h.ex e1
      have hj := h1.cr.st j (h.fn j hi)
      exact s_ret (ev_fS (ef.mono e1) hj T.cS T.nS_group sl_group) fun H2 e2 => q H2 (e1.trans e2)
    | none =>
      rw [hi] at ef q
      have hc' := hc hi
      refine q_when (et_B (ev_notN ef)) (fun hb => absurd (show false = true from hb) (by decide)) fun hb H1 e1 => ?_
      have h1 := h.ex e1
      refine q_asg (v := .int ((m.group + 1 : Nat) : Int)) (ev_op (ev_x_group T (ev_p_crossing T (ev_var (i := 0) rfl) h1) h1.cr) (ev_c (v := .int 1)) rv_I0) fun H2 e2 => ?_
      have h2 := h1.ex e2
      have e12 := e1.trans e2
      refine q_asg (v := .int ((minL (c.map (dist m)) : Nat) : Int)) (ev_min (l := c.map (dist m)) ?_ (by simp [hc'])) fun H3 e3 => ?_
      · rw [← given_all]
        have hlen : (refs S.L.ad c).length = c.length := refs_len
        rw [← hlen]
        refine el_lcL (xs := refs S.L.ad c) (fun _ => true) (fun t => V.int (dist m (c.getD t 0) : Nat)) (ev_p_called T (ev_var (i := 0) rfl) h2) (sq_of h2.lst) (by rw [refs_len]; exact Nat.le_trans h.clen (by decide)) (fun _ => rfl) (fun t x H4 e4 hx => ?_) fun t x H4 e4 hx _ => ?_
        · exact fun H5 e5 Q5 q5 => q5 H5 (Ex.refl _)
        · obtain ⟨k, hk, rfl⟩ := refs_get hx
          have hkn := h.cn k (List.mem_of_getElem? hk)
          have hs := (h2.ex e4).cr.st k hkn
          have hg1 := (h.cr.hw.rt k hkn).group
          have hg2 := h.cr.hw.grp
          have ek : c.getD t 0 = k := by rw [List.getD_eq_getElem?_getD, hk]; rfl
          show Ev _ _ _ (.int (dist m (c.getD t 0) : Nat))
          rw [ek]
          refine ev_is (ev_op (ev_op (ev_fS (ev_var (i := 3) rfl) hs T.cS T.nS_group sl_group) (ev_var (i := 1) rfl) rv_I0) (ev_c (v := .int 8)) (rv_I (by decide))) (congrArg V.int ?_)
          exact mod_dist hg1 hg2
      · refine s_ret (ev_is (ev_op (ev_op (ev_var (i := 1) rfl) (ev_var (i := 2) rfl) rv_I0) (ev_c (v := .int 8)) (rv_I (by decide))) (congrArg V.int ?_)) fun H4 e4 => q H4 (e12.trans (e3.trans e4))
        rfl
/-! ### changing a crossing -/
theorem xp_group {ls ll : V} {g : Nat} {z : Int} {n : Nat} (e : z = (n : Int)) : putF "group" (.int z) (xF ls g ll) = xF ls n ll := by
  subst e
  exact (put_zip xNd (i := 1) rfl).trans rfl
theorem xp_latest {ls ll v : V} {g : Nat} : putF "latest" v (xF ls g ll) = xF ls g v := (put_zip xNd (i := 2) rfl).trans rfl
def spBG (A : Adr) : Sp := fun vs H Q _ => ∃ L m, ∃ g : Nat, vs = [.ref L.a, .int (g : Nat)] ∧ CrAt A.CX A.CS H L m ∧ g < 8 ∧ ∀ H' ll, CrAt A.CX A.CS H' { L with ll := ll } (beginG m g) → Fr (Foot L m.n) H H' → H ll = none → Q .non H'
theorem ok_X_begin_group (T : Txt K mg A) : FnOk P w K mg base CX0 1 A.f_X_begin_group A.d_X_begin_group ["self", "group"] (spBG A) := by
  refine T.F_X_begin_group.ok sc_X_begin_group (fun vs H Q E h => ?_) (fun cdv Ar outer s H vs Q E hr h => ?_)
  · obtain ⟨L, m, g, rfl, _⟩ := h
    rfl
  · obtain ⟨L, m, g, rfl, h, hg, q⟩ := h
    obtain ⟨dx, ho⟩ := h.obj
    refine ⟨_, (pss_cons (ps_fld (pv 0) (pv 1) rfl)
      (pss_one (ps_fld (pv 0) (pe_op op_rep (pe_lst (pa_cons pe_non pa_nil)) (pe_glob (v := .int (4)) rfl T.g_RINGS ⟨_, rfl⟩)) rfl))), ?_⟩
    refine q_fldset (ev_var (i := 1) rfl) (ev_var (i := 0) rfl) ho T.cX T.nX_group x_len fun H1 e1 => ?_
    rw [xp_group rfl]
    have a1 : (upd H1 L.a (.ins A.CX dx (xF (.ref L.ls) g (.ref L.ll)))) L.a = some (.ins A.CX dx (xF (.ref L.ls) g (.ref L.ll))) := upd_same
    have k1 : ∀ b o, H b = some o → b ≠ L.a → (upd H1 L.a (.ins A.CX dx (xF (.ref L.ls) g (.ref L.ll)))) b = some o := fun b o hb ne => by
      rw [upd_ne ne]
      exact e1 _ _ hb
    generalize upd H1 L.a (.ins A.CX dx (xF (.ref L.ls) g (.ref L.ll))) = H2 at a1 k1 ⊢
    refine ⟨(by show 1 ≤ sizeLine; decide), fun p1 hp1 => ?_⟩
    refine ⟨p1, _, _, rfl, rfl, upd_same, by decide, by decide, by decide, fun p2 hp2 => ?_⟩
    have np1 : H2 p2 = none := by
      have : p2 ≠ p1 := fun z => by
        rw [z, upd_same] at hp2
        cases hp2
      rwa [upd_ne this] at hp2
    have e3 : Ex H2 (upd (upd H2 p1 (.lst [.non])) p2 (.lst [.non, .non, .non, .non])) := fun b o hb => by
      rw [upd_ne (ne_of_none hb np1), upd_ne (ne_of_none hb hp1)]
      exact hb
    refine ⟨_, rfl, L.a, A.CX, dx, _, rfl, e3 _ _ a1, T.cX, T.nX_latest, x_len, ?_⟩
    have a_p2 : L.a ≠ p2 := ne_of_none a1 np1
    have k3 : ∀ b o, H b = some o → b ≠ L.a → (upd (upd (upd H2 p1 (.lst [.non])) p2 (.lst [.non, .non, .non, .non])) L.a (.ins A.CX dx (putF "latest" (.ref p2) (xF (.ref L.ls) g (.ref L.ll))))) b = some o := fun b o hb ne => by
      rw [upd_ne ne]
      exact e3 _ _ (k1 b o hb ne)
    refine q _ p2 ⟨⟨dx, ?_⟩, k3 _ _ h.sts h.a_ls.symm, ?_, fun k hk => ?_, h.inj, ?_, ⟨h.hw.pos, h.hw.most, h.hw.rt, hg, fun r k z => by cases z⟩⟩ (fun b o hb nf => k3 b o hb fun z => nf (Or.inl z)) ?_
    · show (upd (upd (upd H2 p1 (.lst [.non])) p2 (.lst [.non, .non, .non, .non])) L.a (.ins A.CX dx (putF "latest" (.ref p2) (xF (.ref L.ls) g (.ref L.ll))))) L.a = some (.ins A.CX dx (xF (.ref L.ls) g (.ref p2)))
      rw [upd_same, xp_latest]
    · show (upd (upd (upd H2 p1 (.lst [.non])) p2 (.lst [.non, .non, .non, .non])) L.a (.ins A.CX dx (putF "latest" (.ref p2) (xF (.ref L.ls) g (.ref L.ll))))) p2 = _
      rw [upd_ne a_p2.symm]
      exact upd_same
    · obtain ⟨dk, hk'⟩ := h.st k hk
      exact ⟨dk, k3 _ _ hk' (h.a_st hk).symm⟩
    · exact ne_of_none (k1 _ _ h.sts h.a_ls.symm) np1
    · cases e : H p2 with
      | none => rfl
      | some o =>
        have z := k1 p2 o e a_p2.symm
        rw [np1] at z
        cases z
def spGive (A : Adr) : Sp := fun vs H Q _ => ∃ L m k, vs = [.ref L.a, .ref (L.ad k)] ∧ CrAt A.CX A.CS H L m ∧ k < m.n ∧ ∀ H', CrAt A.CX A.CS H' L (give m k) → Fr (Foot L m.n) H H' → Q .non H'
theorem ok_X_give_green (T : Txt K mg A) : FnOk P w K mg base CX0 3 A.f_X_give_green A.d_X_give_green ["self", "stream"] (spGive A) := by
  refine T.F_X_give_green.ok sc_X_give_green (fun vs H Q E h => ?_) (fun cdv Ar outer s H vs Q E hr h => ?_)
  · obtain ⟨L, m, k, rfl, _⟩ := h
    rfl
  · obtain ⟨L, m, k, rfl, h, hk, q⟩ := h
    refine ⟨_, (pss_cons (ps_expr (pe_meth0 (pv 1) T.cS T.M_S_become_green (ok_S_become_green T) (hr.mono (by decide)) T.B_S_become_green .nil pass0))
      (pss_one (ps_asg (pv 1) (pg_sub (pe_fld (pv 0) rfl) (pe_fld (pv 1) rfl) set_list)))), ?_⟩
    have hp := h.hw.rt k hk
    refine q_mS (ev_var (i := 1) rfl) (h.st k hk) sm_become_green ea_nil fun H1 e1 => ⟨_, k, m.st k, m.dy k, rfl, (h.ex e1).st k hk, hp, fun H2 h2 f2 => ?_⟩
    have c2 := (h.ex e1).setD hk h2 f2
    have f02 : Fr (Foot L m.n) H H2 := (Fr.of_ex e1).trans (f2 |> fun f => Fr.of1 f (Or.inr (Or.inr ⟨k, hk, rfl⟩)))
    refine s_setL (j := (m.st k).ring) c2.lat (ev_var (i := 1) rfl) (ev_x_latest T (ev_var (i := 0) rfl) c2) (ev_fS (ev_var (i := 1) rfl) h2 T.cS T.nS_ring sl_ring) (by rw [latL_len]; exact hp.ring) fun H3 e3 => ?_
    have c3 := c2.ex e3
    have kk : ∀ b o, H3 b = some o → b ≠ L.ll → (upd H3 L.ll (.lst ((latL L.ad m.latest).set (m.st k).ring (.ref (L.ad k))))) b = some o := fun b o hb ne => by
      rw [upd_ne ne]
      exact hb
    refine q _ ⟨?_, kk _ _ c3.sts c3.nel, ?_, fun j hj => ?_, c3.inj, c3.nel, ⟨h.hw.pos, h.hw.most, h.hw.rt, h.hw.grp, fun r j z => ?_⟩⟩ ?_
    · obtain ⟨dx, ho⟩ := c3.obj
      exact ⟨dx, kk _ _ ho c3.a_ll⟩
    · rw [upd_same]
      have e := latL_set (ad := L.ad) (f := m.latest) (o := some k) hp.ring
      exact congrArg (fun q => some (HO.lst q)) e
    · obtain ⟨dj, hj'⟩ := c3.st j hj
      exact ⟨dj, kk _ _ hj' (c3.ll_st hj).symm⟩
    · by_cases e : r = (m.st k).ring
      · have z' : setF m.latest (m.st k).ring (some k) r = some j := z
        rw [e, setF_same] at z'
        have ej : k = j := Option.some.inj z'
        rw [← ej]
        exact hk
      · have z' : setF m.latest (m.st k).ring (some k) r = some j := z
        rw [setF_ne e] at z'
        exact h.hw.lat r j z'
    · exact fun b o hb nf => kk b o (e3 _ _ (f02 b o hb nf)) fun z => nf (Or.inr (Or.inl z))
end
end Xg

namespace Xg
open PySem PySem.Spec PyProof.Rows L2 Evl
open PySem.W (Codec)
section
variable {P : Program} {w : World} {K : PySem.W.Frag} {mg : Str → Option Value} {base : Heap} {A : Adr}
/-! ### changing a crossing within a step -/
section
variable {H H' : Hp} {S : SL} {i : Inp} {m m' : Cm} {c : List Nat} {k : Nat} {d d' : Dy}
theorem StpAt.setD (h : StpAt A H S i m c) (hk : k < m.n) (hs : StAt A.CS H' (S.L.ad k) k (m.st k) d) (f : Fr1 (S.L.ad k) H H') : StpAt A H' S i (m.setD k d) c :=
  h.keep0 (h.cr.setD hk hs f) rfl (Fr.of1 f (Or.inr (Or.inr ⟨k, hk, rfl⟩)))
theorem foot_st {L : Lay} {n k : Nat} {H H' : Hp} (f : Fr1 (L.ad k) H H') (hk : k < n) : Fr (Foot L n) H H' := Fr.of1 f (Or.inr (Or.inr ⟨k, hk, rfl⟩))
theorem setD_setD : (m.setD k d).setD k d' = m.setD k d' := by
  unfold Cm.setD
  refine congrArg (fun q => Cm.mk m.P q m.group m.latest) ?_
  funext j
  show setF (setF m.dy k d) k d' j = setF m.dy k d' j
  by_cases e : j = k
  · rw [e, setF_same, setF_same]
  · rw [setF_ne e, setF_ne e, setF_ne e]
theorem setD_dy : (m.setD k d).dy k = d := setF_same
theorem setD_id : m.setD k (m.dy k) = m := by
  unfold Cm.setD
  refine congrArg (fun q => Cm.mk m.P q m.group m.latest) ?_
  funext j
  by_cases e : j = k
  · rw [e, setF_same]
  · rw [setF_ne e]
theorem upTo_dy {g : Nat → Dy → Dy} {t : Nat} : (upTo g t m).dy t = m.dy t := if_neg (Nat.lt_irrefl t)
theorem upTo_zero {g : Nat → Dy → Dy} : upTo g 0 m = m := by
  unfold upTo
  refine congrArg (fun q => Cm.mk m.P q m.group m.latest) ?_
  funext j
  exact if_neg (Nat.not_lt_zero j)
theorem upTo_succ {g : Nat → Dy → Dy} {t : Nat} : (upTo g t m).setD t (g t (m.dy t)) = upTo g (t + 1) m := by
  unfold upTo Cm.setD
  refine congrArg (fun q => Cm.mk m.P q m.group m.latest) ?_
  funext j
  show setF (fun j => if j < t then g j (m.dy j) else m.dy j) t (g t (m.dy t)) j = if j < t + 1 then g j (m.dy j) else m.dy j
  by_cases e : j = t
  · rw [e, setF_same, if_pos (Nat.lt_succ_self t)]
  · rw [setF_ne e]
    by_cases hj : j < t
    · rw [if_pos hj, if_pos (by omega)]
    · rw [if_neg hj, if_neg (by omega)]
theorem heir_lt (h : StpAt A H S i m c) {j : Nat} (e : heir m.P c i.f k = some j) : j < m.n := by
  unfold heir at e
  by_cases hb : byFirst m.P i.f k = true
  · rw [if_pos hb] at e
    cases hi : i.f with
    | none =>
      rw [hi] at e
      cases e
    | some l =>
      rw [hi] at e
      by_cases hq : besideP m.P l k = true
      · replace e : (if besideP m.P l k = true then some l else none) = some j := e
        rw [if_pos hq] at e
        rw [← Option.some.inj e]
        exact h.fn l hi
      · replace e : (if besideP m.P l k = true then some l else none) = some j := e
        rw [if_neg hq] at e
        cases e
  · rw [if_neg hb] at e
    exact h.cn j (List.mem_of_find?_eq_some e)
theorem firstCalled_lt (h : StpAt A H S i m c) {j r : Nat} (e : firstCalled m i c r = some j) : j < m.n := h.cn j (List.mem_of_find?_eq_some e)
end
def spMO (A : Adr) : Sp := fun vs H Q _ => ∃ S i m c o, vs = [.ref S.p, oV S.L.ad o] ∧ StpAt A H S i m c ∧ (∀ k, o = some k → k < m.n) ∧ ∀ H', StpAt A H' S i (giveO m o) c → Fr (Foot S.L m.n) H H' → Q .non H'
theorem ok_P_give_green (T : Txt K mg A) : FnOk P w K mg base CX0 4 A.f_P_give_green A.d_P_give_green ["self", "stream"] (spMO A) := by
  refine T.F_P_give_green.ok sc_P_give_green (fun vs H Q E h => ?_) (fun cdv Ar outer s H vs Q E hr h => ?_)
  · obtain ⟨S, i, m, c, o, rfl, _⟩ := h
    rfl
  · obtain ⟨S, i, m, c, o, rfl, h, ho, q⟩ := h
    refine ⟨_, (pss_one (ps_if (pt_cmp (pc_notN (pv 1))) (pss_one (ps_expr (pe_meth (pe_fld (pv 0) rfl) T.cX T.M_X_give_green (ok_X_give_green T) (hr.mono (by decide)) T.B_X_give_green .nil pass0 (pa_cons (pv 1) pa_nil)))) pss_nil)), ?_⟩
    cases o with
    | none =>
      refine s_when (b := false) (et_B (ev_notN (x := .non) (ev_var (i := 1) rfl))) (fun hb => absurd hb (by decide)) fun hb H1 e1 => ?_
      exact q H1 (h.ex e1) (Fr.of_ex e1)
    | some k =>
      have hk := ho k rfl
      refine s_when (b := true) (et_B (ev_notN (x := .ref (S.L.ad k)) (ev_var (i := 1) rfl))) (fun hb H1 e1 => ?_) fun hb => absurd hb (by decide)
      have h1 := h.ex e1
      refine go_mX (ev_p_crossing T (ev_var (i := 0) rfl) h1) h1.cr xm_give_green (ea_cons (ev_var (i := 1) rfl) ea_nil) fun H2 e2 => ⟨S.L, m, k, rfl, (h1.ex e2).cr, hk, fun H3 c3 f3 => ?_⟩
      have h2 := h1.ex e2
      exact q H3 (h2.keep0 c3 rfl f3) ((Fr.of_ex (e1.trans e2)).trans f3)
theorem giveO_P {m : Cm} {o : Option Nat} : (giveO m o).P = m.P := by
  cases o <;> rfl
theorem giveO_n {m : Cm} {o : Option Nat} : (giveO m o).n = m.n := congrArg List.length giveO_P
def spRing (A : Adr) : Sp := fun vs H Q _ => ∃ S i m c, ∃ r : Nat, ∃ sg : Bool, vs = [.ref S.p, .int (r : Nat), .bl sg] ∧ StpAt A H S i m c ∧ r < 4 ∧ ∀ H', StpAt A H' S i (ringB m i c sg r) c → Fr (Foot S.L m.n) H H' → Q .non H'
theorem ok_P_begin_in_ring (T : Txt K mg A) : FnOk P w K mg base CX0 5 A.f_P_begin_in_ring A.d_P_begin_in_ring ["self", "ring", "some_green"] (spRing A) := by
  refine T.F_P_begin_in_ring.ok sc_P_begin_in_ring (fun vs H Q E h => ?_) (fun cdv Ar outer s H vs Q E hr h => ?_)
  · obtain ⟨S, i, m, c, r, sg, rfl, _⟩ := h
    rfl
  · obtain ⟨S, i, m, c, r, sg, rfl, h, hr4, q⟩ := h
    refine ⟨_, (pss_cons (ps_set (i := 3) sc_P_begin_in_ring.nd rfl (Or.inl rfl) (pe_ix ix_list (pe_fld (pe_fld (pv 0) rfl) rfl) (pv 1) (fun _ _ => rfl)))
      (pss_one (ps_if (pt_cmp (pc_notN (pv 3))) (pss_one (ps_expr (pe_meth (pv 0) T.cP T.M_P_give_green (ok_P_give_green T) (hr.mono (by decide)) T.B_P_give_green .nil pass0 (pa_cons (pe_meth (pv 0) T.cP T.M_P_heir (ok_P_heir T) (hr.mono (by decide)) T.B_P_heir .nil pass0 (pa_cons (pv 3) pa_nil)) pa_nil)))) (pss_one (ps_if (pt_val (pv 2)) (pss_one (ps_expr (pe_meth (pv 0) T.cP T.M_P_give_green (ok_P_give_green T) (hr.mono (by decide)) T.B_P_give_green .nil pass0 (pa_cons (pe_meth (pv 0) T.cP T.M_P_first_called (ok_P_first_called T) (hr.mono (by decide)) T.B_P_first_called .nil pass0 (pa_cons (pv 1) pa_nil)) pa_nil)))) pss_nil))))), ?_⟩
    refine q_asg (ev_x_at T (ev_p_crossing T (ev_var (i := 0) rfl) h) h.cr (ev_var (i := 1) rfl) hr4) fun H1 e1 => ?_
    have h1 := h.ex e1
    unfold ringB at q
    cases hm : m.latest r with
    | none =>
      rw [hm] at q
      refine s_if (b := false) (et_B (ev_notN (x := .non) (ev_var (i := 3) rfl))) (fun hb => absurd hb (by decide)) fun hb H2 e2 => ?_
      have h2 := h1.ex e2
      replace q : ∀ H', StpAt A H' S i (if sg = true then giveO m (firstCalled m i c r) else m) c → Fr (Foot S.L m.n) H H' → Q .non H' := q
      refine s_when (et_B (ev_var (i := 2) rfl)) (fun hb2 H3 e3 => ?_) fun hb2 H3 e3 => ?_
      · rw [if_pos hb2] at q
        have h3 := h2.ex e3
        refine go_mP (ev_var (i := 0) rfl) h3 pm_give_green (ea_cons (ev_mP (ev_var (i := 0) rfl) h3 pm_first_called (ea_cons (ev_var (i := 1) rfl) ea_nil) (spPR_v (g := fun i m c r => firstCalled m i c r) h3 hr4)) ea_nil) fun H4 e4 => ⟨S, i, m, c, firstCalled m i c r, rfl, h3.ex e4, fun k hk => firstCalled_lt h hk, fun H5 h5 f5 => ?_⟩
        exact q H5 h5 ((Fr.of_ex (e1.trans (e2.trans (e3.trans e4)))).trans f5)
      · rw [if_neg (by rw [hb2]; decide)] at q
        exact q H3 (h2.ex e3) (Fr.of_ex (e1.trans (e2.trans e3)))
    | some l =>
      rw [hm] at q
      have hl := h.cr.hw.lat r l hm
      refine s_if (b := true) (et_B (ev_notN (x := .ref (S.L.ad l)) (ev_var (i := 3) rfl))) (fun hb H2 e2 => ?_) fun hb => absurd hb (by decide)
      have h2 := h1.ex e2
      refine go_mP (ev_var (i := 0) rfl) h2 pm_give_green (ea_cons (ev_mP (ev_var (i := 0) rfl) h2 pm_heir (ea_cons (ev_var (i := 3) rfl) ea_nil) (spPV_v (g := fun i m c k => heir m.P c i.f k) h2 hl)) ea_nil) fun H4 e4 => ⟨S, i, m, c, heir m.P c i.f l, rfl, h2.ex e4, fun k hk => heir_lt h hk, fun H5 h5 f5 => ?_⟩
      exact q H5 h5 ((Fr.of_ex (e1.trans (e2.trans e4))).trans f5)
theorem ringT_P {i : Inp} {c : List Nat} {sg : Bool} {m : Cm} {r : Nat} : (ringT i c sg m r).P = m.P := by
  unfold ringT
  split
  · unfold ringB
    split
    · exact giveO_P
    · split
      · exact giveO_P
      · rfl
  · rfl
theorem rings_succ {m : Cm} {i : Inp} {c : List Nat} {sg : Bool} {t : Nat} : rings m i c sg (t + 1) = ringT i c sg (rings m i c sg t) t := by
  unfold rings
  rw [List.range_succ, List.foldl_append]
  rfl
theorem rings_P {m : Cm} {i : Inp} {c : List Nat} {sg : Bool} : ∀ t, (rings m i c sg t).P = m.P
  | 0 => rfl
  | t + 1 => by rw [rings_succ, ringT_P, rings_P t]
theorem nexts_succ {m : Cm} {i : Inp} {c : List Nat} {t : Nat} : nexts m i c (t + 1) = nextT i c (nexts m i c t) t := by
  unfold nexts
  rw [List.range_succ, List.foldl_append]
  rfl
theorem nexts_P {m : Cm} {i : Inp} {c : List Nat} : ∀ t, (nexts m i c t).P = m.P
  | 0 => rfl
  | t + 1 => by
    rw [nexts_succ]
    exact giveO_P.trans (nexts_P t)
theorem nextGroup_lt {H : Hp} {S : SL} {m : Cm} {i : Inp} {c : List Nat} (h : StpAt A H S i m c) : nextGroup m i c < 8 := by
  unfold nextGroup
  cases hi : i.f with
  | none =>
    show (m.group + 1 + minL (c.map (dist m))) % 8 < 8
    omega
  | some j => exact (h.cr.hw.rt j (h.fn j hi)).group
/-- another list of the latest -/
theorem foot_ll {L : Lay} {n : Nat} {ll : Addr} {H H1 H2 : Hp} (f1 : Fr (Foot L n) H H1) (hl : H ll = none) (f2 : Fr (Foot { L with ll := ll } n) H1 H2) : Fr (Foot L n) H H2 := fun b o hb nf => f2 b o (f1 b o hb nf) fun z => by
  rcases z with z | z | ⟨k, hk, z⟩
  · exact nf (Or.inl z)
  · rw [show b = ll from z, hl] at hb
    cases hb
  · exact nf (Or.inr (Or.inr ⟨k, hk, z⟩))
theorem spNext_v {H : Hp} {S : SL} {i : Inp} {m : Cm} {c : List Nat} (h : StpAt A H S i m c) (hc : i.f = none → c ≠ []) : SpV (spNext A) [.ref S.p] H (.int (nextGroup m i c : Nat)) := fun H1 e Q q E => ⟨S, i, m, c, rfl, h.ex e, hc, q⟩
def spNextG (A : Adr) : Sp := fun vs H Q _ => ∃ S i m c, vs = [.ref S.p] ∧ StpAt A H S i m c ∧ (i.f = none → c ≠ []) ∧ ∀ H' ll, StpAt A H' { S with L := { S.L with ll := ll } } i (beginNext m i c) c → Fr (Foot S.L m.n) H H' → H ll = none → Q .non H'
theorem ok_P_begin_next_group (T : Txt K mg A) : FnOk P w K mg base CX0 5 A.f_P_begin_next_group A.d_P_begin_next_group ["self"] (spNextG A) := by
  refine T.F_P_begin_next_group.ok sc_P_begin_next_group (fun vs H Q E h => ?_) (fun cdv Ar outer s H vs Q E hr h => ?_)
  · obtain ⟨S, i, m, c, rfl, _⟩ := h
    rfl
  · obtain ⟨S, i, m, c, rfl, h, hc, q⟩ := h
    refine ⟨_, (pss_cons (ps_expr (pe_meth (pe_fld (pv 0) rfl) T.cX T.M_X_begin_group (ok_X_begin_group T) (hr.mono (by decide)) T.B_X_begin_group .nil pass0 (pa_cons (pe_meth0 (pv 0) T.cP T.M_P_next_group (ok_P_next_group T) (hr.mono (by decide)) T.B_P_next_group .nil pass0) pa_nil)))
      (pss_one (ps_for PassesOwn.never rfl (pi_range1 rfl T.g_range (pa_cons (pe_glob (v := .int (4)) rfl T.g_RINGS ⟨_, rfl⟩) pa_nil)) (pg_name (i := 1) sc_P_begin_next_group.nd rfl (Or.inl rfl)) (pss_one (ps_expr (pe_meth (pv 0) T.cP T.M_P_give_green (ok_P_give_green T) (hr.mono (by decide)) T.B_P_give_green .nil pass0 (pa_cons (pe_meth (pv 0) T.cP T.M_P_first_called (ok_P_first_called T) (hr.mono (by decide)) T.B_P_first_called .nil pass0 (pa_cons (pv 1) pa_nil)) pa_nil))))))), ?_⟩
    refine go_mX (ev_p_crossing T (ev_var (i := 0) rfl) h) h.cr xm_begin_group (ea_cons (x := .int (nextGroup m i c : Nat)) (ev_mP (ev_var (i := 0) rfl) h pm_next_group ea_nil (spNext_v h hc)) ea_nil) fun H1 e1 => ⟨S.L, m, nextGroup m i c, rfl, (h.ex e1).cr, nextGroup_lt h, fun H2 ll c2 f2 hll => ?_⟩
    have h2 : StpAt A H2 { S with L := { S.L with ll := ll } } i (beginG m (nextGroup m i c)) c := (h.ex e1).keep c2 rfl f2 (Or.inr hll)
    have hll0 : H ll = none := fresh_back e1 hll
    have f02 : Fr (Foot S.L m.n) H H2 := (Fr.of_ex e1).trans f2
    refine s_forR1 (j := 1) (ea_cons (ev_c (v := .int 4)) ea_nil) (by omega) (fun t σ' H' => (∃ v, σ' = [some (.ref S.p), v]) ∧ StpAt A H' { S with L := { S.L with ll := ll } } i (nexts (beginG m (nextGroup m i c)) i c t) c ∧ Fr (Foot S.L m.n) H H') (fun H3 e3 => ⟨⟨_, rfl⟩, h2.ex e3, f02.trans (Fr.of_ex e3)⟩) ?_ ?_
    · rintro t σ' H' ht ⟨⟨v, rfl⟩, h3, f3⟩
      have ht' : t < 4 := by omega
      refine go_mP (S := { S with L := { S.L with ll := ll } }) (ev_var (i := 0) rfl) h3 pm_give_green (ea_cons (ev_mP (S := { S with L := { S.L with ll := ll } }) (ev_var (i := 0) rfl) h3 pm_first_called (ea_cons (ev_var (i := 1) rfl) ea_nil) (spPR_v (g := fun i m c r => firstCalled m i c r) h3 ht')) ea_nil) fun H4 e4 => ⟨{ S with L := { S.L with ll := ll } }, i, _, c, _, rfl, h3.ex e4, fun k hk => firstCalled_lt h3 hk, fun H5 h5 f5 => ?_⟩
      refine ⟨⟨_, rfl⟩, ?_, foot_ll (f3.trans (Fr.of_ex e4)) hll0 ?_⟩
      · rw [nexts_succ]
        exact h5
      · have e : (nexts (beginG m (nextGroup m i c)) i c t).n = m.n := congrArg List.length (nexts_P t)
        rw [e] at f5
        exact f5
    · rintro σ' H' ⟨⟨v, rfl⟩, h3, f3⟩
      exact q H' ll h3 f3 hll0
def spBegins (A : Adr) : Sp := fun vs H Q _ => ∃ S i m c, vs = [.ref S.p] ∧ StpAt A H S i m c ∧ (∀ j, i.f = some j → j ∈ c) ∧ ∀ H' ll, StpAt A H' { S with L := { S.L with ll := ll } } i (begins m i c) c → Fr (Foot S.L m.n) H H' → (ll = S.L.ll ∨ H ll = none) → Q .non H'
theorem ok_P_begin_greens (T : Txt K mg A) : FnOk P w K mg base CX0 6 A.f_P_begin_greens A.d_P_begin_greens ["self"] (spBegins A) := by
  refine T.F_P_begin_greens.ok sc_P_begin_greens (fun vs H Q E h => ?_) (fun cdv Ar outer s H vs Q E hr h => ?_)
  · obtain ⟨S, i, m, c, rfl, _⟩ := h
    rfl
  · obtain ⟨S, i, m, c, rfl, h, hfc, q⟩ := h
    refine ⟨_, (pss_cons (ps_set (i := 1) sc_P_begin_greens.nd rfl (Or.inl rfl) (pe_cmp (pc_gt (pe_callB call_len_seq (by rfl) T.g_len PySem.boot_len (pa_cons (pe_meth0 (pe_fld (pv 0) rfl) T.cX T.M_X_greens (ok_X_greens T) (hr.mono (by decide)) T.B_X_greens .nil pass0) pa_nil)) pe_int)))
      (pss_cons (ps_for PassesOwn.never rfl (pi_range1 rfl T.g_range (pa_cons (pe_glob (v := .int (4)) rfl T.g_RINGS ⟨_, rfl⟩) pa_nil)) (pg_name (i := 2) sc_P_begin_greens.nd rfl (Or.inl rfl)) (pss_one (ps_if (pt_cmp (pc_isN (pe_meth (pe_fld (pv 0) rfl) T.cX T.M_X_in_colour (ok_X_in_colour T) (hr.mono (by decide)) T.B_X_in_colour .nil pass0 (pa_cons (pv 2) pa_nil)))) (pss_one (ps_expr (pe_meth (pv 0) T.cP T.M_P_begin_in_ring (ok_P_begin_in_ring T) (hr.mono (by decide)) T.B_P_begin_in_ring .nil pass0 (pa_cons (pv 2) (pa_cons (pv 1) pa_nil))))) pss_nil)))
      (pss_one (ps_if (PW.pt (pw_and (pt_val (pe_meth0 (pe_fld (pv 0) rfl) T.cX T.M_X_is_all_red (ok_X_is_all_red T) (hr.mono (by decide)) T.B_X_is_all_red .nil pass0)) (pw_and1 (pt_cmp (pc_gt (pe_callB call_len_seq (by rfl) T.g_len PySem.boot_len (pa_cons (pe_fld (pv 0) rfl) pa_nil)) pe_int))))) (pss_one (ps_expr (pe_meth0 (pv 0) T.cP T.M_P_begin_next_group (ok_P_begin_next_group T) (hr.mono (by decide)) T.B_P_begin_next_group .nil pass0))) pss_nil)))), ?_⟩
    refine q_asg (v := .bl (!decide (greens m = []))) (ev_is (ev_gtN (i := (greens m).length) (j := 0) (ev_is (ev_lenN (el_mX (ev_p_crossing T (ev_var (i := 0) rfl) h) h.cr xm_greens ea_nil (spGreens_v h.cr))) (by rw [refs_len])) ev_c) ?_) fun H1 e1 => ?_
    · refine congrArg V.bl ?_
      cases greens m with
      | nil => rfl
      | cons a l => simp
    have h1 := h.ex e1
    refine q_forR1 (j := 2) (ea_cons (ev_c (v := .int 4)) ea_nil) (by omega) (fun t σ' H' => (∃ v, σ' = [some (.ref S.p), some (.bl (!decide (greens m = []))), v]) ∧ StpAt A H' S i (rings m i c (!decide (greens m = [])) t) c ∧ Fr (Foot S.L m.n) H H') (fun H3 e3 => ⟨⟨_, rfl⟩, h1.ex e3, (Fr.of_ex e1).trans (Fr.of_ex e3)⟩) ?_ ?_
    · rintro t σ' H' ht ⟨⟨v, rfl⟩, h3, f3⟩
      have ht' : t < 4 := by omega
      have en : (rings m i c (!decide (greens m = [])) t).n = m.n := congrArg List.length (rings_P t)
      refine s_when (et_B (ev_is (ev_isN (ev_mX (ev_p_crossing T (ev_var (i := 0) rfl) h3) h3.cr xm_in_colour (ea_cons (ev_var (i := 2) rfl) ea_nil) (spInCol_v h3.cr ht'))) (congrArg V.bl oV_is))) (fun hb H4 e4 => ?_) fun hb H4 e4 => ?_
      · have h4 := h3.ex e4
        refine go_mP (ev_var (i := 0) rfl) h4 pm_begin_in_ring (ea_cons (ev_var (i := 2) rfl) (ea_cons (ev_var (i := 1) rfl) ea_nil)) fun H5 e5 => ⟨S, i, _, c, t, _, rfl, h4.ex e5, ht', fun H6 h6 f6 => ?_⟩
        rw [en] at f6
        refine ⟨⟨_, rfl⟩, ?_, f3.trans ((Fr.of_ex (e4.trans e5)).trans f6)⟩
        rw [rings_succ]
        unfold ringT
        rw [if_pos hb]
        exact h6
      · refine ⟨⟨_, rfl⟩, ?_, f3.trans (Fr.of_ex e4)⟩
        rw [rings_succ]
        unfold ringT
        rw [if_neg (by rw [hb]; decide)]
        exact h3.ex e4
    · rintro σ' H' ⟨⟨v, rfl⟩, h3, f3⟩
      replace h3 : StpAt A H' S i (rings m i c (!decide (greens m = [])) 4) c := h3
      have en : (rings m i c (!decide (greens m = [])) 4).n = m.n := congrArg List.length (rings_P 4)
      unfold begins at q
      generalize rings m i c (!decide (greens m = [])) 4 = m4 at h3 q en
      refine s_when (b := allRed m4 && !decide (c = [])) (et_and (et_B (ev_mX (ev_p_crossing T (ev_var (i := 0) rfl) h3) h3.cr xm_is_all_red ea_nil (spXB_v h3.cr))) fun _ => et_B (ev_is (ev_gtN (i := c.length) (j := 0) (ev_is (ev_len (ev_p_called T (ev_var (i := 0) rfl) h3) (sq_of h3.lst)) (by rw [refs_len])) ev_c) ?_)) (fun hb H4 e4 => ?_) fun hb H4 e4 => ?_
      · refine congrArg V.bl ?_
        cases c with
        | nil => rfl
        | cons a l => simp
      · have ey : begins2 m4 i c = beginNext m4 i c := if_pos hb
        rw [ey] at q
        have hcn : c ≠ [] := fun z => by
          rw [z] at hb
          simp at hb
        refine go_mP (ev_var (i := 0) rfl) (h3.ex e4) pm_begin_next_group ea_nil fun H5 e5 => ⟨S, i, m4, c, rfl, (h3.ex e4).ex e5, fun _ => hcn, fun H6 ll h6 f6 hll => ?_⟩
        rw [en] at f6
        have hll4 : H' ll = none := fresh_back (e4.trans e5) hll
        have e45 := e4.trans e5
        by_cases hl0 : ll = S.L.ll
        · exact q H6 ll h6 (f3.trans ((Fr.of_ex e45).trans f6)) (Or.inl hl0)
        · refine q H6 ll h6 (f3.trans ((Fr.of_ex e45).trans f6)) (Or.inr ?_)
          cases e : H ll with
          | none => rfl
          | some o =>
            have nf : ¬ Foot S.L m.n ll := by
              rintro (z | z | ⟨k, hk, z⟩)
              · obtain ⟨dx, ho⟩ := h3.cr.obj
                rw [z, ho] at hll4
                cases hll4
              · exact hl0 z
              · obtain ⟨dk, hs⟩ := h3.cr.st k (by rw [en]; exact hk)
                rw [z, hs] at hll4
                cases hll4
            rw [f3 ll o e nf] at hll4
            cases hll4
      · have ey : begins2 m4 i c = m4 := if_neg (by rw [hb]; decide)
        rw [ey] at q
        exact q H4 S.L.ll (h3.ex e4) (f3.trans (Fr.of_ex e4)) (Or.inl rfl)
end
end Xg

namespace Xg
open PySem PySem.Spec PyProof.Rows L2 Evl
open PySem.W (Codec)
section
variable {P : Program} {w : World} {K : PySem.W.Frag} {mg : Str → Option Value} {base : Heap} {A : Adr}
/-- one stream's turn -/
structure Tn (A : Adr) (H0 : Hp) (S : SL) (i : Inp) (mt : Cm) (c : List Nat) (t : Nat) (d : Dy) (H' : Hp) : Prop where
  s : StpAt A H' S i (mt.setD t d) c
  f : Fr (Foot S.L mt.n) H0 H'
section
variable {H0 H1 H2 : Hp} {S : SL} {i : Inp} {m mt : Cm} {c : List Nat} {t : Nat} {d d' : Dy}
theorem Tn.ex (x : Tn A H0 S i mt c t d H1) (e : Ex H1 H2) : Tn A H0 S i mt c t d H2 := ⟨x.s.ex e, x.f.trans (Fr.of_ex e)⟩
theorem Tn.st (x : Tn A H0 S i mt c t d H1) (ht : t < mt.n) : StAt A.CS H1 (S.L.ad t) t (mt.st t) d := by
  have q := x.s.cr.st t ht
  rw [setD_dy] at q
  exact q
theorem Tn.next (x : Tn A H0 S i mt c t d H1) (ht : t < mt.n) (hs : StAt A.CS H2 (S.L.ad t) t (mt.st t) d') (f : Fr1 (S.L.ad t) H1 H2) : Tn A H0 S i mt c t d' H2 := by
  refine ⟨?_, x.f.trans (foot_st f ht)⟩
  have q := x.s.setD ht hs f
  rw [setD_setD] at q
  exact q
theorem Tn.start (h : StpAt A H1 S i mt c) (f : Fr (Foot S.L mt.n) H0 H1) : Tn A H0 S i mt c t (mt.dy t) H1 := ⟨by rw [setD_id]; exact h, f⟩
end
def spM0 (A : Adr) (g : Inp → Cm → List Nat → Cm) : Sp := fun vs H Q _ => ∃ S i m c, vs = [.ref S.p] ∧ StpAt A H S i m c ∧ ∀ H', StpAt A H' S i (g i m c) c → Fr (Foot S.L m.n) H H' → Q .non H'
theorem ok_P_run_clocks (T : Txt K mg A) : FnOk P w K mg base CX0 5 A.f_P_run_clocks A.d_P_run_clocks ["self"] (spM0 A fun i m c => clocks m i c) := by
  refine T.F_P_run_clocks.ok sc_P_run_clocks (fun vs H Q E h => ?_) (fun cdv Ar outer s H vs Q E hr h => ?_)
  · obtain ⟨S, i, m, c, rfl, _⟩ := h
    rfl
  · obtain ⟨S, i, m, c, rfl, h, q⟩ := h
    refine ⟨_, (pss_cons (ps_set (i := 1) sc_P_run_clocks.nd rfl (Or.inl rfl) (pe_meth0 (pv 0) T.cP T.M_P_is_pressed (ok_P_is_pressed T) (hr.mono (by decide)) T.B_P_is_pressed .nil pass0))
      (pss_one (ps_for PassesOwn.never rfl (pi_list (pe_fld (pe_fld (pv 0) rfl) rfl)) (pg_name (i := 2) sc_P_run_clocks.nd rfl (Or.inl rfl)) (pss_cons (ps_expr (pe_meth0 (pv 2) T.cS T.M_S_run_clock (ok_S_run_clock T) (hr.mono (by decide)) T.B_S_run_clock .nil pass0))
      (pss_one (ps_if (pt_val (pe_meth0 (pv 2) T.cS T.M_S_is_green (ok_S_is_green T) (hr.mono (by decide)) T.B_S_is_green .nil pass0)) (pss_cons (ps_expr (pe_meth (pv 2) T.cS T.M_S_run_gap (ok_S_run_gap T) (hr.mono (by decide)) T.B_S_run_gap .nil pass0 (pa_cons (pe_meth (pv 0) T.cP T.M_P_has_car (ok_P_has_car T) (hr.mono (by decide)) T.B_P_has_car .nil pass0 (pa_cons (pv 2) pa_nil)) pa_nil)))
      (pss_cut (ps_if (pt_val (pv 1)) (pss_one (ps_fldaug (pv 2) pe_int in_add)) pss_nil)
      (pss_one (ps_if (pt_val (pe_meth (pv 0) T.cP T.M_P_is_crossed_by_first (ok_P_is_crossed_by_first T) (hr.mono (by decide)) T.B_P_is_crossed_by_first .nil pass0 (pa_cons (pv 2) pa_nil))) (pss_one (ps_expr (pe_meth0 (pv 2) T.cS T.M_S_end_walk (ok_S_end_walk T) (hr.mono (by decide)) T.B_S_end_walk .nil pass0))) pss_nil)))) pss_nil)))))), ?_⟩
    refine q_asg (v := .bl (pressed m c)) (ev_mP (ev_var (i := 0) rfl) h pm_is_pressed ea_nil (spP0_v (g := fun _ m c => .bl (pressed m c)) h)) fun H1 e1 => ?_
    have h1 := h.ex e1
    refine s_forLn (ev_x_streams (X := S.p) T (ev_p_crossing T (ev_var (i := 0) rfl) h1) h1.cr) (sq_of h1.cr.sts) (fun t σ' H' => (∃ v, σ' = [some (.ref S.p), some (.bl (pressed m c)), v]) ∧ StpAt A H' S i (upTo (clockF m.P i (pressed m c)) t m) c ∧ Fr (Foot S.L m.n) H H') (fun H2 e2 => ⟨⟨_, rfl⟩, by rw [upTo_zero]; exact h1.ex e2, (Fr.of_ex e1).trans (Fr.of_ex e2)⟩) (fun t σ' H' _ ⟨_, h2, _⟩ => sq_of h2.cr.sts) ?_ ?_
    · rintro t x σ' H' hx ⟨⟨v, rfl⟩, h2, f2⟩
      obtain ⟨htn, rfl⟩ := refs_range hx
      have hp := h.cr.hw.rt t htn
      have x0 := Tn.start (t := t) (mt := upTo (clockF m.P i (pressed m c)) t m) h2 f2
      rw [upTo_dy] at x0
      have fin : ∀ H', Tn A H S i (upTo (clockF m.P i (pressed m c)) t m) c t (clockF m.P i (pressed m c) t (m.dy t)) H' → StpAt A H' S i (upTo (clockF m.P i (pressed m c)) (t + 1) m) c ∧ Fr (Foot S.L m.n) H H' := fun H' x => ⟨by
        have y := x.s
        rw [upTo_succ] at y
        exact y, x.f⟩
      refine q_mS (ev_var (i := 2) rfl) (x0.st htn) sm_run_clock ea_nil fun H3 e3 => ⟨_, t, _, _, rfl, (x0.ex e3).st htn, hp, fun H4 h4 f4 => ?_⟩
      have x4 := (x0.ex e3).next htn h4 f4
      refine s_when (et_B (ev_mS (ev_var (i := 2) rfl) h4 sm_is_green ea_nil (spB_v h4 hp))) (fun hb H5 e5 => ?_) fun hb H5 e5 => ?_
      · have x5 := x4.ex e5
        have h5 := x5.st htn
        refine q_mS (ev_var (i := 2) rfl) h5 sm_run_gap (ea_cons (ev_mP (ev_var (i := 0) rfl) x5.s pm_has_car (ea_cons (ev_var (i := 2) rfl) ea_nil) (spPB_v (g := fun i _ _ k => i.cars.testBit k) x5.s htn)) ea_nil) fun H6 e6 => ⟨_, t, _, _, _, rfl, (x5.ex e6).st htn, hp, fun H7 h7 f7 => ?_⟩
        have x7 := (x5.ex e6).next htn h7 f7
        refine q_cut (M := fun σ' H' => σ' = [some (.ref S.p), some (.bl (pressed m c)), some (.ref (S.L.ad t))] ∧ Tn A H S i (upTo (clockF m.P i (pressed m c)) t m) c t (wait (pressed m c) (gapR (m.st t) (tick (m.dy t)) (i.cars.testBit t))) H') ?_ ?_
        · refine s_when (et_B (ev_var (i := 1) rfl)) (fun hb2 H8 e8 => ?_) fun hb2 H8 e8 => ?_
          · have x8 := x7.ex e8
            refine s_inc (ev_var (i := 2) rfl) (x8.st htn) T.cS T.nS_waited sl_waited ev_c (sp_waited rfl) fun H9 h9 f9 => ⟨rfl, ?_⟩
            unfold wait
            rw [if_pos hb2]
            exact x8.next htn h9 f9
          · refine ⟨rfl, ?_⟩
            unfold wait
            rw [if_neg (by rw [hb2]; decide)]
            exact x7.ex e8
        · rintro σ' H8 ⟨rfl, x8⟩
          refine s_when (b := byFirst m.P i.f t) (et_B (ev_is (ev_mP (ev_var (i := 0) rfl) x8.s pm_is_crossed_by_first (ea_cons (ev_var (i := 2) rfl) ea_nil) (spPB_v (g := fun i m _ k => byFirst m.P i.f k) x8.s htn)) rfl)) (fun hb2 H9 e9 => ?_) fun hb2 H9 e9 => ?_
          · have x9 := x8.ex e9
            refine s_mS (ev_var (i := 2) rfl) (x9.st htn) sm_end_walk ea_nil fun H10 e10 => ⟨_, t, _, _, rfl, (x9.ex e10).st htn, hp, fun H11 h11 f11 => ?_⟩
            have x11 := (x9.ex e10).next htn h11 f11
            refine ⟨⟨_, rfl⟩, fin _ ?_⟩
            unfold clockF clock1
            rw [if_pos hb]
            unfold endF
            rw [if_pos hb2]
            exact x11
          · refine ⟨⟨_, rfl⟩, fin _ ?_⟩
            unfold clockF clock1
            rw [if_pos hb]
            unfold endF
            rw [if_neg (by rw [hb2]; decide)]
            exact x8.ex e9
      · refine ⟨⟨_, rfl⟩, fin _ ?_⟩
        unfold clockF clock1
        rw [if_neg (by rw [hb]; decide)]
        exact x4.ex e5
    · rintro σ' H' ⟨⟨v, rfl⟩, h2, f2⟩
      rw [refs_len, List.length_range] at h2
      exact q H' h2 f2
section
variable {H0 H1 H2 : Hp} {S : SL} {i : Inp} {m mt : Cm} {c : List Nat} {t k : Nat} {d d' : Dy}
theorem StpAt.lc_p (h : StpAt A H1 S i m c) : S.p ≠ S.lc := by
  obtain ⟨dx, ho⟩ := h.obj
  exact ne_of ho h.lst (by intro z; cases z)
/-- one more is called -/
theorem StpAt.app (h : StpAt A H1 S i m c) (hk : k < m.n) (hl : c.length < 16) : StpAt A (upd H1 S.lc (.lst (refs S.L.ad c ++ [.ref (S.L.ad k)]))) S i m (c ++ [k]) := by
  have kk : ∀ b o, H1 b = some o → b ≠ S.lc → (upd H1 S.lc (.lst (refs S.L.ad c ++ [.ref (S.L.ad k)]))) b = some o := fun b o hb ne => by
    rw [upd_ne ne]
    exact hb
  have nf := h.lc_foot
  obtain ⟨dx, ho⟩ := h.obj
  obtain ⟨dx2, ho2⟩ := h.cr.obj
  refine ⟨⟨⟨dx2, kk _ _ ho2 fun z => nf (Or.inl z.symm)⟩, kk _ _ h.cr.sts h.n1.symm, kk _ _ h.cr.lat h.n2.symm, fun j hj => ?_, h.cr.inj, h.cr.nel, h.cr.hw⟩, ⟨dx, kk _ _ ho h.lc_p⟩, ?_, h.fn, fun j hj => ?_, by rw [List.length_append]; exact hl, h.n1, h.n2⟩
  · obtain ⟨dj, hj'⟩ := h.cr.st j hj
    exact ⟨dj, kk _ _ hj' fun z => nf (Or.inr (Or.inr ⟨j, hj, z.symm⟩))⟩
  · rw [upd_same]
    unfold refs
    rw [List.map_append]
    rfl
  · rcases List.mem_append.mp hj with hj | hj
    · exact h.cn j hj
    · rw [List.mem_singleton] at hj
      rw [hj]
      exact hk
theorem calledL_yes (hc : callF m i t = true) : calledL m i (t + 1) = calledL m i t ++ [t] := by
  unfold calledL
  rw [List.range_succ, List.filter_append, List.filter_cons, if_pos hc]
  rfl
theorem calledL_no (hc : callF m i t = false) : calledL m i (t + 1) = calledL m i t := by
  unfold calledL
  rw [List.range_succ, List.filter_append, List.filter_cons, if_neg (by rw [hc]; decide)]
  show _ ++ [] = _
  rw [List.append_nil]
theorem calledL_len : (calledL m i t).length ≤ t := by
  unfold calledL
  have h := List.length_filter_le (callF m i) (List.range t)
  rw [List.length_range] at h
  exact h
end
/-- what hearing may change -/
def FootP (S : SL) (n : Nat) (b : Addr) : Prop := Foot S.L n b ∨ b = S.lc
def spHears (A : Adr) : Sp := fun vs H Q _ => ∃ S i m, vs = [.ref S.p] ∧ StpAt A H S i m [] ∧ ∀ H', StpAt A H' S i (hears m i) (calls m i) → Fr (FootP S m.n) H H' → Q .non H'
theorem ok_P_hear_calls (T : Txt K mg A) : FnOk P w K mg base CX0 4 A.f_P_hear_calls A.d_P_hear_calls ["self"] (spHears A) := by
  refine T.F_P_hear_calls.ok sc_P_hear_calls (fun vs H Q E h => ?_) (fun cdv Ar outer s H vs Q E hr h => ?_)
  · obtain ⟨S, i, m, rfl, _⟩ := h
    rfl
  · obtain ⟨S, i, m, rfl, h, q⟩ := h
    refine ⟨_, (pss_one (ps_for PassesOwn.never rfl (pi_list (pe_fld (pe_fld (pv 0) rfl) rfl)) (pg_name (i := 1) sc_P_hear_calls.nd rfl (Or.inl rfl)) (pss_cons (ps_expr (pe_meth (pv 1) T.cS T.M_S_hear (ok_S_hear T) (hr.mono (by decide)) T.B_S_hear .nil pass0 (pa_cons (pe_meth (pv 0) T.cP T.M_P_has_car (ok_P_has_car T) (hr.mono (by decide)) T.B_P_has_car .nil pass0 (pa_cons (pv 1) pa_nil)) (pa_cons (pe_meth (pv 0) T.cP T.M_P_has_button (ok_P_has_button T) (hr.mono (by decide)) T.B_P_has_button .nil pass0 (pa_cons (pv 1) pa_nil)) pa_nil))))
      (pss_one (ps_if (PW.pt (pw_or (pt_val (pe_meth (pv 1) T.cS T.M_S_is_called (ok_S_is_called T) (hr.mono (by decide)) T.B_S_is_called .nil pass0 (pa_cons (pe_meth (pv 0) T.cP T.M_P_has_car (ok_P_has_car T) (hr.mono (by decide)) T.B_P_has_car .nil pass0 (pa_cons (pv 1) pa_nil)) pa_nil))) (pw_or1 (pt_val (pe_meth (pv 0) T.cP T.M_P_is_first (ok_P_is_first T) (hr.mono (by decide)) T.B_P_is_first .nil pass0 (pa_cons (pv 1) pa_nil)))))) (pss_one (ps_expr (pe_bm PySem.F.plainAttrs_list PySem.F.slot_list_append PySem.F.type_list_append mt_append (pe_fld (pv 0) rfl) (pa_cons (pv 1) pa_nil)))) pss_nil))))), ?_⟩
    refine s_forLn (ev_x_streams (X := S.p) T (ev_p_crossing T (ev_var (i := 0) rfl) h) h.cr) (sq_of h.cr.sts) (fun t σ' H' => (∃ v, σ' = [some (.ref S.p), v]) ∧ StpAt A H' S i (upTo (hearF m.P i) t m) (calledL m i t) ∧ Fr (FootP S m.n) H H') (fun H2 e2 => ⟨⟨_, rfl⟩, by rw [upTo_zero]; exact h.ex e2, Fr.of_ex e2⟩) (fun t σ' H' _ ⟨_, h2, _⟩ => sq_of h2.cr.sts) ?_ ?_
    · rintro t x σ' H' hx ⟨⟨v, rfl⟩, h2, f2⟩
      obtain ⟨htn, rfl⟩ := refs_range hx
      have hp := h.cr.hw.rt t htn
      have hn16 := h.cr.hw.most
      have x0 := Tn.start (t := t) (H0 := H') (mt := upTo (hearF m.P i) t m) h2 (Fr.of_ex (Ex.refl _))
      rw [upTo_dy] at x0
      refine q_mS (ev_var (i := 1) rfl) (x0.st htn) sm_hear (ea_cons (ev_mP (ev_var (i := 0) rfl) h2 pm_has_car (ea_cons (ev_var (i := 1) rfl) ea_nil) (spPB_v (g := fun i _ _ k => i.cars.testBit k) h2 htn)) (ea_cons (ev_mP (ev_var (i := 0) rfl) h2 pm_has_button (ea_cons (ev_var (i := 1) rfl) ea_nil) (spPB_v (g := fun i _ _ k => i.people.testBit k) h2 htn)) ea_nil)) fun H3 e3 => ⟨_, t, _, _, _, _, rfl, (x0.ex e3).st htn, hp, fun H4 h4 f4 => ?_⟩
      have x4 := (x0.ex e3).next (d' := hearF m.P i t (m.dy t)) htn h4 f4
      have s4 := x4.s
      rw [upTo_succ] at s4
      have g4 : Fr (FootP S m.n) H H4 := f2.trans (x4.f.mono fun b hb => Or.inl hb)
      have h4' : StAt A.CS H4 (S.L.ad t) t (m.st t) (hearF m.P i t (m.dy t)) := h4
      refine s_when (b := callF m i t) (et_or (et_B (ev_mS (ev_var (i := 1) rfl) h4' sm_is_called (ea_cons (ev_mP (ev_var (i := 0) rfl) s4 pm_has_car (ea_cons (ev_var (i := 1) rfl) ea_nil) (spPB_v (g := fun i _ _ k => i.cars.testBit k) s4 htn)) ea_nil) (spB1_v h4' hp))) fun _ => et_B (ev_mP (ev_var (i := 0) rfl) s4 pm_is_first (ea_cons (ev_var (i := 1) rfl) ea_nil) (spPB_v (g := fun i _ _ k => isFirst i.f k) s4 htn))) (fun hb H5 e5 => ?_) fun hb H5 e5 => ?_
      · have s5 := s4.ex e5
        have hlen := calledL_len (m := m) (i := i) (t := t)
        have htn' : t < m.n := htn
        refine s_app s5.lst (ev_p_called T (ev_var (i := 0) rfl) s5) (ev_var (i := 1) rfl) (by rw [refs_len]; omega) fun H6 e6 => ⟨⟨_, rfl⟩, ?_, ?_⟩
        · rw [calledL_yes hb]
          exact (s5.ex e6).app htn (by omega)
        · exact g4.trans ((Fr.of_ex (e5.trans e6)).trans fun b o hb nf => by
            rw [upd_ne fun z => nf (Or.inr z)]
            exact hb)
      · refine ⟨⟨_, rfl⟩, ?_, g4.trans (Fr.of_ex e5)⟩
        rw [calledL_no hb]
        exact s4.ex e5
    · rintro σ' H' ⟨⟨v, rfl⟩, h2, f2⟩
      rw [refs_len, List.length_range] at h2
      exact q H' h2 f2
section
variable {H0 H1 H2 : Hp} {S : SL} {i : Inp} {m mt : Cm} {c : List Nat} {t k : Nat} {d d' : Dy}
theorem ends1_dy : (ends1 m i c t).dy t = m.dy t := if_neg (Nat.lt_irrefl t)
theorem ends1_zero : ends1 m i c 0 = m := by
  unfold ends1
  refine congrArg (fun q => Cm.mk m.P q m.group m.latest) ?_
  funext j
  exact if_neg (Nat.not_lt_zero j)
theorem ends1_succ : (ends1 m i c t).setD t (endD m i c t) = ends1 m i c (t + 1) := by
  unfold ends1 Cm.setD
  refine congrArg (fun q => Cm.mk m.P q m.group m.latest) ?_
  funext j
  show setF (fun k => if k < t then endD m i c k else m.dy k) t (endD m i c t) j = if j < t + 1 then endD m i c j else m.dy j
  by_cases e : j = t
  · rw [e, setF_same, if_pos (Nat.lt_succ_self t)]
  · rw [setF_ne e]
    by_cases hj : j < t
    · rw [if_pos hj, if_pos (by omega)]
    · rw [if_neg hj, if_neg (by omega)]
theorem ready_ends1 : ready (ends1 m i c t) i.f t = ready m i.f t := by
  unfold ready
  rw [ends1_dy]
  rfl
theorem allOver_succ : allOver m i c (t + 1) = (allOver m i c t && overF m i c t) := by
  unfold allOver
  rw [List.range_succ, List.all_append]
  simp
theorem partY_nil : partY m [] = m := by
  unfold partY
  refine congrArg (fun q => Cm.mk m.P q m.group m.latest) ?_
  funext j
  exact if_neg (by simp)
theorem partY_more {l : List Nat} (hk : l[t]? = some k) : (partY m (l.take t)).setD k (takeC 2 ((partY m (l.take t)).dy k)) = partY m (l.take (t + 1)) := by
  unfold partY Cm.setD
  refine congrArg (fun q => Cm.mk m.P q m.group m.latest) ?_
  funext j
  show setF (fun k => if k ∈ l.take t then takeC 2 (m.dy k) else m.dy k) k (takeC 2 (if k ∈ l.take t then takeC 2 (m.dy k) else m.dy k)) j = if j ∈ l.take (t + 1) then takeC 2 (m.dy j) else m.dy j
  rw [take_more hk]
  by_cases e : j = k
  · rw [e, setF_same, if_pos (show k ∈ l.take t ++ [k] by simp)]
    split <;> rfl
  · rw [setF_ne e]
    by_cases hj : j ∈ l.take t
    · rw [if_pos hj, if_pos (by simp [hj])]
    · rw [if_neg hj, if_neg (by simp [hj, e])]
end
theorem s_forNLn {K : PySem.W.Frag} {σ : L2.St} {H : Hp} {D : Ends} {tu : TS} {xs : List V} {tl : TE} {j : Nat} (h : EvL tl σ H xs) (Pv : Addr → Nat → L2.St → Hp → Prop) (h0 : ∀ p H1, H p = none → Ex H H1 → H1 p = some (.lst xs) → Pv p 0 σ H1) (hl : ∀ p i σ' H', i ≤ xs.length → Pv p i σ' H' → SqL K H' p xs)
    (hs : ∀ p i x σ' H', xs[i]? = some x → Pv p i σ' H' → tu { D with nx := Pv p (i + 1), ct := Pv p (i + 1), bk := D.nx } (σ'.set j (some x)) H') (hd : ∀ p σ' H', Pv p xs.length σ' H' → D.nx σ' H') : tFor (iList K tl) (gName j) tu D σ H :=
  s_forNL h Pv h0 hl hs hd
theorem ok_P_end_colours (T : Txt K mg A) : FnOk P w K mg base CX0 6 A.f_P_end_colours A.d_P_end_colours ["self"] (spM0 A fun i m c => ends m i c) := by
  refine T.F_P_end_colours.ok sc_P_end_colours (fun vs H Q E h => ?_) (fun cdv Ar outer s H vs Q E hr h => ?_)
  · obtain ⟨S, i, m, c, rfl, _⟩ := h
    rfl
  · obtain ⟨S, i, m, c, rfl, h, q⟩ := h
    refine ⟨_, (pss_cons (ps_for PassesOwn.never rfl (pi_list (pe_fld (pe_fld (pv 0) rfl) rfl)) (pg_name (i := 1) sc_P_end_colours.nd rfl (Or.inl rfl)) (pss_one (ps_expr (pe_meth0 (pv 1) T.cS T.M_S_end_yellow_and_clearing (ok_S_end_yellow_and_clearing T) (hr.mono (by decide)) T.B_S_end_yellow_and_clearing .nil pass0))))
      (pss_cons (ps_set (i := 2) sc_P_end_colours.nd rfl (Or.inl rfl) pe_bl)
      (pss_cons (ps_for PassesOwn.never rfl (pi_list (pe_fld (pe_fld (pv 0) rfl) rfl)) (pg_name (i := 1) sc_P_end_colours.nd rfl (Or.inl rfl)) (pss_one (ps_if (pt_val (pe_meth0 (pv 1) T.cS T.M_S_is_in_colour (ok_S_is_in_colour T) (hr.mono (by decide)) T.B_S_is_in_colour .nil pass0)) (pss_cons (ps_set (i := 3) sc_P_end_colours.nd rfl (Or.inl rfl) (pe_or (pe_not (pe_meth0 (pv 1) T.cS T.M_S_is_green (ok_S_is_green T) (hr.mono (by decide)) T.B_S_is_green .nil pass0)) (pe_one (pe_meth (pv 0) T.cP T.M_P_is_ready (ok_P_is_ready T) (hr.mono (by decide)) T.B_P_is_ready .nil pass0 (pa_cons (pv 1) pa_nil)))))
      (pss_cons (ps_set (i := 4) sc_P_end_colours.nd rfl (Or.inl rfl) (pe_cmp (pc_notN (pe_meth (pv 0) T.cP T.M_P_heir (ok_P_heir T) (hr.mono (by decide)) T.B_P_heir .nil pass0 (pa_cons (pv 1) pa_nil)))))
      (pss_cut (ps_if (PW.pt (pw_or (pt_not (pt_val (pv 3))) (pw_or1 (pt_val (pv 4))))) (pss_one (ps_set (i := 2) sc_P_end_colours.nd rfl (Or.inl rfl) pe_bl)) pss_nil)
      (pss_one (ps_if (PW.pt (pw_and (pt_val (pe_meth0 (pv 1) T.cS T.M_S_is_green (ok_S_is_green T) (hr.mono (by decide)) T.B_S_is_green .nil pass0)) (pw_and (pt_val (pv 3)) (pw_and1 (pt_val (pv 4)))))) (pss_one (ps_expr (pe_meth (pv 1) T.cS T.M_S_take_colour (ok_S_take_colour T) (hr.mono (by decide)) T.B_S_take_colour .nil pass0 (pa_cons (pe_glob (v := .int (2)) rfl T.g_YELLOW ⟨_, rfl⟩) pa_nil)))) pss_nil))))) pss_nil)))
      (pss_one (ps_if (PW.pt (pw_and (pt_val (pv 2)) (pw_and1 (pt_val (pe_meth0 (pv 0) T.cP T.M_P_is_pressed (ok_P_is_pressed T) (hr.mono (by decide)) T.B_P_is_pressed .nil pass0))))) (pss_one (ps_for PassesOwn.never rfl (pi_list (pe_meth0 (pe_fld (pv 0) rfl) T.cX T.M_X_greens (ok_X_greens T) (hr.mono (by decide)) T.B_X_greens .nil pass0)) (pg_name (i := 1) sc_P_end_colours.nd rfl (Or.inl rfl)) (pss_one (ps_expr (pe_meth (pv 1) T.cS T.M_S_take_colour (ok_S_take_colour T) (hr.mono (by decide)) T.B_S_take_colour .nil pass0 (pa_cons (pe_glob (v := .int (2)) rfl T.g_YELLOW ⟨_, rfl⟩) pa_nil)))))) pss_nil))))), ?_⟩
    -- what fades
    refine q_forLn (ev_x_streams (X := S.p) T (ev_p_crossing T (ev_var (i := 0) rfl) h) h.cr) (sq_of h.cr.sts) (fun t σ' H' => (∃ v, σ' = [some (.ref S.p), v, none, none, none]) ∧ StpAt A H' S i (upTo (fun k d => fade (stP m.P k) d) t m) c ∧ Fr (Foot S.L m.n) H H') (fun H2 e2 => ⟨⟨_, rfl⟩, by rw [upTo_zero]; exact h.ex e2, Fr.of_ex e2⟩) (fun t σ' H' _ ⟨_, h2, _⟩ => sq_of h2.cr.sts) ?_ ?_
    · rintro t x σ' H' hx ⟨⟨v, rfl⟩, h2, f2⟩
      obtain ⟨htn, rfl⟩ := refs_range hx
      have hp := h.cr.hw.rt t htn
      have x0 := Tn.start (t := t) (mt := upTo (fun k d => fade (stP m.P k) d) t m) h2 f2
      rw [upTo_dy] at x0
      refine s_mS (ev_var (i := 1) rfl) (x0.st htn) sm_end_yellow_and_clearing ea_nil fun H3 e3 => ⟨_, t, _, _, rfl, (x0.ex e3).st htn, hp, fun H4 h4 f4 => ?_⟩
      have x4 := (x0.ex e3).next htn h4 f4
      have y := x4.s
      have z := upTo_succ (g := fun k d => fade (stP m.P k) d) (t := t) (m := m)
      refine ⟨⟨_, rfl⟩, ?_, x4.f⟩
      rw [← z]
      exact y
    · rintro σ0 H1 ⟨⟨v0, rfl⟩, h1, f1⟩
      rw [refs_len, List.length_range] at h1
      replace h1 : StpAt A H1 S i (fades m) c := h1
      have q' : ∀ H', StpAt A H' S i (ends2 (fades m) i c (ends1 (fades m) i c m.n)) c → Fr (Foot S.L m.n) H H' → Q .non H' := q
      have en : (fades m).n = m.n := rfl
      generalize hmf : fades m = mf at h1 q' en
      refine q_asg (ev_c (v := .bl true)) fun H2 e2 => ?_
      have h2 := h1.ex e2
      -- who ends
      refine q_forLn (ev_x_streams (X := S.p) T (ev_p_crossing T (ev_var (i := 0) rfl) h2) h2.cr) (sq_of h2.cr.sts) (fun t σ' H' => (∃ v w x, σ' = [some (.ref S.p), v, some (.bl (allOver mf i c t)), w, x]) ∧ StpAt A H' S i (ends1 mf i c t) c ∧ Fr (Foot S.L m.n) H H') (fun H3 e3 => ⟨⟨_, _, _, rfl⟩, by rw [ends1_zero]; exact h2.ex e3, f1.trans (Fr.of_ex (e2.trans e3))⟩) (fun t σ' H' _ ⟨_, h2, _⟩ => sq_of h2.cr.sts) ?_ ?_
      · rintro t x σ' H' hx ⟨⟨v, w, x', rfl⟩, h3, f3⟩
        obtain ⟨htn, rfl⟩ := refs_range hx
        have hp := h1.cr.hw.rt t htn
        have f3' : Fr (Foot S.L mf.n) H H' := by
          rw [en]
          exact f3
        have x0 := Tn.start (t := t) (mt := ends1 mf i c t) h3 f3'
        rw [ends1_dy] at x0
        have hs := x0.st htn
        refine s_when (b := inc (mf.dy t)) (et_B (ev_mS (ev_var (i := 1) rfl) hs sm_is_in_colour ea_nil (spB_v hs hp))) (fun hb H4 e4 => ?_) fun hb H4 e4 => ?_
        · have x4 := x0.ex e4
          have h4 := h3.ex e4
          have hs4 := x4.st htn
          refine q_asg (v := .bl (rdy mf i t)) (ev_orV (b := ready mf i.f t) (ev_notV (ev_mS (ev_var (i := 1) rfl) hs4 sm_is_green ea_nil (spB_v hs4 hp))) fun _ => ev_is (ev_mP (ev_var (i := 0) rfl) h4 pm_is_ready (ea_cons (ev_var (i := 1) rfl) ea_nil) (spPB_v (g := fun i m _ k => ready m i.f k) h4 htn)) (congrArg V.bl ready_ends1)) fun H5 e5 => ?_
          have h5 := h4.ex e5
          refine q_asg (v := .bl (hasHeir mf i c t)) (ev_is (ev_notN (ev_mP (ev_var (i := 0) rfl) h5 pm_heir (ea_cons (ev_var (i := 1) rfl) ea_nil) (spPV_v (g := fun i m c k => heir m.P c i.f k) h5 htn))) (congrArg V.bl oV_non)) fun H6 e6 => ?_
          have e46 := e5.trans e6
          refine q_cut (M := fun σ' H' => σ' = [some (.ref S.p), some (.ref (S.L.ad t)), some (.bl (allOver mf i c (t + 1))), some (.bl (rdy mf i t)), some (.bl (hasHeir mf i c t))] ∧ Ex H4 H') ?_ ?_
          · refine s_when (et_or (et_not (et_B (ev_var (i := 3) rfl))) fun _ => et_B (ev_var (i := 4) rfl)) (fun hb2 H7 e7 => ?_) fun hb2 H7 e7 => ?_
            · refine s_asg (ev_c (v := .bl false)) fun H8 e8 => ⟨?_, e46.trans (e7.trans e8)⟩
              have z : allOver mf i c (t + 1) = false := by
                rw [allOver_succ]
                unfold overF
                rw [hb]
                cases hr1 : rdy mf i t <;> cases hh1 : hasHeir mf i c t <;> simp [hr1, hh1] at hb2 ⊢
              rw [z]
              rfl
            · refine ⟨?_, e46.trans e7⟩
              have z : allOver mf i c (t + 1) = allOver mf i c t := by
                rw [allOver_succ]
                unfold overF
                rw [hb]
                cases hr1 : rdy mf i t <;> cases hh1 : hasHeir mf i c t <;> simp [hr1, hh1] at hb2 ⊢
              rw [z]
              rfl
          · rintro σ' H7 ⟨rfl, e7⟩
            have x7 := x4.ex e7
            have hs7 := x7.st htn
            refine s_when (b := grn (mf.dy t) && (rdy mf i t && hasHeir mf i c t)) (et_and (et_B (ev_mS (ev_var (i := 1) rfl) hs7 sm_is_green ea_nil (spB_v hs7 hp))) fun _ => et_and (et_B (ev_var (i := 3) rfl)) fun _ => et_B (ev_var (i := 4) rfl)) (fun hb2 H8 e8 => ?_) fun hb2 H8 e8 => ?_
            · have x8 := x7.ex e8
              refine s_mS (ev_var (i := 1) rfl) (x8.st htn) sm_take_colour (ea_cons ev_c ea_nil) fun H9 e9 => ⟨_, t, _, _, 2, rfl, (x8.ex e9).st htn, hp, fun H10 h10 f10 => ?_⟩
              have x10 := (x8.ex e9).next htn h10 f10
              have z : endD mf i c t = takeC 2 (mf.dy t) := if_pos (by rw [hb, hb2]; rfl)
              refine ⟨⟨_, _, _, rfl⟩, ?_, ?_⟩
              · rw [← ends1_succ, z]
                exact x10.s
              · rw [← en]
                exact x10.f
            · have x8 := x7.ex e8
              have z : endD mf i c t = mf.dy t := if_neg (by rw [hb, hb2]; decide)
              refine ⟨⟨_, _, _, rfl⟩, ?_, ?_⟩
              · rw [← ends1_succ, z]
                exact x8.s
              · rw [← en]
                exact x8.f
        · have z : endD mf i c t = mf.dy t := if_neg (by rw [hb]; simp)
          have z2 : allOver mf i c (t + 1) = allOver mf i c t := by
            rw [allOver_succ]
            unfold overF
            rw [hb]
            simp
          have x4 := x0.ex e4
          refine ⟨⟨some (.ref (S.L.ad t)), w, x', by rw [z2]; rfl⟩, ?_, ?_⟩
          · rw [← ends1_succ, z]
            exact x4.s
          · rw [← en]
            exact x4.f
      · rintro σ' H' ⟨⟨v, w, x, rfl⟩, h3, f3⟩
        rw [refs_len, List.length_range, en] at h3 ⊢
        generalize hm2 : ends1 mf i c m.n = m2 at h3 q'
        have en2 : m2.n = m.n := by
          rw [← hm2]
          exact en
        have hao : allOver mf i c m.n = allOver mf i c mf.n := by rw [en]
        refine s_when (et_and (et_B (ev_var (i := 2) rfl)) fun _ => et_B (ev_mP (ev_var (i := 0) rfl) h3 pm_is_pressed ea_nil (spP0_v (g := fun _ m c => .bl (pressed m c)) h3))) (fun hb H4 e4 => ?_) fun hb H4 e4 => ?_
        · have z : ends2 mf i c m2 = toY m2 := if_pos (by rw [← hao]; exact hb)
          rw [z] at q'
          have h4 := h3.ex e4
          refine s_forNLn (j := 1) (el_mX (ev_p_crossing T (ev_var (i := 0) rfl) h4) h4.cr xm_greens ea_nil (spGreens_v h4.cr)) (fun gl u σ' H' => (∃ v w x y, σ' = [some (.ref S.p), v, w, x, y]) ∧ H4 gl = none ∧ H' gl = some (.lst (refs S.L.ad (greens m2))) ∧ StpAt A H' S i (partY m2 ((greens m2).take u)) c ∧ Fr (Foot S.L m.n) H H') (fun gl H5 hgl e5 hg => ⟨⟨_, _, _, _, rfl⟩, hgl, hg, by rw [List.take_zero, partY_nil]; exact h4.ex e5, f3.trans (Fr.of_ex (e4.trans e5))⟩) (fun gl u σ' H' _ ⟨_, _, hg, _⟩ => sq_of hg) ?_ ?_
          · rintro gl u x5 σ' H5 hx5 ⟨⟨v, w, x, y, rfl⟩, hgl, hg, h5, f5⟩
            obtain ⟨k, hk, rfl⟩ := refs_get hx5
            have hkn2 : k < m2.n := List.mem_range.mp (List.mem_filter.mp (List.mem_of_getElem? hk)).1
            have hp := h3.cr.hw.rt k hkn2
            have f5' : Fr (Foot S.L (partY m2 ((greens m2).take u)).n) H H5 := by
              show Fr (Foot S.L m2.n) H H5
              rw [en2]
              exact f5
            have x5 := Tn.start (t := k) (mt := partY m2 ((greens m2).take u)) h5 f5'
            have hne : gl ≠ S.L.ad k := fun z => by
              obtain ⟨dk, hs⟩ := h4.cr.st k hkn2
              rw [← z, hgl] at hs
              cases hs
            refine s_mS (ev_var (i := 1) rfl) (x5.st hkn2) sm_take_colour (ea_cons ev_c ea_nil) fun H6 e6 => ⟨_, k, _, _, 2, rfl, (x5.ex e6).st hkn2, hp, fun H7 h7 f7 => ?_⟩
            have x7 := (x5.ex e6).next hkn2 h7 f7
            refine ⟨⟨_, _, _, _, rfl⟩, hgl, f7 _ _ (e6 _ _ hg) hne, ?_, ?_⟩
            · rw [← partY_more hk]
              exact x7.s
            · have f := x7.f
              have e : (partY m2 ((greens m2).take u)).n = m.n := en2
              rw [e] at f
              exact f
          · rintro gl σ' H5 ⟨⟨v, w, x, y, rfl⟩, hgl, hg, h5, f5⟩
            rw [refs_len, List.take_length] at h5
            exact q' H5 h5 f5
        · have z : ends2 mf i c m2 = m2 := if_neg (by rw [← hao, hb]; decide)
          rw [z] at q'
          exact q' H4 (h3.ex e4) (f3.trans (Fr.of_ex e4))
end
end Xg

namespace Xg
open PySem PySem.Spec PyProof.Rows L2 Evl
open PySem.W (Codec)
section
variable {P : Program} {w : World} {K : PySem.W.Frag} {mg : Str → Option Value} {base : Heap} {A : Adr}
/-! ### a step's making and running -/
theorem empty_ne {H : Hp} {p b C dx : Addr} {C' dx' : Addr} {fs : List (Str × V)} (h : H p = some (.ins C dx [])) (h2 : H b = some (.ins C' dx' fs)) (hl : fs.length ≠ 0) : b ≠ p := ne_of h2 h (by
  intro z
  have e : fs = [] := by injection z
  rw [e] at hl
  exact hl rfl)
theorem CrAt.fr1 {CX CS C dx p : Addr} {H H' : Hp} {L : Lay} {m : Cm} (h : CrAt CX CS H L m) (hp : H p = some (.ins C dx [])) (f : Fr1 p H H') : CrAt CX CS H' L m := by
  obtain ⟨dxx, ho⟩ := h.obj
  refine ⟨⟨dxx, f _ _ ho (empty_ne hp ho (by show 3 ≠ 0; decide))⟩, f _ _ h.sts (ne_of h.sts hp (by intro z; cases z)), f _ _ h.lat (ne_of h.lat hp (by intro z; cases z)), fun k hk => ?_, h.inj, h.nel, h.hw⟩
  obtain ⟨dk, hs⟩ := h.st k hk
  exact ⟨dk, f _ _ hs (empty_ne hp hs (by show 18 ≠ 0; decide))⟩
def spPInit (A : Adr) : Sp := fun vs H Q _ => ∃ p dx L m i, vs = [.ref p, .ref L.a, .int (i.cars : Nat), .int (i.people : Nat), oV L.ad i.f] ∧ H p = some (.ins A.CP dx []) ∧ CrAt A.CX A.CS H L m ∧ (∀ j, i.f = some j → j < m.n) ∧
  ∀ H' lc, StpAt A H' ⟨L, p, lc⟩ i m [] → Fr1 p H H' → H lc = none → Q .non H'
theorem ok_P_init (T : Txt K mg A) : FnOk P w K mg base CX0 1 A.f_P_init A.d_P_init ["self", "crossing", "cars", "people", "first"] (spPInit A) := by
  refine T.F_P_init.ok sc_P_init (fun vs H Q E h => ?_) (fun cdv Ar outer s H vs Q E hr h => ?_)
  · obtain ⟨p, dx, L, m, i, rfl, _⟩ := h
    rfl
  · obtain ⟨p, dx, L, m, i, rfl, h0, hc, hf, q⟩ := h
    refine ⟨_, (pss_cons (ps_fld (pv 0) (pv 1) rfl)
      (pss_cons (ps_fld (pv 0) (pv 2) rfl)
      (pss_cons (ps_fld (pv 0) (pv 3) rfl)
      (pss_cons (ps_fld (pv 0) (pv 4) rfl)
      (pss_one (ps_fld (pv 0) (pe_lst pa_nil) rfl)))))), ?_⟩
    refine q_next (i := 0) (vs := []) pNd (ev_var (i := 1) rfl) (ev_var (i := 0) rfl) h0 T.cP T.nP_crossing rfl rfl (by decide) fun H1 h1 f1 => ?_
    refine q_next (i := 1) pNd (ev_var (i := 2) rfl) (ev_var (i := 0) rfl) h1 T.cP T.nP_cars rfl rfl (by decide) fun H2 h2 g2 => ?_
    have f2 := f1.trans g2
    refine q_next (i := 2) pNd (ev_var (i := 3) rfl) (ev_var (i := 0) rfl) h2 T.cP T.nP_people rfl rfl (by decide) fun H3 h3 g3 => ?_
    have f3 := f2.trans g3
    refine q_next (i := 3) pNd (ev_var (i := 4) rfl) (ev_var (i := 0) rfl) h3 T.cP T.nP_first rfl rfl (by decide) fun H4 h4 g4 => ?_
    have f4 := f3.trans g4
    refine ⟨(by show 0 ≤ sizeLine; decide), fun lc hlc => ?_⟩
    have p_lc : p ≠ lc := ne_of_none h4 hlc
    refine ⟨_, rfl, p, A.CP, dx, _, rfl, by rw [upd_ne p_lc]; exact h4, T.cP, T.nP_called, by show 4 < 1000; decide, ?_⟩
    have c4 := hc.fr1 h0 f4
    have f5 : Fr1 p H (upd (upd H4 lc (.lst [])) p (.ins A.CP dx (putF "called" (.ref lc) ((pN.take (3 + 1)).zip ([] ++ [V.ref L.a] ++ [V.int (i.cars : Nat)] ++ [V.int (i.people : Nat)] ++ [oV L.ad i.f]))))) := fun b o hb ne => by
      rw [upd_ne ne, upd_ne (ne_of_none (f4 b o hb ne) hlc)]
      exact f4 b o hb ne
    refine q _ lc ⟨hc.fr1 h0 f5, ⟨dx, ?_⟩, ?_, hf, fun k hk => by simp at hk, by simp, (ne_of_none c4.sts hlc).symm, (ne_of_none c4.lat hlc).symm⟩ f5 (ex_fr1 f4 (by rw [h0]; simp) hlc p_lc.symm)
    · rw [upd_same, put_next pNd (i := 4) rfl rfl]
      rfl
    · rw [upd_ne p_lc.symm]
      exact upd_same
theorem first_in {H : Hp} {S : SL} {i : Inp} {m : Cm} {c : List Nat} (h : StpAt A H S i m c) (j : Nat) (e : i.f = some j) : j ∈ calls m i := by
  unfold calls calledL
  refine List.mem_filter.mpr ⟨List.mem_range.mpr (h.fn j e), ?_⟩
  unfold callF isFirst
  rw [e]
  simp
/-- what was free is free -/
theorem ll_free {S : Addr → Prop} {H H' : Hp} {ll : Addr} (f : Fr S H H') (h : H' ll = none) (nf : ¬ S ll) : H ll = none := by
  cases e : H ll with
  | none => rfl
  | some o =>
    rw [f ll o e nf] at h
    cases h
theorem StpAt.not_free {H : Hp} {S : SL} {i : Inp} {m : Cm} {c : List Nat} {n : Nat} (h : StpAt A H S i m c) (hn : m.n = n) {b : Addr} (hb : FootP S n b) : H b ≠ none := by
  rcases hb with (z | z | ⟨k, hk, z⟩) | z
  · obtain ⟨dx, ho⟩ := h.cr.obj
    rw [z, ho]
    simp
  · rw [z, h.cr.lat]
    simp
  · obtain ⟨dk, hs⟩ := h.cr.st k (by rw [hn]; exact hk)
    rw [z, hs]
    simp
  · rw [z, h.lst]
    simp
theorem ends_P {m : Cm} {i : Inp} {c : List Nat} : (ends m i c).P = m.P := by
  unfold ends ends2
  split <;> rfl
def spRun (A : Adr) : Sp := fun vs H Q _ => ∃ S i m, vs = [.ref S.p] ∧ StpAt A H S i m [] ∧ ∀ H' ll, StpAt A H' { S with L := { S.L with ll := ll } } i (run m i) (calls m i) → Fr (FootP S m.n) H H' → (ll = S.L.ll ∨ H ll = none) → Q .non H'
theorem ok_P_run (T : Txt K mg A) : FnOk P w K mg base CX0 7 A.f_P_run A.d_P_run ["self"] (spRun A) := by
  refine T.F_P_run.ok sc_P_run (fun vs H Q E h => ?_) (fun cdv Ar outer s H vs Q E hr h => ?_)
  · obtain ⟨S, i, m, rfl, _⟩ := h
    rfl
  · obtain ⟨S, i, m, rfl, h, q⟩ := h
    refine ⟨_, (pss_cons (ps_expr (pe_meth0 (pv 0) T.cP T.M_P_hear_calls (ok_P_hear_calls T) (hr.mono (by decide)) T.B_P_hear_calls .nil pass0))
      (pss_cons (ps_expr (pe_meth0 (pv 0) T.cP T.M_P_run_clocks (ok_P_run_clocks T) (hr.mono (by decide)) T.B_P_run_clocks .nil pass0))
      (pss_cons (ps_expr (pe_meth0 (pv 0) T.cP T.M_P_end_colours (ok_P_end_colours T) (hr.mono (by decide)) T.B_P_end_colours .nil pass0))
      (pss_one (ps_expr (pe_meth0 (pv 0) T.cP T.M_P_begin_greens (ok_P_begin_greens T) (hr.mono (by decide)) T.B_P_begin_greens .nil pass0)))))), ?_⟩
    refine go_mP (ev_var (i := 0) rfl) h pm_hear_calls ea_nil fun H1 e1 => ⟨S, i, m, rfl, h.ex e1, fun H2 h2 f2 => ?_⟩
    refine go_mP (ev_var (i := 0) rfl) h2 pm_run_clocks ea_nil fun H3 e3 => ⟨S, i, _, _, rfl, h2.ex e3, fun H4 h4 f4 => ?_⟩
    refine go_mP (ev_var (i := 0) rfl) h4 pm_end_colours ea_nil fun H5 e5 => ⟨S, i, _, _, rfl, h4.ex e5, fun H6 h6 f6 => ?_⟩
    refine go_mP (ev_var (i := 0) rfl) h6 pm_begin_greens ea_nil fun H7 e7 => ⟨S, i, _, _, rfl, h6.ex e7, first_in h, fun H8 ll h8 f8 hl => ?_⟩
    have up : ∀ b, Foot S.L m.n b → FootP S m.n b := fun b hb => Or.inl hb
    have en : (ends (clocks (hears m i) i (calls m i)) i (calls m i)).n = m.n := congrArg List.length (ends_P.trans rfl)
    replace f8 : Fr (Foot S.L m.n) H7 H8 := by
      rw [← en]
      exact f8
    have f06 : Fr (FootP S m.n) H H6 := (Fr.of_ex e1).trans (f2.trans ((Fr.of_ex e3).trans ((Fr.mono f4 up).trans ((Fr.of_ex e5).trans (Fr.mono f6 up)))))
    have f08 : Fr (FootP S m.n) H H8 := f06.trans ((Fr.of_ex e7).trans (Fr.mono f8 up))
    refine q H8 ll h8 f08 ?_
    rcases hl with hl | hl
    · exact Or.inl hl
    · by_cases hl0 : ll = S.L.ll
      · exact Or.inl hl0
      · have hl6 := fresh_back e7 hl
        refine Or.inr (ll_free f06 hl6 fun nf => h6.not_free (n := m.n) en nf hl6)
theorem spHas_v {H : Hp} {l : Addr} {n : Int} {ns : List Int} (hS : SqL K H l (ns.map V.int)) (hn : 1 ≤ n → n ≤ 16 → ns.length = 10 * n.toNat) : SpV (spHas K) [.int n, .ref l] H (.bl (good n ns)) := fun H1 e Q q E => ⟨l, n, ns, rfl, ex_l e hS, hn, q⟩
/-! ### lists of numbers -/
theorem el_cat {σ : L2.St} {H : Hp} {ta tb : TE} {xs ys : List V} (ha : EvL ta σ H xs) (hb : EvL tb σ H ys) (hl : xs.length + ys.length ≤ 100000) : EvL (tOp rCat ta tb) σ H (xs ++ ys) :=
  fun H1 e Q q => ha H1 e _ fun p H2 hp e2 h2 => hb H2 (e.trans e2) _ fun p' H3 hp' e3 h3 => ⟨p, p', xs, ys, rfl, rfl, e3 _ _ h2, h3, Nat.le_trans hl (by decide), fun r hr =>
    q r _ (fresh_back (e2.trans e3) hr) ((e2.trans e3).trans (Ex.new hr)) upd_same⟩
def iL (l : List Int) : List V := l.map V.int
theorem go_make {sp : Sp} {C : Addr} {E : XK} {t : TA} {vs : List V} {Q : VK} {σ : L2.St} {H : Hp} (hA : EvA t σ H vs) (kk : ∀ H1, Ex H H1 → ∀ x dx, H1 x = none → H1 dx = none → dx ≠ x → sp (.ref x :: (vs ++ [])) (upd (upd H1 dx (.own x)) x (.ins C dx [])) (fun v H2 => v = .non ∧ Q (.ref x) H2) E) :
    tMake C sp [] E t σ H Q := hA H (Ex.refl H) _ kk
theorem q_makemeth {sp sp' : Sp} {C : Addr} {mn : Str} {E E' : XK} {t : TA} {vs : List V} {σ : L2.St} {H : Hp} {D : Ends} {tz : TS} (hA : EvA t σ H vs)
    (kk : ∀ H1, Ex H H1 → ∀ x dx, H1 x = none → H1 dx = none → dx ≠ x → sp (.ref x :: (vs ++ [])) (upd (upd H1 dx (.own x)) x (.ins C dx [])) (fun v H2 => v = .non ∧ ∃ a dx fs, V.ref x = .ref a ∧ H2 a = some (.ins C dx fs) ∧ fs.lookup mn = none ∧ sp' [.ref x] H2 (fun _ H3 => tz D σ H3) E') E) :
    tSeq (tDrop (tMeth C mn sp' [] E' (tMake C sp [] E t) tNil)) tz D σ H := hA H (Ex.refl H) _ kk
theorem q_asgmake {sp : Sp} {C : Addr} {E : XK} {t : TA} {vs : List V} {σ : L2.St} {H : Hp} {D : Ends} {tz : TS} {g : TG} (hA : EvA t σ H vs)
    (kk : ∀ H1, Ex H H1 → ∀ x dx, H1 x = none → H1 dx = none → dx ≠ x → sp (.ref x :: (vs ++ [])) (upd (upd H1 dx (.own x)) x (.ins C dx [])) (fun v H2 => v = .non ∧ g (.ref x) σ H2 fun σ' H' => tz D σ' H') E) :
    tSeq (tAsg (tMake C sp [] E t) g) tz D σ H := hA H (Ex.refl H) _ kk
theorem ex_make {H : Hp} {x dx C : Addr} (nx : H x = none) (ndx : H dx = none) : Ex H (upd (upd H dx (.own x)) x (.ins C dx [])) := fun b o hb => by
  rw [upd_ne (ne_of_none hb nx), upd_ne (ne_of_none hb ndx)]
  exact hb
def spCallsOf (A : Adr) : Sp := fun vs H Q _ => ∃ v, vs = [v] ∧ ((v = .non ∧ RetL (iL [-9]) H Q) ∨ ∃ L m, v = .ref L.a ∧ CrAt A.CX A.CS H L m ∧ RetL (iL (told0 (kept m))) H Q)
theorem iL_told {l : List Nat} : iL (told0 l) = [V.int 0] ++ l.map fun x => V.int (x : Nat) := by
  unfold iL told0
  rw [List.map_cons, List.map_map]
  rfl
theorem ok_G_calls_of (T : Txt K mg A) : FnOk P w K mg base CX0 3 A.f_G_calls_of A.d_G_calls_of ["crossing"] (spCallsOf A) := by
  refine T.F_G_calls_of.ok sc_G_calls_of (fun vs H Q E h => ?_) (fun cdv Ar outer s H vs Q E hr h => ?_)
  · obtain ⟨v, rfl, _⟩ := h
    rfl
  · obtain ⟨v, rfl, h⟩ := h
    refine ⟨_, (pss_cons (ps_if (pt_cmp (pc_isN (pv 0))) (pss_one (ps_ret (pe_lst (pa_cons (pe_glob (v := .int (-9)) rfl T.g_NOT_BEGUN ⟨_, rfl⟩) pa_nil)))) pss_nil)
      (pss_one (ps_ret (pe_op op_cat (pe_lst (pa_cons (pe_glob (v := .int (0)) rfl T.g_DONE ⟨_, rfl⟩) pa_nil)) (pe_meth0 (pv 0) T.cX T.M_X_remembered (ok_X_remembered T) (hr.mono (by decide)) T.B_X_remembered .nil pass0))))), ?_⟩
    rcases h with ⟨rfl, q⟩ | ⟨L, m, rfl, h, q⟩
    · refine q_when (b := true) (et_B (ev_isN (x := .non) (ev_var (i := 0) rfl))) (fun _ H1 e1 => ?_) fun hb => absurd hb (by decide)
      exact s_retL (xs := iL [-9]) (el_lst (ea_cons ev_c ea_nil) (by show 1 ≤ 100000; decide)) fun p H2 hp e2 h2 => q p H2 (fresh_back e1 hp) (e1.trans e2) h2
    · refine q_when (b := false) (et_B (ev_isN (x := .ref L.a) (ev_var (i := 0) rfl))) (fun hb => absurd hb (by decide)) fun _ H1 e1 => ?_
      have h1 := h.ex e1
      rw [iL_told] at q
      exact s_retL (el_cat (el_lst (ea_cons ev_c ea_nil) (by show 1 ≤ 100000; decide)) (el_mX (ev_var (i := 0) rfl) h1 xm_remembered ea_nil (spLst_v h1)) (by show 1 + 2 ≤ 100000; decide)) fun p H2 hp e2 h2 => q p H2 (fresh_back e1 hp) (e1.trans e2) h2
def spStep (A : Adr) : Sp := fun vs H Q _ => ∃ v, ∃ cars people : Nat, ∃ f : Int, vs = [v, .int (cars : Nat), .int (people : Nat), .int f] ∧ ((v = .non ∧ RetL (iL [-9]) H Q) ∨ ∃ L m, v = .ref L.a ∧ CrAt A.CX A.CS H L m ∧ ((f < -1 ∨ (m.n : Int) ≤ f) → RetL (iL [-2]) H Q) ∧
  (¬ (f < -1 ∨ (m.n : Int) ≤ f) → ∀ H' ll p, CrAt A.CX A.CS H' { L with ll := ll } (run m ⟨cars, people, fo f⟩) → Fr (Foot L m.n) H H' → (ll = L.ll ∨ H ll = none) → H' p = some (.lst (iL (told0 (lights (run m ⟨cars, people, fo f⟩))))) → (∀ b, H b ≠ none → ¬ Foot L m.n b → b ≠ p) → Q (.ref p) H'))
theorem ok_G_step (T : Txt K mg A) : FnOk P w K mg base CX0 8 A.f_G_step A.d_G_step ["crossing", "cars", "people", "first"] (spStep A) := by
  refine T.F_G_step.ok sc_G_step (fun vs H Q E h => ?_) (fun cdv Ar outer s H vs Q E hr h => ?_)
  · obtain ⟨v, cars, people, f, rfl, _⟩ := h
    rfl
  · obtain ⟨v, cars, people, f, rfl, h⟩ := h
    refine ⟨_, (pss_cons (ps_if (pt_cmp (pc_isN (pv 0))) (pss_one (ps_ret (pe_lst (pa_cons (pe_glob (v := .int (-9)) rfl T.g_NOT_BEGUN ⟨_, rfl⟩) pa_nil)))) pss_nil)
      (pss_cons (ps_if (PW.pt (pw_or (pt_cmp (pc_lt (pv 3) (pe_glob (v := .int (-1)) rfl T.g_NO_FIRST ⟨_, rfl⟩))) (pw_or1 (pt_cmp (pc_ge (pv 3) (pe_callB call_len_seq (by rfl) T.g_len PySem.boot_len (pa_cons (pe_fld (pv 0) rfl) pa_nil))))))) (pss_one (ps_ret (pe_lst (pa_cons (pe_glob (v := .int (-2)) rfl T.g_NOT_ALLOWED ⟨_, rfl⟩) pa_nil)))) pss_nil)
      (pss_cons (ps_set (i := 4) sc_G_step.nd rfl (Or.inl rfl) pe_non)
      (pss_cut (ps_if (pt_cmp (pc_neI (pv 3) (pe_glob (v := .int (-1)) rfl T.g_NO_FIRST ⟨_, rfl⟩))) (pss_one (ps_set (i := 4) sc_G_step.nd rfl (Or.inl rfl) (pe_ix ix_list (pe_fld (pv 0) rfl) (pv 3) (fun _ _ => rfl)))) pss_nil)
      (pss_cons (ps_expr (pe_meth0 (pe_make T.K_P (ok_P_init T) (hr.mono (by decide)) rfl T.g_CP T.B_P_init .nil pass0 (pa_cons (pv 0) (pa_cons (pv 1) (pa_cons (pv 2) (pa_cons (pv 4) pa_nil))))) T.cP T.M_P_run (ok_P_run T) (hr.mono (by decide)) T.B_P_run .nil pass0))
      (pss_one (ps_ret (pe_op op_cat (pe_lst (pa_cons (pe_glob (v := .int (0)) rfl T.g_DONE ⟨_, rfl⟩) pa_nil)) (pe_meth0 (pv 0) T.cX T.M_X_lights (ok_X_lights T) (hr.mono (by decide)) T.B_X_lights .nil pass0))))))))), ?_⟩
    rcases h with ⟨rfl, q⟩ | ⟨L, m, rfl, h, q1, q2⟩
    · refine q_when (b := true) (et_B (ev_isN (x := .non) (ev_var (i := 0) rfl))) (fun _ H1 e1 => ?_) fun hb => absurd hb (by decide)
      exact s_retL (xs := iL [-9]) (el_lst (ea_cons ev_c ea_nil) (by show 1 ≤ 100000; decide)) fun p H2 hp e2 h2 => q p H2 (fresh_back e1 hp) (e1.trans e2) h2
    · refine q_when (b := false) (et_B (ev_isN (x := .ref L.a) (ev_var (i := 0) rfl))) (fun hb => absurd hb (by decide)) fun _ H1 e1 => ?_
      have h1 := h.ex e1
      refine q_when (b := decide (f < -1) || decide ((m.n : Int) ≤ f)) (et_or (et_B (ev_cmp (ev_var (i := 3) rfl) ev_c)) fun _ => et_B (ev_cmp (ev_var (i := 3) rfl) (ev_is (ev_len (ev_x_streams (X := L.a) T (ev_var (i := 0) rfl) h1) (sq_of h1.sts)) (by rw [refs_len, List.length_range])))) (fun hb H2 e2 => ?_) fun hb H2 e2 => ?_
      · have q := q1 (by simpa using hb)
        exact s_retL (xs := iL [-2]) (el_lst (ea_cons ev_c ea_nil) (by show 1 ≤ 100000; decide)) fun p H3 hp e3 h3 => q p H3 (fresh_back (e1.trans e2) hp) (e1.trans (e2.trans e3)) h3
      · have hb' : ¬ (f < -1 ∨ (m.n : Int) ≤ f) := by simpa using hb
        have q := q2 hb'
        have h2 := h1.ex e2
        refine q_asg (ev_c (v := .non)) fun H3 e3 => ?_
        have h3 := h2.ex e3
        refine q_cut (M := fun σ' H' => σ' = [some (.ref L.a), some (.int (cars : Nat)), some (.int (people : Nat)), some (.int f), some (oV L.ad (fo f))] ∧ Ex H H') ?_ ?_
        · refine s_when (b := !decide (f = -1)) (et_B (ev_cmp (ev_var (i := 3) rfl) ev_c)) (fun hb2 H4 e4 => ?_) fun hb2 H4 e4 => ?_
          · have hf : ¬ f = -1 := by simpa using hb2
            have h4 := h3.ex e4
            have hfn : f.toNat < m.n := by omega
            have ef : f = ((f.toNat : Nat) : Int) := by omega
            refine s_asg (v := .ref (L.ad f.toNat)) (ev_op (ev_x_streams (X := L.a) T (ev_var (i := 0) rfl) h4) (ev_var (i := 3) rfl) (rv_ixL (sq_of h4.sts) (at_of ef (refs_at hfn)))) fun H5 e5 => ⟨?_, (e1.trans (e2.trans (e3.trans (e4.trans e5))))⟩
            have z : fo f = some f.toNat := if_neg hf
            rw [z]
            rfl
          · have hf : f = -1 := by simpa using hb2
            refine ⟨?_, e1.trans (e2.trans (e3.trans e4))⟩
            have z : fo f = none := if_pos hf
            rw [z]
            rfl
        · rintro σ' H5 ⟨rfl, e5⟩
          have h5 := h.ex e5
          have hfn : ∀ j, fo f = some j → j < m.n := fun j hj => by
            unfold fo at hj
            by_cases hf : f = -1
            · rw [if_pos hf] at hj
              cases hj
            · rw [if_neg hf] at hj
              have := Option.some.inj hj
              omega
          -- Step(..).run()
          refine q_makemeth (ea_cons (ev_var (i := 0) rfl) (ea_cons (ev_var (i := 1) rfl) (ea_cons (ev_var (i := 2) rfl) (ea_cons (ev_var (i := 4) rfl) ea_nil)))) fun H6 e6 x dx nx ndx nex => ?_
          have e7 := ex_make (C := A.CP) nx ndx
          have h7 := (h5.ex e6).ex e7
          refine ⟨x, dx, L, m, ⟨cars, people, fo f⟩, rfl, upd_same, h7, hfn, fun H8 lc h8 f8 hlc => ⟨rfl, ?_⟩⟩
          obtain ⟨dx8, ho8⟩ := h8.obj
          have nx0 : H x = none := fresh_back (e5.trans e6) nx
          have nlc0 : H lc = none := fresh_back ((e5.trans e6).trans e7) hlc
          have k8 : Ex H H8 := fun b o hb => f8 b o (e7 _ _ (e6 _ _ (e5 _ _ hb))) (ne_of_none hb nx0)
          refine ⟨x, dx8, _, rfl, ho8, pm_run, ⟨L, x, lc⟩, ⟨cars, people, fo f⟩, m, rfl, h8, fun H9 ll h9 f9 hl => ?_⟩
          have c9 : CrAt A.CX A.CS H9 { L with ll := ll } (run m ⟨cars, people, fo f⟩) := h9.cr
          have f09 : Fr (Foot L m.n) H H9 := fun b o hb nf => f9 b o (k8 b o hb) fun z => by
            rcases z with z | z
            · exact nf z
            · rw [show b = lc from z, nlc0] at hb
              cases hb
          have hl' : ll = L.ll ∨ H ll = none := hl.imp id fun z => fresh_back k8 z
          refine s_retL (xs := iL (told0 (lights (run m ⟨cars, people, fo f⟩)))) ?_ fun p H10 hp e10 h10 => q H10 ll p (c9.ex e10) (f09.trans (Fr.of_ex e10)) hl' h10 fun b hb nf z => by
            cases eb : H b with
            | none => exact hb eb
            | some o =>
              have y := f09 b o eb nf
              rw [z, hp] at y
              cases y
          · rw [iL_told]
            exact el_cat (el_lst (ea_cons ev_c ea_nil) (by show 1 ≤ 100000; decide)) (el_mX (L := { L with ll := ll }) (ev_var (i := 0) rfl) c9 xm_lights ea_nil (spLst_v c9)) (by show 1 + 4 ≤ 100000; decide)
def spBegin (A : Adr) : Sp := fun vs H Q _ => ∃ (lk l : Addr) (v0 v1 : V) (e : Nat) (n : Int) (ns : List Int), vs = [.ref lk, .int (e : Nat), .int n, .ref l] ∧ H lk = some (.lst [v0, v1]) ∧ e < 2 ∧ H l = some (.lst (iL ns)) ∧ (1 ≤ n → n ≤ 16 → ns.length = 10 * n.toNat) ∧
  (good n ns = false → RetL (iL [-2]) H Q) ∧
  (good n ns = true → ∀ H' L p, CrAt A.CX A.CS H' L (Cm.new (strmsOf n.toNat ns)) → (∀ b, Own L n.toNat b → H b = none) → H' lk = some (.lst (([v0, v1] : List V).set e (.ref L.a))) → Fr (fun b => b = lk) H H' → H' p = some (.lst (iL [0])) → (∀ b, H b ≠ none → b ≠ p) → Q (.ref p) H')
theorem ok_G_begin (T : Txt K mg A) : FnOk P w K mg base CX0 6 A.f_G_begin A.d_G_begin ["crossings", "which", "n", "streams"] (spBegin A) := by
  refine T.F_G_begin.ok sc_G_begin (fun vs H Q E h => ?_) (fun cdv Ar outer s H vs Q E hr h => ?_)
  · obtain ⟨lk, l, v0, v1, e, n, ns, rfl, _⟩ := h
    rfl
  · obtain ⟨lk, l, v0, v1, e, n, ns, rfl, hk, he, hl, hn, q1, q2⟩ := h
    refine ⟨_, (pss_cons (ps_if (pt_not (pt_val (pe_call (ok_G_has_allowed_streams T) (hr.mono (by decide)) rfl T.g_G_has_allowed_streams T.F_G_has_allowed_streams.kp T.B_G_has_allowed_streams .nil pass0 (pa_cons (pv 2) (pa_cons (pv 3) pa_nil))))) (pss_one (ps_ret (pe_lst (pa_cons (pe_glob (v := .int (-2)) rfl T.g_NOT_ALLOWED ⟨_, rfl⟩) pa_nil)))) pss_nil)
      (pss_cons (ps_asg (pe_make T.K_X (ok_X_init T) (hr.mono (by decide)) rfl T.g_CX T.B_X_init .nil pass0 (pa_cons (pv 2) (pa_cons (pv 3) pa_nil))) (pg_sub (pv 0) (pv 1) set_list))
      (pss_one (ps_ret (pe_lst (pa_cons (pe_glob (v := .int (0)) rfl T.g_DONE ⟨_, rfl⟩) pa_nil)))))), ?_⟩
    refine q_when (b := !good n ns) (et_not (et_B (ev_call (ea_cons (ev_var (i := 2) rfl) (ea_cons (ev_var (i := 3) rfl) ea_nil)) (spHas_v (sq_of hl) hn)))) (fun hb H1 e1 => ?_) fun hb H1 e1 => ?_
    · have q := q1 (by simpa using hb)
      exact s_retL (xs := iL [-2]) (el_lst (ea_cons ev_c ea_nil) (by show 1 ≤ 100000; decide)) fun p H3 hp e3 h3 => q p H3 (fresh_back e1 hp) (e1.trans e3) h3
    · have hg : good n ns = true := by simpa using hb
      have q := q2 hg
      have hgn : ¬ (n < 1 ∨ 16 < n) := fun z => by
        have y : good n ns = false := if_pos z
        rw [y] at hg
        cases hg
      have en : n = ((n.toNat : Nat) : Int) := by omega
      have hal : ∀ k, k < n.toNat → allowed (ten ns k) = true := fun k hk => by
        have y : good n ns = (List.range n.toNat).all fun k => allowed (ten ns k) := if_neg hgn
        rw [y, List.all_eq_true] at hg
        exact hg k (List.mem_range.mpr hk)
      refine q_asgmake (ea_cons (ev_var (i := 2) rfl) (ea_cons (ev_var (i := 3) rfl) ea_nil)) fun H2 e2 x dx nx ndx nex => ?_
      have e3 := ex_make (C := A.CX) nx ndx
      have e03 := (e1.trans e2).trans e3
      have nx0 : H x = none := fresh_back (e1.trans e2) nx
      refine ⟨x, dx, n.toNat, l, ns, by rw [← en]; rfl, upd_same, sq_of (e03 _ _ hl), by omega, by omega, hn (by omega) (by omega), hal, fun H4 L hLa c4 hfree f4 => ⟨rfl, ?_⟩⟩
      have k4 : Ex H H4 := fun b o hb => f4 b o (e03 _ _ hb) (ne_of_none hb nx0)
      have own0 : ∀ b, Own L n.toNat b → H b = none := fun b hb => by
        by_cases hbx : b = x
        · rw [hbx]
          exact nx0
        · exact fresh_back e03 (hfree b hb hbx)
      have hk4 := k4 _ _ hk
      have nlk : ∀ b, Own L n.toNat b → b ≠ lk := fun b hb z => by
        have y := own0 b hb
        rw [z, hk] at y
        cases y
      -- crossings[which] = ..
      refine ⟨_, rfl, _, rfl, lk, _, _, e, rfl, rfl, hk4, ixN_nat he, ?_⟩
      have kk : ∀ b o, H4 b = some o → b ≠ lk → (upd H4 lk (.lst (([v0, v1] : List V).set e (.ref x)))) b = some o := fun b o hb ne => by
        rw [upd_ne ne]
        exact hb
      have ncm : (Cm.new (strmsOf n.toNat ns)).n = n.toNat := by
        show (strmsOf n.toNat ns).length = n.toNat
        unfold strmsOf
        rw [List.length_map, List.length_range]
      have c5 : CrAt A.CX A.CS (upd H4 lk (.lst (([v0, v1] : List V).set e (.ref x)))) L (Cm.new (strmsOf n.toNat ns)) := by
        obtain ⟨dxx, ho⟩ := c4.obj
        refine ⟨⟨dxx, kk _ _ ho (nlk _ (Or.inl rfl))⟩, kk _ _ c4.sts (nlk _ (Or.inr (Or.inl rfl))), kk _ _ c4.lat (nlk _ (Or.inr (Or.inr (Or.inl rfl)))), fun k hk => ?_, c4.inj, c4.nel, c4.hw⟩
        obtain ⟨dk, hs⟩ := c4.st k hk
        exact ⟨dk, kk _ _ hs (nlk _ (Or.inr (Or.inr (Or.inr ⟨k, by rw [← ncm]; exact hk, rfl⟩))))⟩
      refine s_retL (xs := iL [0]) (el_lst (ea_cons ev_c ea_nil) (by show 1 ≤ 100000; decide)) fun p H6 hp e6 h6 => q H6 L p (c5.ex e6) own0 ?_ ?_ h6 ?_
      · rw [hLa]
        exact e6 _ _ upd_same
      · exact fun b o hb nf => e6 _ _ (kk b o (k4 b o hb) nf)
      · intro b hb z
        cases eb : H b with
        | none => exact hb eb
        | some o =>
          by_cases hbk : b = lk
          · rw [← z, hbk, upd_same] at hp
            cases hp
          · have y := kk b o (k4 b o eb) hbk
            rw [z, hp] at y
            cases y
end
end Xg

namespace Xg
open PySem PySem.Spec PyProof.Rows L2 Evl
open PySem.W (Codec)
section
variable {P : Program} {w : World} {K : PySem.W.Frag} {mg : Str → Option Value} {base : Heap} {A : Adr}
/-! ### the line's state -/
def Ms.cr (s : Ms) (j : Nat) : Option Cm := if j = 0 then s.c0 else s.c1
def Ms.puts (s : Ms) (e : Nat) (o : Option Cm) : Ms := if e = 0 then ⟨o, s.c1⟩ else ⟨s.c0, o⟩
theorem puts_cr {s : Ms} {e j : Nat} {o : Option Cm} (he : e < 2) (hj : j < 2) : (s.puts e o).cr j = if j = e then o else s.cr j := by
  match e, he, j, hj with
  | 0, _, 0, _ => rfl
  | 0, _, 1, _ => rfl
  | 1, _, 0, _ => rfl
  | 1, _, 1, _ => rfl
def cv (s : Ms) (L : Nat → Lay) (j : Nat) : V := match s.cr j with
  | none => .non
  | some _ => .ref (L j).a
structure Ln (A : Adr) (H0 H' : Hp) (lk g : Addr) (s : Ms) (L : Nat → Lay) (out : List Int) : Prop where
  ex : Ex H0 H'
  lk0 : H0 lk = none
  g0 : H0 g = none
  ne : lk ≠ g
  lkv : H' lk = some (.lst [cv s L 0, cv s L 1])
  gv : H' g = some (.lst (iL out))
  cr : ∀ j, j < 2 → ∀ m, s.cr j = some m → CrAt A.CX A.CS H' (L j) m ∧ ∀ b, Own (L j) m.n b → H0 b = none ∧ b ≠ lk ∧ b ≠ g
  dj : ∀ j k, j < 2 → k < 2 → j ≠ k → ∀ m m', s.cr j = some m → s.cr k = some m' → ∀ b, Own (L j) m.n b → ¬ Own (L k) m'.n b
section
variable {H0 H H' : Hp} {lk g : Addr} {s : Ms} {L : Nat → Lay} {out : List Int}
theorem foot_own {L : Lay} {n : Nat} {b : Addr} (h : Foot L n b) : Own L n b := by
  rcases h with z | z | z
  · exact Or.inl z
  · exact Or.inr (Or.inr (Or.inl z))
  · exact Or.inr (Or.inr (Or.inr z))
theorem CrAt.tracked {CX CS : Addr} {L : Lay} {m : Cm} (h : CrAt CX CS H L m) {b : Addr} (hb : Own L m.n b) : H b ≠ none := by
  rcases hb with z | z | z | ⟨k, hk, z⟩
  · obtain ⟨dx, ho⟩ := h.obj
    rw [z, ho]
    simp
  · rw [z, h.sts]
    simp
  · rw [z, h.lat]
    simp
  · obtain ⟨dk, hs⟩ := h.st k hk
    rw [z, hs]
    simp
/-- a crossing that nothing touches -/
theorem CrAt.apart {CX CS : Addr} {L : Lay} {m : Cm} {S : Addr → Prop} (h : CrAt CX CS H L m) (f : Fr S H H') (d : ∀ b, Own L m.n b → ¬ S b) : CrAt CX CS H' L m := by
  obtain ⟨dx, ho⟩ := h.obj
  refine ⟨⟨dx, f _ _ ho (d _ (Or.inl rfl))⟩, f _ _ h.sts (d _ (Or.inr (Or.inl rfl))), f _ _ h.lat (d _ (Or.inr (Or.inr (Or.inl rfl)))), fun k hk => ?_, h.inj, h.nel, h.hw⟩
  obtain ⟨dk, hs⟩ := h.st k hk
  exact ⟨dk, f _ _ hs (d _ (Or.inr (Or.inr (Or.inr ⟨k, hk, rfl⟩))))⟩
theorem Ln.exx (h : Ln A H0 H lk g s L out) (e : Ex H H') : Ln A H0 H' lk g s L out :=
  ⟨h.ex.trans e, h.lk0, h.g0, h.ne, e _ _ h.lkv, e _ _ h.gv, fun j hj m hm => ⟨(h.cr j hj m hm).1.ex e, (h.cr j hj m hm).2⟩, h.dj⟩
theorem Ln.outp {out' : List Int} (h : Ln A H0 H lk g s L out) : Ln A H0 (upd H g (.lst (iL out'))) lk g s L out' := by
  have kk : ∀ b o, H b = some o → b ≠ g → (upd H g (.lst (iL out'))) b = some o := fun b o hb ne => by
    rw [upd_ne ne]
    exact hb
  refine ⟨fun b o hb => kk b o (h.ex b o hb) (ne_of_none hb h.g0), h.lk0, h.g0, h.ne, kk _ _ h.lkv h.ne, upd_same, fun j hj m hm => ?_, h.dj⟩
  obtain ⟨c, hb⟩ := h.cr j hj m hm
  exact ⟨c.apart (S := fun b => b = g) (fun b o hb nf => kk b o hb nf) fun b hb' => (hb b hb').2.2, hb⟩
theorem Ln.stp {e : Nat} {m m' : Cm} {ll : Addr} (h : Ln A H0 H lk g s L out) (he : e < 2) (hm : s.cr e = some m) (hc : CrAt A.CX A.CS H' { L e with ll := ll } m') (hn : m'.n = m.n) (hf : Fr (Foot (L e) m.n) H H') (hl : ll = (L e).ll ∨ H ll = none) :
    Ln A H0 H' lk g (s.puts e (some m')) (setF L e { L e with ll := ll }) out := by
  obtain ⟨c, hb⟩ := h.cr e he m hm
  have own' : ∀ b, Own { L e with ll := ll } m'.n b → Own (L e) m.n b ∨ (b = ll ∧ H ll = none) := fun b hb' => by
    rw [hn] at hb'
    rcases hb' with z | z | z | z
    · exact Or.inl (Or.inl z)
    · exact Or.inl (Or.inr (Or.inl z))
    · rcases hl with hl | hl
      · exact Or.inl (Or.inr (Or.inr (Or.inl (Eq.trans z hl))))
      · exact Or.inr ⟨z, hl⟩
    · exact Or.inl (Or.inr (Or.inr (Or.inr z)))
  have nlk : ¬ Foot (L e) m.n lk := fun z => (hb lk (foot_own z)).2.1 rfl
  have ng : ¬ Foot (L e) m.n g := fun z => (hb g (foot_own z)).2.2 rfl
  have ecv : ∀ j, j < 2 → cv (s.puts e (some m')) (setF L e { L e with ll := ll }) j = cv s L j := fun j hj => by
    unfold cv
    rw [puts_cr he hj]
    by_cases hje : j = e
    · rw [if_pos hje, hje, hm, setF_same]
    · rw [if_neg hje, setF_ne hje]
  refine ⟨fun b o hb0 => hf b o (h.ex b o hb0) fun z => ?_, h.lk0, h.g0, h.ne, ?_, hf _ _ h.gv ng, fun j hj m2 hm2 => ?_, fun j k hj hk hjk m1 m2 hm1 hm2 b hb1 hb2 => ?_⟩
  · have y := (hb b (foot_own z)).1
    rw [y] at hb0
    cases hb0
  · rw [ecv 0 (by decide), ecv 1 (by decide)]
    exact hf _ _ h.lkv nlk
  · rw [puts_cr he hj] at hm2
    by_cases hje : j = e
    · rw [if_pos hje] at hm2
      have em := Option.some.inj hm2
      subst em
      subst hje
      rw [setF_same]
      refine ⟨hc, fun b hb' => ?_⟩
      rcases own' b hb' with z | ⟨z, hl0⟩
      · exact hb b z
      · rw [z]
        refine ⟨fresh_back h.ex hl0, fun y => ?_, fun y => ?_⟩
        · rw [y, h.lkv] at hl0
          cases hl0
        · rw [y, h.gv] at hl0
          cases hl0
    · rw [if_neg hje] at hm2
      rw [setF_ne hje]
      obtain ⟨c2, hb2⟩ := h.cr j hj m2 hm2
      exact ⟨c2.apart hf fun b hb' z => h.dj j e hj he hje m2 m hm2 hm b hb' (foot_own z), hb2⟩
  · rw [puts_cr he hj] at hm1
    rw [puts_cr he hk] at hm2
    by_cases hje : j = e
    · have hke : k ≠ e := fun z => hjk (hje.trans z.symm)
      rw [if_pos hje] at hm1
      have em := Option.some.inj hm1
      subst em
      rw [if_neg hke] at hm2
      rw [setF_ne hke] at hb2
      rw [hje, setF_same] at hb1
      rcases own' b hb1 with z | ⟨z, hl0⟩
      · exact h.dj e k he hk hke.symm m m2 hm hm2 b z hb2
      · rw [← z] at hl0
        exact (h.cr k hk m2 hm2).1.tracked hb2 hl0
    · rw [if_neg hje] at hm1
      rw [setF_ne hje] at hb1
      by_cases hke : k = e
      · rw [if_pos hke] at hm2
        have em := Option.some.inj hm2
        subst em
        rw [hke, setF_same] at hb2
        rcases own' b hb2 with z | ⟨z, hl0⟩
        · exact h.dj j e hj he hje m1 m hm1 hm b hb1 z
        · rw [← z] at hl0
          exact (h.cr j hj m1 hm1).1.tracked hb1 hl0
      · rw [if_neg hke] at hm2
        rw [setF_ne hke] at hb2
        exact h.dj j k hj hk hjk m1 m2 hm1 hm2 b hb1 hb2
theorem Ln.bgn {e : Nat} {m' : Cm} {L' : Lay} (h : Ln A H0 H lk g s L out) (he : e < 2) (hc : CrAt A.CX A.CS H' L' m') (ho : ∀ b, Own L' m'.n b → H b = none) (hlk : H' lk = some (.lst ([cv s L 0, cv s L 1].set e (.ref L'.a)))) (hf : Fr (fun b => b = lk) H H') :
    Ln A H0 H' lk g (s.puts e (some m')) (setF L e L') out := by
  have ne : ∀ b, Own L' m'.n b → b ≠ lk ∧ b ≠ g := fun b hb => by
    have y := ho b hb
    refine ⟨fun z => ?_, fun z => ?_⟩
    · rw [z, h.lkv] at y
      cases y
    · rw [z, h.gv] at y
      cases y
  refine ⟨fun b o hb0 => hf b o (h.ex b o hb0) (ne_of_none hb0 h.lk0), h.lk0, h.g0, h.ne, ?_, hf _ _ h.gv h.ne.symm, fun j hj m2 hm2 => ?_, fun j k hj hk hjk m1 m2 hm1 hm2 b hb1 hb2 => ?_⟩
  · have ecv : ∀ j, j < 2 → cv (s.puts e (some m')) (setF L e L') j = if j = e then .ref L'.a else cv s L j := fun j hj => by
      unfold cv
      rw [puts_cr he hj]
      by_cases hje : j = e
      · rw [if_pos hje, if_pos hje, hje, setF_same]
      · rw [if_neg hje, if_neg hje, setF_ne hje]
    rw [hlk, ecv 0 (by decide), ecv 1 (by decide)]
    match e, he with
    | 0, _ => rfl
    | 1, _ => rfl
  · rw [puts_cr he hj] at hm2
    by_cases hje : j = e
    · rw [if_pos hje] at hm2
      have em := Option.some.inj hm2
      subst em
      subst hje
      rw [setF_same]
      exact ⟨hc, fun b hb => ⟨fresh_back h.ex (ho b hb), ne b hb⟩⟩
    · rw [if_neg hje] at hm2
      rw [setF_ne hje]
      obtain ⟨c2, hb2⟩ := h.cr j hj m2 hm2
      exact ⟨c2.apart hf fun b hb' z => (hb2 b hb').2.1 z, hb2⟩
  · rw [puts_cr he hj] at hm1
    rw [puts_cr he hk] at hm2
    by_cases hje : j = e
    · have hke : k ≠ e := fun z => hjk (hje.trans z.symm)
      rw [if_pos hje] at hm1
      have em := Option.some.inj hm1
      subst em
      rw [if_neg hke] at hm2
      rw [setF_ne hke] at hb2
      rw [hje, setF_same] at hb1
      exact (h.cr k hk m2 hm2).1.tracked hb2 (ho b hb1)
    · rw [if_neg hje] at hm1
      rw [setF_ne hje] at hb1
      by_cases hke : k = e
      · rw [if_pos hke] at hm2
        have em := Option.some.inj hm2
        subst em
        rw [hke, setF_same] at hb2
        exact (h.cr j hj m1 hm1).1.tracked hb1 (ho b hb2)
      · rw [if_neg hke] at hm2
        rw [setF_ne hke] at hb2
        exact h.dj j k hj hk hjk m1 m2 hm1 hm2 b hb1 hb2
end
/-! ### calls in the line -/
theorem at_mid {D F R : List Int} {j : Nat} {x : Int} (h : F[j]? = some x) : (iL (D ++ (F ++ R)))[D.length + j]? = some (.int x) := by
  have hj := (List.getElem?_eq_some_iff.mp h).1
  unfold iL
  rw [List.getElem?_map, List.getElem?_append_right (by omega), Nat.add_sub_cancel_left, List.getElem?_append_left hj, h]
  rfl
theorem cut_mid {D F R r : List Int} (h : F.drop 4 = r) (hl : F.length = 4 + r.length) : cutV (iL (D ++ (F ++ R))) (some ((D.length : Int) + 4)) (some ((D.length : Int) + 4 + (r.length : Int))) = iL r := by
  have e1 : ((D.length : Int) + 4) = ((D.length + 4 : Nat) : Int) := by omega
  have e2 : ((D.length : Int) + 4 + (r.length : Int)) = ((D.length + 4 + r.length : Nat) : Int) := by omega
  have el : (iL (D ++ (F ++ R))).length = D.length + (F.length + R.length) := by
    unfold iL
    rw [List.length_map, List.length_append, List.length_append]
  unfold cutV
  rw [e2, e1, HT.sIx_nat, HT.sIx_nat, el, Nat.min_eq_left (by omega), Nat.min_eq_left (by omega)]
  unfold iL
  rw [← List.map_drop, ← List.map_take, List.drop_append, List.drop_eq_nil_of_le (by omega), List.nil_append, show D.length + 4 - D.length = 4 by omega, List.drop_append, h, show 4 - F.length = 0 by omega, List.drop_zero, show D.length + 4 + r.length - (D.length + 4) = r.length by omega, List.take_left]
/-- the state behind some calls -/
def after (s : Ms) (l : List (List (List Int))) : Ms := l.foldl (fun s c => (mcall s c).1) s
def outOf (s : Ms) (l : List (List (List Int))) : List Int := PyFlat.told (PyFlat.played mcall s l)
theorem played_app {s : Ms} {c : List (List Int)} : ∀ (l : List (List (List Int))) (s : Ms), PyFlat.played mcall s (l ++ [c]) = PyFlat.played mcall s l ++ [(mcall (after s l) c).2]
  | [], s => rfl
  | d :: l, s => congrArg (fun q => (mcall s d).2 :: q) (played_app (s := s) l (mcall s d).1)
theorem after_app {s : Ms} {l : List (List (List Int))} {c : List (List Int)} : after s (l ++ [c]) = (mcall (after s l) c).1 := by
  unfold after
  rw [List.foldl_append]
  rfl
theorem outOf_app {s : Ms} {l : List (List (List Int))} {c : List (List Int)} : outOf s (l ++ [c]) = outOf s l ++ ((mcall (after s l) c).2.length : Int) :: (mcall (after s l) c).2 := by
  unfold outOf PyFlat.told
  rw [played_app (s := s), List.flatMap_append]
  simp
section
variable {σ : L2.St} {H : Hp} {ta tb tc td : TE} {D : Ends} {x1 x2 x3 : V} {xs vs : List V} {sp : Sp} {E : XK} {i : Nat} {t : TA} {tz : TS}
theorem s_asgcall (hA : EvA t σ H vs) (kk : ∀ H1, Ex H H1 → sp (vs ++ []) H1 (fun y H2 => D.nx (σ.set i (some y)) H2) E) : tAsg (tCall sp [] E t) (gName i) D σ H := hA H (Ex.refl H) _ kk
theorem s_asgcall4 (h1 : Ev ta σ H x1) (h2 : Ev tb σ H x2) (h3 : Ev tc σ H x3) (h4 : EvL td σ H xs) (kk : ∀ p H1, Ex H H1 → H1 p = some (.lst xs) → sp [x1, x2, x3, .ref p] H1 (fun y H2 => D.nx (σ.set i (some y)) H2) E) :
    tAsg (tCall sp [] E (tCons ta (tCons tb (tCons tc (tCons td tNil))))) (gName i) D σ H :=
  h1 H (Ex.refl H) _ fun H1 e1 => h2 H1 e1 _ fun H2 e2 => h3 H2 (e1.trans e2) _ fun H3 e3 => h4 H3 ((e1.trans e2).trans e3) _ fun p H4 hp e4 h4 => kk p H4 (((e1.trans e2).trans e3).trans e4) h4
theorem q_ext {l p : Addr} {ys : List V} (hl : H l = some (.lst xs)) (hp : H p = some (.lst ys)) (ha : Ev ta σ H (.ref l)) (hb : Ev tb σ H (.ref p)) (hz : xs.length + ys.length ≤ 100000) (kk : ∀ H1, Ex H H1 → tz D σ (upd H1 l (.lst (xs ++ ys)))) :
    tSeq (tDrop (tBM K "list" rExtend ta (tCons tb tNil))) tz D σ H :=
  ha H (Ex.refl H) _ fun H1 e1 => ⟨.inl ⟨rfl, _, SqL.of (e1 _ _ hl)⟩, hb H1 e1 _ fun H2 e2 => ⟨l, p, xs, ys, rfl, rfl, (e1.trans e2) _ _ hl, (e1.trans e2) _ _ hp, Nat.le_trans hz (by decide), kk H2 (e1.trans e2)⟩⟩
end
theorem put_puts {s : Ms} {e : Nat} (he : e < 2) {o : Option Cm} : s.put (e : Int) o = s.puts e o := by
  match e, he with
  | 0, _ => rfl
  | 1, _ => rfl
theorem get_cr {s : Ms} {e : Nat} (he : e < 2) : s.get (e : Int) = s.cr e := by
  match e, he with
  | 0, _ => rfl
  | 1, _ => rfl
theorem beginNext_P {m : Cm} {i : Inp} {c : List Nat} : (beginNext m i c).P = m.P := nexts_P (m := beginG m (nextGroup m i c)) 4
theorem begins2_P {m : Cm} {i : Inp} {c : List Nat} : (begins2 m i c).P = m.P := by
  unfold begins2
  split
  · exact beginNext_P
  · rfl
theorem begins_P {m : Cm} {i : Inp} {c : List Nat} : (begins m i c).P = m.P := begins2_P.trans (rings_P 4)
theorem run_P {m : Cm} {i : Inp} : (run m i).P = m.P := by
  unfold run run2
  rw [begins_P, ends_P]
  rfl
theorem cv_get {s : Ms} {L : Nat → Lay} {e : Nat} (he : e < 2) : ([cv s L 0, cv s L 1] : List V)[e]? = some (cv s L e) := by
  match e, he with
  | 0, _ => rfl
  | 1, _ => rfl
theorem iL_len {l : List Int} : (iL l).length = l.length := List.length_map ..
theorem told0_len {l : List Nat} : (told0 l).length = l.length + 1 := by
  unfold told0
  rw [List.length_cons, List.length_map]
theorem lights_len {m : Cm} : (lights m).length = 4 := rfl
theorem kept_len {m : Cm} : (kept m).length = 2 := rfl
theorem mbegin_len {s : Ms} {e n : Int} {r : List Int} : (mbegin s e n r).2.length ≤ 5 := by
  unfold mbegin
  split <;> (show (1 : Nat) ≤ 5; decide)
theorem mstep_len {s : Ms} {e x y f : Int} : (mstep s e x y f).2.length ≤ 5 := by
  unfold mstep
  split
  · show 1 ≤ 5
    decide
  · split
    · show 1 ≤ 5
      decide
    · dsimp only
      rw [told0_len, lights_len]
      exact Nat.le_refl 5
theorem mcalls_len {s : Ms} {e : Int} : (mcalls s e).2.length ≤ 5 := by
  unfold mcalls
  split
  · show 1 ≤ 5
    decide
  · dsimp only
    rw [told0_len, kept_len]
    decide
theorem mcall_len {s : Ms} {c : List (List Int)} : (mcall s c).2.length ≤ 5 := by
  unfold mcall
  split
  · exact mbegin_len
  · exact mstep_len
  · exact mcalls_len
  · exact Nat.zero_le 5
theorem outOf_len (s : Ms) : ∀ (l : List (List (List Int))) (s : Ms), (outOf s l).length ≤ 6 * l.length
  | [], s => Nat.le_refl 0
  | c :: l, s => by
    have ih := outOf_len s l (mcall s c).1
    have h5 := mcall_len (s := s) (c := c)
    have e : outOf s (c :: l) = (((mcall s c).2.length : Int) :: (mcall s c).2) ++ outOf (mcall s c).1 l := rfl
    rw [e, List.length_append, List.length_cons, List.length_cons]
    omega
theorem no_cr (j : Nat) (m : Cm) : (Ms.mk none none).cr j ≠ some m := by
  unfold Ms.cr
  split <;> simp
/-- answers: what is handed in, by calls; what comes out, by the mirror -/
def spAns (K : PySem.W.Frag) : Sp := fun vs H Q _ => ∃ (a : Addr) (ns : List Int) (raws : List (List (List Int))), vs = [.ref a] ∧ SqL K H a (iL ns) ∧ ns = raws.flatMap flat ∧ (∀ c, c ∈ raws → Form c) ∧ raws.length ≤ 400 ∧
  ∀ H' p, H' p = some (.lst (iL (outOf ⟨none, none⟩ raws))) → Q (.ref p) H'
theorem flat_pos {c : List (List Int)} (h : Form c) : 0 < (flat c).length := by
  cases h <;> simp [flat]
theorem iL_app {a b : List Int} : iL a ++ iL b = iL (a ++ b) := by
  unfold iL
  rw [List.map_append]
theorem end_of {K : PySem.W.Frag} {mg : Str → Option Value} {A : Adr} (T : Txt K mg A) {H H6 : Hp} {lk g a p : Addr} {s1 : Ms} {L1 : Nat → Lay} {out ans : List Int} {n at1 at0 : Nat} {w4 : Option V} {E2 : Ends}
    (l6 : Ln A H H6 lk g s1 L1 out) (hp6 : H6 p = some (.lst (iL ans))) (hpg : p ≠ g) (hol : out.length ≤ 6 * n) (h5 : ans.length ≤ 5) (hn : n ≤ 400)
    (fin : ∀ L' H', Ln A H H' lk g s1 L' (out ++ (ans.length : Int) :: ans) → E2.nx [some (.ref a), some (.ref lk), some (.ref g), some (.int ((at1 : Nat) : Int)), w4, some (.int ((at1 : Nat) : Int)), some (.ref p)] H') :
    tSeq (tDrop (tBM K "list" rAppend (tVar 2) (tCons (tCB (rLenS K) (tCons (tVar 6) tNil)) tNil))) (tSeq (tDrop (tBM K "list" rExtend (tVar 2) (tCons (tVar 6) tNil))) (tAsg (tVar 5) (gName 3))) E2 [some (.ref a), some (.ref lk), some (.ref g), some (.int (at0 : Nat)), w4, some (.int ((at1 : Nat) : Int)), some (.ref p)] H6 := by
  refine q_app l6.gv (ev_var (i := 2) rfl) (ev_is (ev_len (ev_var (i := 6) rfl) (sq_of hp6)) (w := .int (ans.length : Int)) (by rw [iL_len])) (by rw [iL_len]; omega) fun H7 e7 => ?_
  have ea : iL out ++ [V.int (ans.length : Int)] = iL (out ++ [(ans.length : Int)]) := iL_app (b := [(ans.length : Int)])
  rw [ea]
  have l7 := (l6.exx e7).outp (out' := out ++ [(ans.length : Int)])
  have hp7 : (upd H7 g (.lst (iL (out ++ [(ans.length : Int)])))) p = some (.lst (iL ans)) := by
    rw [upd_ne hpg]
    exact e7 _ _ hp6
  refine q_ext l7.gv hp7 (ev_var (i := 2) rfl) (ev_var (i := 6) rfl) (by rw [iL_len, iL_len, List.length_append]; simp only [List.length_cons, List.length_nil]; omega) fun H8 e8 => ?_
  rw [iL_app]
  have l8 := (l7.exx e8).outp (out' := out ++ [(ans.length : Int)] ++ ans)
  refine s_asg (ev_var (i := 5) rfl) fun H9 e9 => ?_
  have l9 := l8.exx e9
  rw [List.append_assoc] at l9
  exact fin L1 H9 l9
theorem ok_G_answers (T : Txt K mg A) : FnOk P w K mg base CX0 9 A.f_G_answers A.d_G_answers ["calls"] (spAns K) := by
  refine T.F_G_answers.ok sc_G_answers (fun vs H Q E h => ?_) (fun cdv Ar outer s H vs Q E hr h => ?_)
  · obtain ⟨a, ns, raws, rfl, _⟩ := h
    rfl
  · obtain ⟨a, ns, raws, rfl, hS, hns, hform, hlen, q⟩ := h
    refine ⟨_, (pss_cons (ps_set (i := 1) sc_G_answers.nd rfl (Or.inl rfl) (pe_op op_rep (pe_lst (pa_cons pe_non pa_nil)) (pe_glob (v := .int (2)) rfl T.g_CROSSINGS ⟨_, rfl⟩)))
      (pss_cons (ps_set (i := 2) sc_G_answers.nd rfl (Or.inl rfl) (pe_lst pa_nil))
      (pss_cons (ps_set (i := 3) sc_G_answers.nd rfl (Or.inl rfl) pe_int)
      (pss_cons (ps_while PassesOwn.never (pt_cmp (pc_lt (pv 3) (pe_callB call_len_seq (by rfl) T.g_len PySem.boot_len (pa_cons (pv 0) pa_nil)))) (pss_cons (ps_set (i := 4) sc_G_answers.nd rfl (Or.inl rfl) (pe_ix ix_list (pv 0) (pe_op op_add (pv 3) pe_int) (fun _ _ => rfl)))
      (pss_cut (ps_if (pt_cmp (pc_eqI (pe_ix ix_list (pv 0) (pv 3) (fun _ _ => rfl)) (pe_glob (v := .int (0)) rfl T.g_BEGIN ⟨_, rfl⟩))) (pss_cons (ps_set (i := 5) sc_G_answers.nd rfl (Or.inl rfl) (pe_op op_add (pe_op op_add (pv 3) pe_int) (pe_ix ix_list (pv 0) (pe_op op_add (pv 3) pe_int) (fun _ _ => rfl))))
      (pss_one (ps_set (i := 6) sc_G_answers.nd rfl (Or.inl rfl) (pe_call (ok_G_begin T) (hr.mono (by decide)) rfl T.g_G_begin T.F_G_begin.kp T.B_G_begin .nil pass0 (pa_cons (pv 1) (pa_cons (pv 4) (pa_cons (pe_ix ix_list (pv 0) (pe_op op_add (pv 3) pe_int) (fun _ _ => rfl)) (pa_cons (pe_slice sl_list (pv 0) (po_some (pe_op op_add (pv 3) pe_int)) (po_some (pv 5))) pa_nil)))))))) (pss_one (ps_if (pt_cmp (pc_eqI (pe_ix ix_list (pv 0) (pv 3) (fun _ _ => rfl)) (pe_glob (v := .int (1)) rfl T.g_STEP ⟨_, rfl⟩))) (pss_cons (ps_set (i := 5) sc_G_answers.nd rfl (Or.inl rfl) (pe_op op_add (pv 3) pe_int))
      (pss_one (ps_set (i := 6) sc_G_answers.nd rfl (Or.inl rfl) (pe_call (ok_G_step T) (hr.mono (by decide)) rfl T.g_G_step T.F_G_step.kp T.B_G_step .nil pass0 (pa_cons (pe_ix ix_list (pv 1) (pv 4) (fun _ _ => rfl)) (pa_cons (pe_ix ix_list (pv 0) (pe_op op_add (pv 3) pe_int) (fun _ _ => rfl)) (pa_cons (pe_ix ix_list (pv 0) (pe_op op_add (pv 3) pe_int) (fun _ _ => rfl)) (pa_cons (pe_ix ix_list (pv 0) (pe_op op_add (pv 3) pe_int) (fun _ _ => rfl)) pa_nil)))))))) (pss_cons (ps_set (i := 5) sc_G_answers.nd rfl (Or.inl rfl) (pe_op op_add (pv 3) pe_int))
      (pss_one (ps_set (i := 6) sc_G_answers.nd rfl (Or.inl rfl) (pe_call (ok_G_calls_of T) (hr.mono (by decide)) rfl T.g_G_calls_of T.F_G_calls_of.kp T.B_G_calls_of .nil pass0 (pa_cons (pe_ix ix_list (pv 1) (pv 4) (fun _ _ => rfl)) pa_nil))))))))
      (pss_cons (ps_expr (pe_bm PySem.F.plainAttrs_list PySem.F.slot_list_append PySem.F.type_list_append mt_append (pv 2) (pa_cons (pe_callB call_len_seq (by rfl) T.g_len PySem.boot_len (pa_cons (pv 6) pa_nil)) pa_nil)))
      (pss_cons (ps_expr (pe_bm PySem.F.plainAttrs_list PySem.F.slot_list_extend PySem.F.type_list_extend mt_extend (pv 2) (pa_cons (pv 6) pa_nil)))
      (pss_one (ps_set (i := 3) sc_G_answers.nd rfl (Or.inl rfl) (pv 5))))))))
      (pss_one (ps_ret (pv 2))))))), ?_⟩
    -- crossings = [None] * 2; given = []; at = 0
    refine ⟨(by show 1 ≤ sizeLine; decide), fun p1 hp1 => ?_⟩
    refine ⟨p1, _, _, rfl, rfl, upd_same, by decide, by decide, by decide, fun lk hlk => ?_⟩
    have np1 : H lk = none := by
      have : lk ≠ p1 := fun z => by
        rw [z, upd_same] at hlk
        cases hlk
      rwa [upd_ne this] at hlk
    have e1 : Ex H (upd (upd H p1 (.lst [.non])) lk (.lst [.non, .non])) := fun b o hb => by
      rw [upd_ne (ne_of_none hb np1), upd_ne (ne_of_none hb hp1)]
      exact hb
    have hlk1 : (upd (upd H p1 (.lst [.non])) lk (.lst [.non, .non])) lk = some (.lst [.non, .non]) := upd_same
    refine q_asgL (xs := []) (el_lst ea_nil (by show 0 ≤ 100000; decide)) fun g H2 hg e2 hg2 => ?_
    have e12 := e1.trans e2
    have hg0 : H g = none := fresh_back e1 hg
    have lk_g : lk ≠ g := ne_of_none hlk1 hg
    have l2 : Ln A H H2 lk g ⟨none, none⟩ (fun _ => ⟨0, 0, 0, fun _ => 0⟩) (outOf ⟨none, none⟩ []) := ⟨e12, np1, hg0, lk_g, e2 _ _ hlk1, hg2, (fun j hj m hm => absurd hm (no_cr j m)), fun j k hj hk hjk m m' hm => absurd hm (no_cr j m)⟩
    refine q_asg (v := .int ((0 : Nat) : Int)) ev_c fun H3 e3 => ?_
    have l3 := l2.exx e3
    refine q_while (fun m σ' H' => ∃ done todo : List (List (List Int)), raws = done ++ todo ∧ m = todo.length ∧ ∃ w1 w2 w3 L, σ' = [some (.ref a), some (.ref lk), some (.ref g), some (.int ((done.flatMap flat).length : Nat)), w1, w2, w3] ∧ Ln A H H' lk g (after ⟨none, none⟩ done) L (outOf ⟨none, none⟩ done)) raws.length
      ⟨[], raws, rfl, rfl, _, _, _, _, rfl, l3⟩ ?_
    rintro m σ' H' ⟨done, todo, hr, rfl, w1, w2, w3, L, rfl, ln⟩
    have hS' : SqL K H' a (iL ns) := ex_l ln.ex hS
    refine ⟨decide ((((done.flatMap flat).length : Nat) : Int) < (ns.length : Int)), et_B (ev_cmp (ev_var (i := 3) rfl) (ev_is (ev_len (ev_var (i := 0) rfl) hS') (by rw [iL_len]))), fun hb H4 e4 => ?_, fun hb H4 e4 => ?_⟩
    · have hlt : (done.flatMap flat).length < ns.length := by
        have := of_decide_eq_true hb
        omega
      cases todo with
      | nil =>
        rw [hns, hr, List.append_nil] at hlt
        exact absurd hlt (Nat.lt_irrefl _)
      | cons c rest =>
      have hc : Form c := hform c (by rw [hr]; simp)
      have ens : ns = done.flatMap flat ++ (flat c ++ rest.flatMap flat) := by
        rw [hns, hr, List.flatMap_append, List.flatMap_cons]
      have hdl : done.length ≤ 400 := by
        rw [hr, List.length_append] at hlen
        omega
      refine ⟨fun σ' H' => ∃ w1 w2 w3 L, σ' = [some (.ref a), some (.ref lk), some (.ref g), some (.int (((done ++ [c]).flatMap flat).length : Nat)), w1, w2, w3] ∧ Ln A H H' lk g (after ⟨none, none⟩ (done ++ [c])) L (outOf ⟨none, none⟩ (done ++ [c])), fun σ2 H5 ⟨w1, w2, w3, L, e, l⟩ => ⟨rest.length, Nat.lt_succ_self _, done ++ [c], rest, by rw [hr, List.append_assoc]; rfl, rfl, w1, w2, w3, L, e, l⟩, ?_⟩
      have ln4 := ln.exx e4
      have hlenD : (((done ++ [c]).flatMap flat).length : Nat) = (done.flatMap flat).length + (flat c).length := by
        rw [List.flatMap_append, List.length_append, List.flatMap_cons, List.flatMap_nil, List.append_nil]
      have hol := outOf_len ⟨none, none⟩ done ⟨none, none⟩
      have h5 := mcall_len (s := after ⟨none, none⟩ done) (c := c)
      -- an item of the call
      have itm : ∀ {H' : Hp} {j : Nat} {x : Int} {z : Int}, Ex H H' → z = (((done.flatMap flat).length + j : Nat) : Int) → (flat c)[j]? = some x → SqL K H' a (iL ns) ∧ atI (iL ns) z = some (.int x) := fun e hz hx => ⟨ex_l e hS, at_of hz (by rw [ens]; exact at_mid hx)⟩
      rw [outOf_app, after_app, hlenD]
      generalize hat : (done.flatMap flat).length = at0 at ln4 itm hlenD ⊢
      generalize after ⟨none, none⟩ done = s0 at ln4 h5 ⊢
      generalize outOf ⟨none, none⟩ done = out at ln4 hol ⊢
      cases hc with
      | @begin_ e n r he hrl =>
        obtain ⟨e', rfl, he'⟩ : ∃ e' : Nat, e = (e' : Int) ∧ e' < 2 := by
          rcases he with rfl | rfl
          · exact ⟨0, rfl, by decide⟩
          · exact ⟨1, rfl, by decide⟩
        have fl : flat [[0, (e' : Int), n], r] = (0 :: (e' : Int) :: n :: (r.length : Int) :: r) := rfl
        have i1 := itm (z := (at0 : Int) + 1) (j := 1) (x := (e' : Int)) ln4.ex (by omega) rfl
        refine q_asg (ev_op (ev_var (i := 0) rfl) (ev_op (ev_var (i := 3) rfl) (ev_c (v := .int 1)) rv_I0) (rv_ixL i1.1 i1.2)) fun H5 e5 => ?_
        have ln5 := ln4.exx e5
        refine q_cut (M := fun σ' H' => ∃ L1 p w4, σ' = [some (.ref a), some (.ref lk), some (.ref g), some (.int (at0 : Nat)), w4, some (.int ((at0 + (flat [[0, (e' : Int), n], r]).length : Nat) : Int)), some (.ref p)] ∧ Ln A H H' lk g (mcall s0 [[0, (e' : Int), n], r]).1 L1 out ∧ H' p = some (.lst (iL (mcall s0 [[0, (e' : Int), n], r]).2)) ∧ p ≠ g) ?_ ?_
        · have i0 := itm (z := (at0 : Int)) (j := 0) (x := 0) ln5.ex (by omega) rfl
          refine s_if (b := true) (et_B (ev_is (ev_cmp (ev_op (ev_var (i := 0) rfl) (ev_var (i := 3) rfl) (rv_ixL i0.1 i0.2)) ev_c) rfl)) (fun _ H6 e6 => ?_) fun hb => absurd hb (by decide)
          have ln6 := ln5.exx e6
          have i3 := itm (z := (at0 : Int) + 3) (j := 3) (x := (r.length : Int)) ln6.ex (by omega) rfl
          refine q_asg (v := .int ((at0 : Int) + 4 + (r.length : Int))) (ev_op (ev_op (ev_var (i := 3) rfl) (ev_c (v := .int 4)) rv_I0) (ev_op (ev_var (i := 0) rfl) (ev_op (ev_var (i := 3) rfl) (ev_c (v := .int 3)) rv_I0) (rv_ixL i3.1 i3.2)) rv_I0) fun H7 e7 => ?_
          have ln7 := ln6.exx e7
          have i2 := itm (z := (at0 : Int) + 2) (j := 2) (x := n) ln7.ex (by omega) rfl
          have hS7 : SqL K H7 a (iL ns) := ex_l ln7.ex hS
          refine s_asgcall4 (xs := iL r) (ev_var (i := 1) rfl) (ev_var (i := 4) rfl) (ev_op (ev_var (i := 0) rfl) (ev_op (ev_var (i := 3) rfl) (ev_c (v := .int 2)) rv_I0) (rv_ixL i2.1 i2.2)) ?_ fun p H8 e8 hp8 => ?_
          · have cm := cut_mid (D := done.flatMap flat) (F := flat [[0, (e' : Int), n], r]) (R := rest.flatMap flat) (r := r) rfl (by rw [fl]; simp only [List.length_cons]; omega)
            rw [hat, ← ens] at cm
            rw [← cm]
            exact el_sl (ev_var (i := 0) rfl) (eo_some (ev_op (ev_var (i := 3) rfl) (ev_c (v := .int 4)) rv_I0)) (eo_some (ev_var (i := 5) rfl)) hS7
          · have ln8 := ln7.exx e8
            have hbe : ((at0 : Int) + 4 + (r.length : Int)) = ((at0 + (flat [[0, (e' : Int), n], r]).length : Nat) : Int) := by
              rw [fl]
              simp only [List.length_cons]
              omega
            refine ⟨lk, p, _, _, e', n, r, rfl, ln8.lkv, he', hp8, fun h1 h2 => by rw [hrl, if_pos ⟨h1, h2⟩], fun hg p2 H9 hp2 e9 h9 => ?_, fun hg H9 L' p2 c9 ho9 hlk9 f9 h9 hne => ?_⟩
            · have em : mcall s0 [[0, (e' : Int), n], r] = (s0, [-2]) := by
                show mbegin s0 e' n r = _
                unfold mbegin
                rw [if_neg (by rw [hg]; decide)]
              rw [em, ← hbe]
              exact ⟨L, p2, _, rfl, ln8.exx e9, h9, fun z => by
                rw [z, ln8.gv] at hp2
                cases hp2⟩
            · have em : mcall s0 [[0, (e' : Int), n], r] = (s0.puts e' (some (Cm.new (strmsOf n.toNat r))), [0]) := by
                show mbegin s0 e' n r = _
                unfold mbegin
                rw [if_pos hg, put_puts he']
              rw [em, ← hbe]
              have ncm : (Cm.new (strmsOf n.toNat r)).n = n.toNat := by
                show (strmsOf n.toNat r).length = n.toNat
                unfold strmsOf
                rw [List.length_map, List.length_range]
              refine ⟨_, p2, _, rfl, ln8.bgn he' c9 (fun b hb => ho9 b (by rw [← ncm]; exact hb)) hlk9 f9, h9, (hne g ?_).symm⟩
              rw [ln8.gv]
              simp
        · rintro σ' H6 ⟨L1, p, w4, rfl, l6, hp6, hpg⟩
          exact end_of T l6 hp6 hpg hol h5 hdl fun L' H' l' => ⟨_, _, _, L', rfl, l'⟩
      | @step e cars people f he hc1 hc2 =>
        obtain ⟨e', rfl, he'⟩ : ∃ e' : Nat, e = (e' : Int) ∧ e' < 2 := by
          rcases he with rfl | rfl
          · exact ⟨0, rfl, by decide⟩
          · exact ⟨1, rfl, by decide⟩
        have i1 := itm (z := (at0 : Int) + 1) (j := 1) (x := (e' : Int)) ln4.ex (by omega) rfl
        refine q_asg (ev_op (ev_var (i := 0) rfl) (ev_op (ev_var (i := 3) rfl) (ev_c (v := .int 1)) rv_I0) (rv_ixL i1.1 i1.2)) fun H5 e5 => ?_
        have ln5 := ln4.exx e5
        refine q_cut (M := fun σ' H' => ∃ L1 p w4, σ' = [some (.ref a), some (.ref lk), some (.ref g), some (.int (at0 : Nat)), w4, some (.int ((at0 + (flat [[1, (e' : Int), cars, people, f]]).length : Nat) : Int)), some (.ref p)] ∧ Ln A H H' lk g (mcall s0 [[1, (e' : Int), cars, people, f]]).1 L1 out ∧ H' p = some (.lst (iL (mcall s0 [[1, (e' : Int), cars, people, f]]).2)) ∧ p ≠ g) ?_ ?_
        · have i0 := itm (z := (at0 : Int)) (j := 0) (x := 1) ln5.ex (by omega) rfl
          refine s_if (b := false) (et_B (ev_is (ev_cmp (ev_op (ev_var (i := 0) rfl) (ev_var (i := 3) rfl) (rv_ixL i0.1 i0.2)) ev_c) rfl)) (fun hb => absurd hb (by decide)) fun _ H6 e6 => ?_
          have ln6 := ln5.exx e6
          have i0' := itm (z := (at0 : Int)) (j := 0) (x := 1) ln6.ex (by omega) rfl
          refine s_if (b := true) (et_B (ev_is (ev_cmp (ev_op (ev_var (i := 0) rfl) (ev_var (i := 3) rfl) (rv_ixL i0'.1 i0'.2)) ev_c) rfl)) (fun _ H7 e7 => ?_) fun hb => absurd hb (by decide)
          have ln7 := ln6.exx e7
          refine q_asg (v := .int ((at0 : Int) + 5)) (ev_op (ev_var (i := 3) rfl) (ev_c (v := .int 5)) rv_I0) fun H8 e8 => ?_
          have ln8 := ln7.exx e8
          have i2 := itm (z := (at0 : Int) + 2) (j := 2) (x := cars) ln8.ex (by omega) rfl
          have i3 := itm (z := (at0 : Int) + 3) (j := 3) (x := people) ln8.ex (by omega) rfl
          have i4 := itm (z := (at0 : Int) + 4) (j := 4) (x := f) ln8.ex (by omega) rfl
          refine s_asgcall (ea_cons (x := cv s0 L e') (ev_op (ev_var (i := 1) rfl) (ev_var (i := 4) rfl) (rv_ixL (sq_of ln8.lkv) (atI_nat (cv_get he')))) (ea_cons (x := .int cars) (ev_op (ev_var (i := 0) rfl) (ev_op (ev_var (i := 3) rfl) (ev_c (v := .int 2)) rv_I0) (rv_ixL i2.1 i2.2)) (ea_cons (x := .int people) (ev_op (ev_var (i := 0) rfl) (ev_op (ev_var (i := 3) rfl) (ev_c (v := .int 3)) rv_I0) (rv_ixL i3.1 i3.2)) (ea_cons (x := .int f) (ev_op (ev_var (i := 0) rfl) (ev_op (ev_var (i := 3) rfl) (ev_c (v := .int 4)) rv_I0) (rv_ixL i4.1 i4.2)) ea_nil)))) fun H9 e9 => ?_
          have ln9 := ln8.exx e9
          have ec1 : cars = ((cars.toNat : Nat) : Int) := by omega
          have ec2 : people = ((people.toNat : Nat) : Int) := by omega
          refine ⟨cv s0 L e', cars.toNat, people.toNat, f, by rw [← ec1, ← ec2]; rfl, ?_⟩
          have hbe : ((at0 : Int) + 5) = ((at0 + (flat [[1, (e' : Int), cars, people, f]]).length : Nat) : Int) := rfl
          have em0 : mcall s0 [[1, (e' : Int), cars, people, f]] = mstep s0 e' cars people f := rfl
          unfold mstep at em0
          rw [get_cr he'] at em0
          cases hm : s0.cr e' with
          | none =>
            rw [hm] at em0
            refine Or.inl ⟨by unfold cv; rw [hm], fun p2 H10 hp2 e10 h10 => ?_⟩
            rw [em0]
            exact ⟨L, p2, _, rfl, ln9.exx e10, h10, fun z => by
              rw [z, ln9.gv] at hp2
              cases hp2⟩
          | some m =>
            rw [hm] at em0
            obtain ⟨c9, ho9⟩ := ln9.cr e' he' m hm
            refine Or.inr ⟨L e', m, by unfold cv; rw [hm], c9, fun hr2 p2 H10 hp2 e10 h10 => ?_, fun hr2 H10 ll p2 c10 f10 hl h10 hne => ?_⟩
            · have em : mcall s0 [[1, (e' : Int), cars, people, f]] = (s0, [-2]) := em0.trans (if_pos hr2)
              rw [em]
              exact ⟨L, p2, _, rfl, ln9.exx e10, h10, fun z => by
                rw [z, ln9.gv] at hp2
                cases hp2⟩
            · have em : mcall s0 [[1, (e' : Int), cars, people, f]] = (s0.puts e' (some (run m ⟨cars.toNat, people.toNat, fo f⟩)), told0 (lights (run m ⟨cars.toNat, people.toNat, fo f⟩))) := (em0.trans (if_neg hr2)).trans (by rw [put_puts he'])
              rw [em]
              refine ⟨_, p2, _, rfl, ln9.stp he' hm c10 (congrArg List.length run_P) f10 hl, h10, (hne g ?_ fun z => ?_).symm⟩
              · rw [ln9.gv]
                simp
              · exact (ho9 g (foot_own z)).2.2 rfl
        · rintro σ' H6 ⟨L1, p, w4, rfl, l6, hp6, hpg⟩
          exact end_of T l6 hp6 hpg hol h5 hdl fun L' H' l' => ⟨_, _, _, L', rfl, l'⟩
      | @calls e he =>
        obtain ⟨e', rfl, he'⟩ : ∃ e' : Nat, e = (e' : Int) ∧ e' < 2 := by
          rcases he with rfl | rfl
          · exact ⟨0, rfl, by decide⟩
          · exact ⟨1, rfl, by decide⟩
        have i1 := itm (z := (at0 : Int) + 1) (j := 1) (x := (e' : Int)) ln4.ex (by omega) rfl
        refine q_asg (ev_op (ev_var (i := 0) rfl) (ev_op (ev_var (i := 3) rfl) (ev_c (v := .int 1)) rv_I0) (rv_ixL i1.1 i1.2)) fun H5 e5 => ?_
        have ln5 := ln4.exx e5
        refine q_cut (M := fun σ' H' => ∃ L1 p w4, σ' = [some (.ref a), some (.ref lk), some (.ref g), some (.int (at0 : Nat)), w4, some (.int ((at0 + (flat [[2, (e' : Int)]]).length : Nat) : Int)), some (.ref p)] ∧ Ln A H H' lk g (mcall s0 [[2, (e' : Int)]]).1 L1 out ∧ H' p = some (.lst (iL (mcall s0 [[2, (e' : Int)]]).2)) ∧ p ≠ g) ?_ ?_
        · have i0 := itm (z := (at0 : Int)) (j := 0) (x := 2) ln5.ex (by omega) rfl
          refine s_if (b := false) (et_B (ev_is (ev_cmp (ev_op (ev_var (i := 0) rfl) (ev_var (i := 3) rfl) (rv_ixL i0.1 i0.2)) ev_c) rfl)) (fun hb => absurd hb (by decide)) fun _ H6 e6 => ?_
          have ln6 := ln5.exx e6
          have i0' := itm (z := (at0 : Int)) (j := 0) (x := 2) ln6.ex (by omega) rfl
          refine s_if (b := false) (et_B (ev_is (ev_cmp (ev_op (ev_var (i := 0) rfl) (ev_var (i := 3) rfl) (rv_ixL i0'.1 i0'.2)) ev_c) rfl)) (fun hb => absurd hb (by decide)) fun _ H7 e7 => ?_
          have ln7 := ln6.exx e7
          refine q_asg (v := .int ((at0 : Int) + 2)) (ev_op (ev_var (i := 3) rfl) (ev_c (v := .int 2)) rv_I0) fun H8 e8 => ?_
          have ln8 := ln7.exx e8
          refine s_asgcall (ea_cons (x := cv s0 L e') (ev_op (ev_var (i := 1) rfl) (ev_var (i := 4) rfl) (rv_ixL (sq_of ln8.lkv) (atI_nat (cv_get he')))) ea_nil) fun H9 e9 => ?_
          have ln9 := ln8.exx e9
          refine ⟨cv s0 L e', rfl, ?_⟩
          have em0 : mcall s0 [[2, (e' : Int)]] = mcalls s0 e' := rfl
          unfold mcalls at em0
          rw [get_cr he'] at em0
          cases hm : s0.cr e' with
          | none =>
            rw [hm] at em0
            refine Or.inl ⟨by unfold cv; rw [hm], fun p2 H10 hp2 e10 h10 => ?_⟩
            rw [em0]
            exact ⟨L, p2, _, rfl, ln9.exx e10, h10, fun z => by
              rw [z, ln9.gv] at hp2
              cases hp2⟩
          | some m =>
            rw [hm] at em0
            obtain ⟨c9, ho9⟩ := ln9.cr e' he' m hm
            refine Or.inr ⟨L e', m, by unfold cv; rw [hm], c9, fun p2 H10 hp2 e10 h10 => ?_⟩
            rw [em0]
            exact ⟨L, p2, _, rfl, ln9.exx e10, h10, fun z => by
              rw [z, ln9.gv] at hp2
              cases hp2⟩
        · rintro σ' H6 ⟨L1, p, w4, rfl, l6, hp6, hpg⟩
          exact end_of T l6 hp6 hpg hol h5 hdl fun L' H' l' => ⟨_, _, _, L', rfl, l'⟩
    · have hge : ¬ (done.flatMap flat).length < ns.length := fun z => by
        have := of_decide_eq_false hb
        omega
      cases todo with
      | cons c rest =>
        have hc : Form c := hform c (by rw [hr]; simp)
        have hp := flat_pos hc
        rw [hns, hr, List.flatMap_append, List.flatMap_cons, List.length_append, List.length_append] at hge
        omega
      | nil =>
        rw [List.append_nil] at hr
        subst hr
        exact s_ret (ev_var (i := 2) rfl) fun H5 e5 => q H5 g (e5 _ _ (e4 _ _ ln.gv))
end
end Xg

namespace Xg
open PySem PySem.Spec PyProof.Rows L2 Evl
open PySem.W (Codec)
/-! ### what the top has written -/
def MethIs (K : PySem.W.Frag) (C : Addr) (m qual : Str) (st : Stmt) : Prop := ∃ (f : Addr) (fd : FuncData), Meth K C m f ∧ Fun K m qual st f fd
def FnIs (K : PySem.W.Frag) (x : Str) (st : Stmt) : Prop := ∃ (f : Addr) (fd : FuncData), PySem.W.nsIn K mainGlobals x = some (some (.ref f)) ∧ Fun K x x st f fd
def IntIs (K : PySem.W.Frag) (x : Str) (z : Int) : Prop := ∃ t : Tok, PySem.W.nsIn K mainGlobals x = some (some (.int z t))
def TupIs (K : PySem.W.Frag) (x : Str) (xs : List V) : Prop := ∃ a : Addr, PySem.W.nsIn K mainGlobals x = some (some (.ref a)) ∧ ∀ H : Hp, SqT K H a xs
section
variable {K : PySem.W.Frag} {C f : Addr} {m qual x : Str} {st : Stmt} {oc kV dc pm cd ct : Value} {od an : Option Addr} {sl : Array (Option Value)}
theorem mth_mk (a : PySem.W.findIn K (.ref C) m = some (some (.ref f))) (i : PySem.W.isFn K (.ref f) = true) (l : K.lookup f = some ⟨oc, od, .func (PySem.W.fnOf m qual (defArgs st) (defBody st) (defScope st) .none kV dc pm an cd ct), sl⟩) (c : PySem.W.codeIn K cd qual = true) (k : PySem.W.keepIn K (.ref f) = true) :
    MethIs K C m qual st := ⟨f, _, ⟨a, i, k⟩, fun_mk l c k⟩
theorem fn_mk (a : PySem.W.nsIn K mainGlobals x = some (some (.ref f))) (l : K.lookup f = some ⟨oc, od, .func (PySem.W.fnOf x x (defArgs st) (defBody st) (defScope st) .none kV dc pm an cd ct), sl⟩) (c : PySem.W.codeIn K cd x = true) (k : PySem.W.keepIn K (.ref f) = true) :
    FnIs K x st := ⟨f, _, a, fun_mk l c k⟩
theorem int_mk {z : Int} {t : Tok} (a : PySem.W.nsIn K mainGlobals x = some (some (.int z t))) : IntIs K x z := ⟨t, a⟩
theorem tup_mk {xs : List V} {n : Nat} {its : Array Value} (a : PySem.W.nsIn K mainGlobals x = some (some (.ref f))) (l : K.lookup f = some ⟨.type "tuple", od, .seq its n, sl⟩) (hs : its.size ≤ sizeLine) (hv : Vals xs its.toList) : TupIs K x xs :=
  ⟨f, a, fun _ => .inr ⟨_, its, n, l, rfl, rfl, hs, hv⟩⟩
theorem binds_plain {fd : FuncData} (F : Fun K "answers" "answers" st_G_answers f fd) (s : Shared) (us : List Value) (hu : us.length = (["calls"] : List Str).length) : BindsTo s fd ⟨us, []⟩ ((["calls"] : List Str).zip us) := by
  obtain ⟨oc, od, kV, doc, pm, an, cdv, ct, osl, rfl, lk, hcd⟩ := F.ex
  match us, hu with
  | [_], _ => exact .of_eq rfl
end
theorem all_mk {P : Program} {w : World} {K : PySem.W.Frag} {h : Heap} {mg : Str → Option Value} {fa CS CX CP : Addr} (X : K.In h) (G : h.Ns mainGlobals mg) (hfa : mg "answers" = some (.ref fa))
    (aS : PySem.W.nsIn K mainGlobals "Stream" = some (some (.ref CS))) (pgS : PySem.W.plainGet K CS Str.empty = true) (hdS : PySem.W.hasDictIn K CS = true) (poS : PySem.W.plainOver K CS = true) (saS : PySem.W.findIn K (.ref CS) "__setattr__" = some (some (.builtin "object.__setattr__"))) (mkS : PySem.W.makesIn K CS = true) (kcS : PySem.W.keepIn K (.ref CS) = true)
    (nS_number : PySem.W.findIn K (.ref CS) "number" = some none)
    (nS_ring : PySem.W.findIn K (.ref CS) "ring" = some none)
    (nS_group : PySem.W.findIn K (.ref CS) "group" = some none)
    (nS_least : PySem.W.findIn K (.ref CS) "least" = some none)
    (nS_gap : PySem.W.findIn K (.ref CS) "gap" = some none)
    (nS_most : PySem.W.findIn K (.ref CS) "most" = some none)
    (nS_yellow : PySem.W.findIn K (.ref CS) "yellow" = some none)
    (nS_red : PySem.W.findIn K (.ref CS) "red" = some none)
    (nS_walk : PySem.W.findIn K (.ref CS) "walk" = some none)
    (nS_clearance : PySem.W.findIn K (.ref CS) "clearance" = some none)
    (nS_mode : PySem.W.findIn K (.ref CS) "mode" = some none)
    (nS_colour : PySem.W.findIn K (.ref CS) "colour" = some none)
    (nS_time : PySem.W.findIn K (.ref CS) "time" = some none)
    (nS_gap_rest : PySem.W.findIn K (.ref CS) "gap_rest" = some none)
    (nS_waited : PySem.W.findIn K (.ref CS) "waited" = some none)
    (nS_let_go : PySem.W.findIn K (.ref CS) "let_go" = some none)
    (nS_car_kept : PySem.W.findIn K (.ref CS) "car_kept" = some none)
    (nS_button_kept : PySem.W.findIn K (.ref CS) "button_kept" = some none)
    (aX : PySem.W.nsIn K mainGlobals "Crossing" = some (some (.ref CX))) (pgX : PySem.W.plainGet K CX Str.empty = true) (hdX : PySem.W.hasDictIn K CX = true) (poX : PySem.W.plainOver K CX = true) (saX : PySem.W.findIn K (.ref CX) "__setattr__" = some (some (.builtin "object.__setattr__"))) (mkX : PySem.W.makesIn K CX = true) (kcX : PySem.W.keepIn K (.ref CX) = true)
    (nX_streams : PySem.W.findIn K (.ref CX) "streams" = some none)
    (nX_group : PySem.W.findIn K (.ref CX) "group" = some none)
    (nX_latest : PySem.W.findIn K (.ref CX) "latest" = some none)
    (aP : PySem.W.nsIn K mainGlobals "Step" = some (some (.ref CP))) (pgP : PySem.W.plainGet K CP Str.empty = true) (hdP : PySem.W.hasDictIn K CP = true) (poP : PySem.W.plainOver K CP = true) (saP : PySem.W.findIn K (.ref CP) "__setattr__" = some (some (.builtin "object.__setattr__"))) (mkP : PySem.W.makesIn K CP = true) (kcP : PySem.W.keepIn K (.ref CP) = true)
    (nP_crossing : PySem.W.findIn K (.ref CP) "crossing" = some none)
    (nP_cars : PySem.W.findIn K (.ref CP) "cars" = some none)
    (nP_people : PySem.W.findIn K (.ref CP) "people" = some none)
    (nP_first : PySem.W.findIn K (.ref CP) "first" = some none)
    (nP_called : PySem.W.findIn K (.ref CP) "called" = some none)
    (h_G_are_allowed : FnIs K "are_allowed" st_G_are_allowed)
    (h_G_of_one_ring_and_group : FnIs K "of_one_ring_and_group" st_G_of_one_ring_and_group)
    (h_G_cross : FnIs K "cross" st_G_cross)
    (h_G_bits_of : FnIs K "bits_of" st_G_bits_of)
    (h_S_init : MethIs K CS "__init__" "Stream.__init__" st_S_init)
    (h_S_is_always_called : MethIs K CS "is_always_called" "Stream.is_always_called" st_S_is_always_called)
    (h_S_is_till_most : MethIs K CS "is_till_most" "Stream.is_till_most" st_S_is_till_most)
    (h_S_keeps_cars : MethIs K CS "keeps_cars" "Stream.keeps_cars" st_S_keeps_cars)
    (h_S_is_green : MethIs K CS "is_green" "Stream.is_green" st_S_is_green)
    (h_S_is_yellow : MethIs K CS "is_yellow" "Stream.is_yellow" st_S_is_yellow)
    (h_S_is_in_colour : MethIs K CS "is_in_colour" "Stream.is_in_colour" st_S_is_in_colour)
    (h_S_people_walk : MethIs K CS "people_walk" "Stream.people_walk" st_S_people_walk)
    (h_S_people_clear : MethIs K CS "people_clear" "Stream.people_clear" st_S_people_clear)
    (h_S_people_are_done : MethIs K CS "people_are_done" "Stream.people_are_done" st_S_people_are_done)
    (h_S_hear : MethIs K CS "hear" "Stream.hear" st_S_hear)
    (h_S_is_called : MethIs K CS "is_called" "Stream.is_called" st_S_is_called)
    (h_S_run_clock : MethIs K CS "run_clock" "Stream.run_clock" st_S_run_clock)
    (h_S_run_gap : MethIs K CS "run_gap" "Stream.run_gap" st_S_run_gap)
    (h_S_end_walk : MethIs K CS "end_walk" "Stream.end_walk" st_S_end_walk)
    (h_S_may_end : MethIs K CS "may_end" "Stream.may_end" st_S_may_end)
    (h_S_take_colour : MethIs K CS "take_colour" "Stream.take_colour" st_S_take_colour)
    (h_S_become_green : MethIs K CS "become_green" "Stream.become_green" st_S_become_green)
    (h_S_end_yellow_and_clearing : MethIs K CS "end_yellow_and_clearing" "Stream.end_yellow_and_clearing" st_S_end_yellow_and_clearing)
    (h_G_has_allowed_streams : FnIs K "has_allowed_streams" st_G_has_allowed_streams)
    (h_X_init : MethIs K CX "__init__" "Crossing.__init__" st_X_init)
    (h_X_begin_group : MethIs K CX "begin_group" "Crossing.begin_group" st_X_begin_group)
    (h_X_give_green : MethIs K CX "give_green" "Crossing.give_green" st_X_give_green)
    (h_X_in_colour : MethIs K CX "in_colour" "Crossing.in_colour" st_X_in_colour)
    (h_X_is_all_red : MethIs K CX "is_all_red" "Crossing.is_all_red" st_X_is_all_red)
    (h_X_greens : MethIs K CX "greens" "Crossing.greens" st_X_greens)
    (h_X_is_stuck : MethIs K CX "is_stuck" "Crossing.is_stuck" st_X_is_stuck)
    (h_X_lights : MethIs K CX "lights" "Crossing.lights" st_X_lights)
    (h_X_remembered : MethIs K CX "remembered" "Crossing.remembered" st_X_remembered)
    (h_P_init : MethIs K CP "__init__" "Step.__init__" st_P_init)
    (h_P_run : MethIs K CP "run" "Step.run" st_P_run)
    (h_P_has_car : MethIs K CP "has_car" "Step.has_car" st_P_has_car)
    (h_P_has_button : MethIs K CP "has_button" "Step.has_button" st_P_has_button)
    (h_P_is_first : MethIs K CP "is_first" "Step.is_first" st_P_is_first)
    (h_P_is_crossed_by_first : MethIs K CP "is_crossed_by_first" "Step.is_crossed_by_first" st_P_is_crossed_by_first)
    (h_P_hear_calls : MethIs K CP "hear_calls" "Step.hear_calls" st_P_hear_calls)
    (h_P_is_pressed : MethIs K CP "is_pressed" "Step.is_pressed" st_P_is_pressed)
    (h_P_run_clocks : MethIs K CP "run_clocks" "Step.run_clocks" st_P_run_clocks)
    (h_P_is_ready : MethIs K CP "is_ready" "Step.is_ready" st_P_is_ready)
    (h_P_heir : MethIs K CP "heir" "Step.heir" st_P_heir)
    (h_P_end_colours : MethIs K CP "end_colours" "Step.end_colours" st_P_end_colours)
    (h_P_begin_greens : MethIs K CP "begin_greens" "Step.begin_greens" st_P_begin_greens)
    (h_P_begin_in_ring : MethIs K CP "begin_in_ring" "Step.begin_in_ring" st_P_begin_in_ring)
    (h_P_give_green : MethIs K CP "give_green" "Step.give_green" st_P_give_green)
    (h_P_first_called : MethIs K CP "first_called" "Step.first_called" st_P_first_called)
    (h_P_next_group : MethIs K CP "next_group" "Step.next_group" st_P_next_group)
    (h_P_begin_next_group : MethIs K CP "begin_next_group" "Step.begin_next_group" st_P_begin_next_group)
    (h_G_begin : FnIs K "begin" st_G_begin)
    (h_G_step : FnIs K "step" st_G_step)
    (h_G_calls_of : FnIs K "calls_of" st_G_calls_of)
    (h_G_answers : FnIs K "answers" st_G_answers)
    (c_RED : IntIs K "RED" (0))
    (c_GREEN : IntIs K "GREEN" (1))
    (c_YELLOW : IntIs K "YELLOW" (2))
    (c_CLEARING : IntIs K "CLEARING" (3))
    (c_ALWAYS_CALLED : IntIs K "ALWAYS_CALLED" (1))
    (c_TILL_MOST : IntIs K "TILL_MOST" (2))
    (c_KEEPS_CARS : IntIs K "KEEPS_CARS" (4))
    (c_LOWEST : TupIs K "LOWEST" [.int 0, .int 0, .int 1, .int 0, .int 1, .int 1, .int 0, .int 0, .int 0, .int 0])
    (c_HIGHEST : TupIs K "HIGHEST" [.int 3, .int 7, .int 6000, .int 6000, .int 36000, .int 1000, .int 1000, .int 6000, .int 6000, .int 7])
    (c_NUMBERS : IntIs K "NUMBERS" (10))
    (c_RINGS : IntIs K "RINGS" (4))
    (c_GROUPS : IntIs K "GROUPS" (8))
    (c_MOST_STREAMS : IntIs K "MOST_STREAMS" (16))
    (c_BEGIN : IntIs K "BEGIN" (0))
    (c_STEP : IntIs K "STEP" (1))
    (c_CROSSINGS : IntIs K "CROSSINGS" (2))
    (c_NO_FIRST : IntIs K "NO_FIRST" (-1))
    (c_DONE : IntIs K "DONE" (0))
    (c_NOT_ALLOWED : IntIs K "NOT_ALLOWED" (-2))
    (c_NOT_BEGUN : IntIs K "NOT_BEGUN" (-9))
    (z_len : PySem.W.nsIn K mainGlobals "len" = some none)
    (z_range : PySem.W.nsIn K mainGlobals "range" = some none)
    (z_min : PySem.W.nsIn K mainGlobals "min" = some none) :
    ∃ fd : FuncData, (∀ (s : Shared) (us : List Value), us.length = (["calls"] : List Str).length → BindsTo s fd ⟨us, []⟩ ((["calls"] : List Str).zip us)) ∧ ∀ base : Heap, K.In base → base.Ns mainGlobals mg → FnOk P w K mg base CX0 9 fa fd ["calls"] (spAns K) := by
  obtain ⟨f_G_are_allowed, d_G_are_allowed, g_G_are_allowed, F_G_are_allowed⟩ := h_G_are_allowed
  obtain ⟨f_G_of_one_ring_and_group, d_G_of_one_ring_and_group, g_G_of_one_ring_and_group, F_G_of_one_ring_and_group⟩ := h_G_of_one_ring_and_group
  obtain ⟨f_G_cross, d_G_cross, g_G_cross, F_G_cross⟩ := h_G_cross
  obtain ⟨f_G_bits_of, d_G_bits_of, g_G_bits_of, F_G_bits_of⟩ := h_G_bits_of
  obtain ⟨f_S_init, d_S_init, M_S_init, F_S_init⟩ := h_S_init
  obtain ⟨f_S_is_always_called, d_S_is_always_called, M_S_is_always_called, F_S_is_always_called⟩ := h_S_is_always_called
  obtain ⟨f_S_is_till_most, d_S_is_till_most, M_S_is_till_most, F_S_is_till_most⟩ := h_S_is_till_most
  obtain ⟨f_S_keeps_cars, d_S_keeps_cars, M_S_keeps_cars, F_S_keeps_cars⟩ := h_S_keeps_cars
  obtain ⟨f_S_is_green, d_S_is_green, M_S_is_green, F_S_is_green⟩ := h_S_is_green
  obtain ⟨f_S_is_yellow, d_S_is_yellow, M_S_is_yellow, F_S_is_yellow⟩ := h_S_is_yellow
  obtain ⟨f_S_is_in_colour, d_S_is_in_colour, M_S_is_in_colour, F_S_is_in_colour⟩ := h_S_is_in_colour
  obtain ⟨f_S_people_walk, d_S_people_walk, M_S_people_walk, F_S_people_walk⟩ := h_S_people_walk
  obtain ⟨f_S_people_clear, d_S_people_clear, M_S_people_clear, F_S_people_clear⟩ := h_S_people_clear
  obtain ⟨f_S_people_are_done, d_S_people_are_done, M_S_people_are_done, F_S_people_are_done⟩ := h_S_people_are_done
  obtain ⟨f_S_hear, d_S_hear, M_S_hear, F_S_hear⟩ := h_S_hear
  obtain ⟨f_S_is_called, d_S_is_called, M_S_is_called, F_S_is_called⟩ := h_S_is_called
  obtain ⟨f_S_run_clock, d_S_run_clock, M_S_run_clock, F_S_run_clock⟩ := h_S_run_clock
  obtain ⟨f_S_run_gap, d_S_run_gap, M_S_run_gap, F_S_run_gap⟩ := h_S_run_gap
  obtain ⟨f_S_end_walk, d_S_end_walk, M_S_end_walk, F_S_end_walk⟩ := h_S_end_walk
  obtain ⟨f_S_may_end, d_S_may_end, M_S_may_end, F_S_may_end⟩ := h_S_may_end
  obtain ⟨f_S_take_colour, d_S_take_colour, M_S_take_colour, F_S_take_colour⟩ := h_S_take_colour
  obtain ⟨f_S_become_green, d_S_become_green, M_S_become_green, F_S_become_green⟩ := h_S_become_green
  obtain ⟨f_S_end_yellow_and_clearing, d_S_end_yellow_and_clearing, M_S_end_yellow_and_clearing, F_S_end_yellow_and_clearing⟩ := h_S_end_yellow_and_clearing
  obtain ⟨f_G_has_allowed_streams, d_G_has_allowed_streams, g_G_has_allowed_streams, F_G_has_allowed_streams⟩ := h_G_has_allowed_streams
  obtain ⟨f_X_init, d_X_init, M_X_init, F_X_init⟩ := h_X_init
  obtain ⟨f_X_begin_group, d_X_begin_group, M_X_begin_group, F_X_begin_group⟩ := h_X_begin_group
  obtain ⟨f_X_give_green, d_X_give_green, M_X_give_green, F_X_give_green⟩ := h_X_give_green
  obtain ⟨f_X_in_colour, d_X_in_colour, M_X_in_colour, F_X_in_colour⟩ := h_X_in_colour
  obtain ⟨f_X_is_all_red, d_X_is_all_red, M_X_is_all_red, F_X_is_all_red⟩ := h_X_is_all_red
  obtain ⟨f_X_greens, d_X_greens, M_X_greens, F_X_greens⟩ := h_X_greens
  obtain ⟨f_X_is_stuck, d_X_is_stuck, M_X_is_stuck, F_X_is_stuck⟩ := h_X_is_stuck
  obtain ⟨f_X_lights, d_X_lights, M_X_lights, F_X_lights⟩ := h_X_lights
  obtain ⟨f_X_remembered, d_X_remembered, M_X_remembered, F_X_remembered⟩ := h_X_remembered
  obtain ⟨f_P_init, d_P_init, M_P_init, F_P_init⟩ := h_P_init
  obtain ⟨f_P_run, d_P_run, M_P_run, F_P_run⟩ := h_P_run
  obtain ⟨f_P_has_car, d_P_has_car, M_P_has_car, F_P_has_car⟩ := h_P_has_car
  obtain ⟨f_P_has_button, d_P_has_button, M_P_has_button, F_P_has_button⟩ := h_P_has_button
  obtain ⟨f_P_is_first, d_P_is_first, M_P_is_first, F_P_is_first⟩ := h_P_is_first
  obtain ⟨f_P_is_crossed_by_first, d_P_is_crossed_by_first, M_P_is_crossed_by_first, F_P_is_crossed_by_first⟩ := h_P_is_crossed_by_first
  obtain ⟨f_P_hear_calls, d_P_hear_calls, M_P_hear_calls, F_P_hear_calls⟩ := h_P_hear_calls
  obtain ⟨f_P_is_pressed, d_P_is_pressed, M_P_is_pressed, F_P_is_pressed⟩ := h_P_is_pressed
  obtain ⟨f_P_run_clocks, d_P_run_clocks, M_P_run_clocks, F_P_run_clocks⟩ := h_P_run_clocks
  obtain ⟨f_P_is_ready, d_P_is_ready, M_P_is_ready, F_P_is_ready⟩ := h_P_is_ready
  obtain ⟨f_P_heir, d_P_heir, M_P_heir, F_P_heir⟩ := h_P_heir
  obtain ⟨f_P_end_colours, d_P_end_colours, M_P_end_colours, F_P_end_colours⟩ := h_P_end_colours
  obtain ⟨f_P_begin_greens, d_P_begin_greens, M_P_begin_greens, F_P_begin_greens⟩ := h_P_begin_greens
  obtain ⟨f_P_begin_in_ring, d_P_begin_in_ring, M_P_begin_in_ring, F_P_begin_in_ring⟩ := h_P_begin_in_ring
  obtain ⟨f_P_give_green, d_P_give_green, M_P_give_green, F_P_give_green⟩ := h_P_give_green
  obtain ⟨f_P_first_called, d_P_first_called, M_P_first_called, F_P_first_called⟩ := h_P_first_called
  obtain ⟨f_P_next_group, d_P_next_group, M_P_next_group, F_P_next_group⟩ := h_P_next_group
  obtain ⟨f_P_begin_next_group, d_P_begin_next_group, M_P_begin_next_group, F_P_begin_next_group⟩ := h_P_begin_next_group
  obtain ⟨f_G_begin, d_G_begin, g_G_begin, F_G_begin⟩ := h_G_begin
  obtain ⟨f_G_step, d_G_step, g_G_step, F_G_step⟩ := h_G_step
  obtain ⟨f_G_calls_of, d_G_calls_of, g_G_calls_of, F_G_calls_of⟩ := h_G_calls_of
  obtain ⟨f_G_answers, d_G_answers, g_G_answers, F_G_answers⟩ := h_G_answers
  obtain ⟨t_RED, g_RED⟩ := c_RED
  obtain ⟨t_GREEN, g_GREEN⟩ := c_GREEN
  obtain ⟨t_YELLOW, g_YELLOW⟩ := c_YELLOW
  obtain ⟨t_CLEARING, g_CLEARING⟩ := c_CLEARING
  obtain ⟨t_ALWAYS_CALLED, g_ALWAYS_CALLED⟩ := c_ALWAYS_CALLED
  obtain ⟨t_TILL_MOST, g_TILL_MOST⟩ := c_TILL_MOST
  obtain ⟨t_KEEPS_CARS, g_KEEPS_CARS⟩ := c_KEEPS_CARS
  obtain ⟨a_LOWEST, g_LOWEST, w_LOWEST⟩ := c_LOWEST
  obtain ⟨a_HIGHEST, g_HIGHEST, w_HIGHEST⟩ := c_HIGHEST
  obtain ⟨t_NUMBERS, g_NUMBERS⟩ := c_NUMBERS
  obtain ⟨t_RINGS, g_RINGS⟩ := c_RINGS
  obtain ⟨t_GROUPS, g_GROUPS⟩ := c_GROUPS
  obtain ⟨t_MOST_STREAMS, g_MOST_STREAMS⟩ := c_MOST_STREAMS
  obtain ⟨t_BEGIN, g_BEGIN⟩ := c_BEGIN
  obtain ⟨t_STEP, g_STEP⟩ := c_STEP
  obtain ⟨t_CROSSINGS, g_CROSSINGS⟩ := c_CROSSINGS
  obtain ⟨t_NO_FIRST, g_NO_FIRST⟩ := c_NO_FIRST
  obtain ⟨t_DONE, g_DONE⟩ := c_DONE
  obtain ⟨t_NOT_ALLOWED, g_NOT_ALLOWED⟩ := c_NOT_ALLOWED
  obtain ⟨t_NOT_BEGUN, g_NOT_BEGUN⟩ := c_NOT_BEGUN
  let A : Adr := { CS := CS, CX := CX, CP := CP, f_G_are_allowed := f_G_are_allowed, d_G_are_allowed := d_G_are_allowed, f_G_of_one_ring_and_group := f_G_of_one_ring_and_group, d_G_of_one_ring_and_group := d_G_of_one_ring_and_group, f_G_cross := f_G_cross, d_G_cross := d_G_cross, f_G_bits_of := f_G_bits_of, d_G_bits_of := d_G_bits_of, f_S_init := f_S_init, d_S_init := d_S_init, f_S_is_always_called := f_S_is_always_called, d_S_is_always_called := d_S_is_always_called, f_S_is_till_most := f_S_is_till_most, d_S_is_till_most := d_S_is_till_most, f_S_keeps_cars := f_S_keeps_cars, d_S_keeps_cars := d_S_keeps_cars, f_S_is_green := f_S_is_green, d_S_is_green := d_S_is_green, f_S_is_yellow := f_S_is_yellow, d_S_is_yellow := d_S_is_yellow, f_S_is_in_colour := f_S_is_in_colour, d_S_is_in_colour := d_S_is_in_colour, f_S_people_walk := f_S_people_walk, d_S_people_walk := d_S_people_walk, f_S_people_clear := f_S_people_clear, d_S_people_clear := d_S_people_clear, f_S_people_are_done := f_S_people_are_done, d_S_people_are_done := d_S_people_are_done, f_S_hear := f_S_hear, d_S_hear := d_S_hear, f_S_is_called := f_S_is_called, d_S_is_called := d_S_is_called, f_S_run_clock := f_S_run_clock, d_S_run_clock := d_S_run_clock, f_S_run_gap := f_S_run_gap, d_S_run_gap := d_S_run_gap, f_S_end_walk := f_S_end_walk, d_S_end_walk := d_S_end_walk, f_S_may_end := f_S_may_end, d_S_may_end := d_S_may_end, f_S_take_colour := f_S_take_colour, d_S_take_colour := d_S_take_colour, f_S_become_green := f_S_become_green, d_S_become_green := d_S_become_green, f_S_end_yellow_and_clearing := f_S_end_yellow_and_clearing, d_S_end_yellow_and_clearing := d_S_end_yellow_and_clearing, f_G_has_allowed_streams := f_G_has_allowed_streams, d_G_has_allowed_streams := d_G_has_allowed_streams, f_X_init := f_X_init, d_X_init := d_X_init, f_X_begin_group := f_X_begin_group, d_X_begin_group := d_X_begin_group, f_X_give_green := f_X_give_green, d_X_give_green := d_X_give_green, f_X_in_colour := f_X_in_colour, d_X_in_colour := d_X_in_colour, f_X_is_all_red := f_X_is_all_red, d_X_is_all_red := d_X_is_all_red, f_X_greens := f_X_greens, d_X_greens := d_X_greens, f_X_is_stuck := f_X_is_stuck, d_X_is_stuck := d_X_is_stuck, f_X_lights := f_X_lights, d_X_lights := d_X_lights, f_X_remembered := f_X_remembered, d_X_remembered := d_X_remembered, f_P_init := f_P_init, d_P_init := d_P_init, f_P_run := f_P_run, d_P_run := d_P_run, f_P_has_car := f_P_has_car, d_P_has_car := d_P_has_car, f_P_has_button := f_P_has_button, d_P_has_button := d_P_has_button, f_P_is_first := f_P_is_first, d_P_is_first := d_P_is_first, f_P_is_crossed_by_first := f_P_is_crossed_by_first, d_P_is_crossed_by_first := d_P_is_crossed_by_first, f_P_hear_calls := f_P_hear_calls, d_P_hear_calls := d_P_hear_calls, f_P_is_pressed := f_P_is_pressed, d_P_is_pressed := d_P_is_pressed, f_P_run_clocks := f_P_run_clocks, d_P_run_clocks := d_P_run_clocks, f_P_is_ready := f_P_is_ready, d_P_is_ready := d_P_is_ready, f_P_heir := f_P_heir, d_P_heir := d_P_heir, f_P_end_colours := f_P_end_colours, d_P_end_colours := d_P_end_colours, f_P_begin_greens := f_P_begin_greens, d_P_begin_greens := d_P_begin_greens, f_P_begin_in_ring := f_P_begin_in_ring, d_P_begin_in_ring := d_P_begin_in_ring, f_P_give_green := f_P_give_green, d_P_give_green := d_P_give_green, f_P_first_called := f_P_first_called, d_P_first_called := d_P_first_called, f_P_next_group := f_P_next_group, d_P_next_group := d_P_next_group, f_P_begin_next_group := f_P_begin_next_group, d_P_begin_next_group := d_P_begin_next_group, f_G_begin := f_G_begin, d_G_begin := d_G_begin, f_G_step := f_G_step, d_G_step := d_G_step, f_G_calls_of := f_G_calls_of, d_G_calls_of := d_G_calls_of, f_G_answers := f_G_answers, d_G_answers := d_G_answers, t_RED := t_RED, t_GREEN := t_GREEN, t_YELLOW := t_YELLOW, t_CLEARING := t_CLEARING, t_ALWAYS_CALLED := t_ALWAYS_CALLED, t_TILL_MOST := t_TILL_MOST, t_KEEPS_CARS := t_KEEPS_CARS, a_LOWEST := a_LOWEST, a_HIGHEST := a_HIGHEST, t_NUMBERS := t_NUMBERS, t_RINGS := t_RINGS, t_GROUPS := t_GROUPS, t_MOST_STREAMS := t_MOST_STREAMS, t_BEGIN := t_BEGIN, t_STEP := t_STEP, t_CROSSINGS := t_CROSSINGS, t_NO_FIRST := t_NO_FIRST, t_DONE := t_DONE, t_NOT_ALLOWED := t_NOT_ALLOWED, t_NOT_BEGUN := t_NOT_BEGUN }
  have T : Txt K mg A := {
    cS := ⟨pgS, hdS, poS, saS⟩
    g_CS := PySem.W.mg_of X G aS
    K_S := ⟨mkS, M_S_init.at_, M_S_init.fn, kcS⟩
    nS_number := nS_number
    nS_ring := nS_ring
    nS_group := nS_group
    nS_least := nS_least
    nS_gap := nS_gap
    nS_most := nS_most
    nS_yellow := nS_yellow
    nS_red := nS_red
    nS_walk := nS_walk
    nS_clearance := nS_clearance
    nS_mode := nS_mode
    nS_colour := nS_colour
    nS_time := nS_time
    nS_gap_rest := nS_gap_rest
    nS_waited := nS_waited
    nS_let_go := nS_let_go
    nS_car_kept := nS_car_kept
    nS_button_kept := nS_button_kept
    cX := ⟨pgX, hdX, poX, saX⟩
    g_CX := PySem.W.mg_of X G aX
    K_X := ⟨mkX, M_X_init.at_, M_X_init.fn, kcX⟩
    nX_streams := nX_streams
    nX_group := nX_group
    nX_latest := nX_latest
    cP := ⟨pgP, hdP, poP, saP⟩
    g_CP := PySem.W.mg_of X G aP
    K_P := ⟨mkP, M_P_init.at_, M_P_init.fn, kcP⟩
    nP_crossing := nP_crossing
    nP_cars := nP_cars
    nP_people := nP_people
    nP_first := nP_first
    nP_called := nP_called
    F_G_are_allowed := F_G_are_allowed
    B_G_are_allowed := F_G_are_allowed.binds (ps := ["numbers"]) fun _ _ _ _ _ _ us hl => match us, hl with | [_], _ => rfl
    g_G_are_allowed := PySem.W.mg_of X G g_G_are_allowed
    F_G_of_one_ring_and_group := F_G_of_one_ring_and_group
    B_G_of_one_ring_and_group := F_G_of_one_ring_and_group.binds (ps := ["one", "other"]) fun _ _ _ _ _ _ us hl => match us, hl with | [_, _], _ => rfl
    g_G_of_one_ring_and_group := PySem.W.mg_of X G g_G_of_one_ring_and_group
    F_G_cross := F_G_cross
    B_G_cross := F_G_cross.binds (ps := ["one", "other"]) fun _ _ _ _ _ _ us hl => match us, hl with | [_, _], _ => rfl
    g_G_cross := PySem.W.mg_of X G g_G_cross
    F_G_bits_of := F_G_bits_of
    B_G_bits_of := F_G_bits_of.binds (ps := ["streams"]) fun _ _ _ _ _ _ us hl => match us, hl with | [_], _ => rfl
    g_G_bits_of := PySem.W.mg_of X G g_G_bits_of
    F_S_init := F_S_init
    B_S_init := F_S_init.binds (ps := ["self", "number", "numbers"]) fun _ _ _ _ _ _ us hl => match us, hl with | [_, _, _], _ => rfl
    F_S_is_always_called := F_S_is_always_called
    B_S_is_always_called := F_S_is_always_called.binds (ps := ["self"]) fun _ _ _ _ _ _ us hl => match us, hl with | [_], _ => rfl
    M_S_is_always_called := M_S_is_always_called
    F_S_is_till_most := F_S_is_till_most
    B_S_is_till_most := F_S_is_till_most.binds (ps := ["self"]) fun _ _ _ _ _ _ us hl => match us, hl with | [_], _ => rfl
    M_S_is_till_most := M_S_is_till_most
    F_S_keeps_cars := F_S_keeps_cars
    B_S_keeps_cars := F_S_keeps_cars.binds (ps := ["self"]) fun _ _ _ _ _ _ us hl => match us, hl with | [_], _ => rfl
    M_S_keeps_cars := M_S_keeps_cars
    F_S_is_green := F_S_is_green
    B_S_is_green := F_S_is_green.binds (ps := ["self"]) fun _ _ _ _ _ _ us hl => match us, hl with | [_], _ => rfl
    M_S_is_green := M_S_is_green
    F_S_is_yellow := F_S_is_yellow
    B_S_is_yellow := F_S_is_yellow.binds (ps := ["self"]) fun _ _ _ _ _ _ us hl => match us, hl with | [_], _ => rfl
    M_S_is_yellow := M_S_is_yellow
    F_S_is_in_colour := F_S_is_in_colour
    B_S_is_in_colour := F_S_is_in_colour.binds (ps := ["self"]) fun _ _ _ _ _ _ us hl => match us, hl with | [_], _ => rfl
    M_S_is_in_colour := M_S_is_in_colour
    F_S_people_walk := F_S_people_walk
    B_S_people_walk := F_S_people_walk.binds (ps := ["self"]) fun _ _ _ _ _ _ us hl => match us, hl with | [_], _ => rfl
    M_S_people_walk := M_S_people_walk
    F_S_people_clear := F_S_people_clear
    B_S_people_clear := F_S_people_clear.binds (ps := ["self"]) fun _ _ _ _ _ _ us hl => match us, hl with | [_], _ => rfl
    M_S_people_clear := M_S_people_clear
    F_S_people_are_done := F_S_people_are_done
    B_S_people_are_done := F_S_people_are_done.binds (ps := ["self"]) fun _ _ _ _ _ _ us hl => match us, hl with | [_], _ => rfl
    M_S_people_are_done := M_S_people_are_done
    F_S_hear := F_S_hear
    B_S_hear := F_S_hear.binds (ps := ["self", "car", "button"]) fun _ _ _ _ _ _ us hl => match us, hl with | [_, _, _], _ => rfl
    M_S_hear := M_S_hear
    F_S_is_called := F_S_is_called
    B_S_is_called := F_S_is_called.binds (ps := ["self", "car"]) fun _ _ _ _ _ _ us hl => match us, hl with | [_, _], _ => rfl
    M_S_is_called := M_S_is_called
    F_S_run_clock := F_S_run_clock
    B_S_run_clock := F_S_run_clock.binds (ps := ["self"]) fun _ _ _ _ _ _ us hl => match us, hl with | [_], _ => rfl
    M_S_run_clock := M_S_run_clock
    F_S_run_gap := F_S_run_gap
    B_S_run_gap := F_S_run_gap.binds (ps := ["self", "car"]) fun _ _ _ _ _ _ us hl => match us, hl with | [_, _], _ => rfl
    M_S_run_gap := M_S_run_gap
    F_S_end_walk := F_S_end_walk
    B_S_end_walk := F_S_end_walk.binds (ps := ["self"]) fun _ _ _ _ _ _ us hl => match us, hl with | [_], _ => rfl
    M_S_end_walk := M_S_end_walk
    F_S_may_end := F_S_may_end
    B_S_may_end := F_S_may_end.binds (ps := ["self"]) fun _ _ _ _ _ _ us hl => match us, hl with | [_], _ => rfl
    M_S_may_end := M_S_may_end
    F_S_take_colour := F_S_take_colour
    B_S_take_colour := F_S_take_colour.binds (ps := ["self", "colour"]) fun _ _ _ _ _ _ us hl => match us, hl with | [_, _], _ => rfl
    M_S_take_colour := M_S_take_colour
    F_S_become_green := F_S_become_green
    B_S_become_green := F_S_become_green.binds (ps := ["self"]) fun _ _ _ _ _ _ us hl => match us, hl with | [_], _ => rfl
    M_S_become_green := M_S_become_green
    F_S_end_yellow_and_clearing := F_S_end_yellow_and_clearing
    B_S_end_yellow_and_clearing := F_S_end_yellow_and_clearing.binds (ps := ["self"]) fun _ _ _ _ _ _ us hl => match us, hl with | [_], _ => rfl
    M_S_end_yellow_and_clearing := M_S_end_yellow_and_clearing
    F_G_has_allowed_streams := F_G_has_allowed_streams
    B_G_has_allowed_streams := F_G_has_allowed_streams.binds (ps := ["n", "numbers"]) fun _ _ _ _ _ _ us hl => match us, hl with | [_, _], _ => rfl
    g_G_has_allowed_streams := PySem.W.mg_of X G g_G_has_allowed_streams
    F_X_init := F_X_init
    B_X_init := F_X_init.binds (ps := ["self", "n", "numbers"]) fun _ _ _ _ _ _ us hl => match us, hl with | [_, _, _], _ => rfl
    F_X_begin_group := F_X_begin_group
    B_X_begin_group := F_X_begin_group.binds (ps := ["self", "group"]) fun _ _ _ _ _ _ us hl => match us, hl with | [_, _], _ => rfl
    M_X_begin_group := M_X_begin_group
    F_X_give_green := F_X_give_green
    B_X_give_green := F_X_give_green.binds (ps := ["self", "stream"]) fun _ _ _ _ _ _ us hl => match us, hl with | [_, _], _ => rfl
    M_X_give_green := M_X_give_green
    F_X_in_colour := F_X_in_colour
    B_X_in_colour := F_X_in_colour.binds (ps := ["self", "ring"]) fun _ _ _ _ _ _ us hl => match us, hl with | [_, _], _ => rfl
    M_X_in_colour := M_X_in_colour
    F_X_is_all_red := F_X_is_all_red
    B_X_is_all_red := F_X_is_all_red.binds (ps := ["self"]) fun _ _ _ _ _ _ us hl => match us, hl with | [_], _ => rfl
    M_X_is_all_red := M_X_is_all_red
    F_X_greens := F_X_greens
    B_X_greens := F_X_greens.binds (ps := ["self"]) fun _ _ _ _ _ _ us hl => match us, hl with | [_], _ => rfl
    M_X_greens := M_X_greens
    F_X_is_stuck := F_X_is_stuck
    B_X_is_stuck := F_X_is_stuck.binds (ps := ["self", "stream"]) fun _ _ _ _ _ _ us hl => match us, hl with | [_, _], _ => rfl
    M_X_is_stuck := M_X_is_stuck
    F_X_lights := F_X_lights
    B_X_lights := F_X_lights.binds (ps := ["self"]) fun _ _ _ _ _ _ us hl => match us, hl with | [_], _ => rfl
    M_X_lights := M_X_lights
    F_X_remembered := F_X_remembered
    B_X_remembered := F_X_remembered.binds (ps := ["self"]) fun _ _ _ _ _ _ us hl => match us, hl with | [_], _ => rfl
    M_X_remembered := M_X_remembered
    F_P_init := F_P_init
    B_P_init := F_P_init.binds (ps := ["self", "crossing", "cars", "people", "first"]) fun _ _ _ _ _ _ us hl => match us, hl with | [_, _, _, _, _], _ => rfl
    F_P_run := F_P_run
    B_P_run := F_P_run.binds (ps := ["self"]) fun _ _ _ _ _ _ us hl => match us, hl with | [_], _ => rfl
    M_P_run := M_P_run
    F_P_has_car := F_P_has_car
    B_P_has_car := F_P_has_car.binds (ps := ["self", "stream"]) fun _ _ _ _ _ _ us hl => match us, hl with | [_, _], _ => rfl
    M_P_has_car := M_P_has_car
    F_P_has_button := F_P_has_button
    B_P_has_button := F_P_has_button.binds (ps := ["self", "stream"]) fun _ _ _ _ _ _ us hl => match us, hl with | [_, _], _ => rfl
    M_P_has_button := M_P_has_button
    F_P_is_first := F_P_is_first
    B_P_is_first := F_P_is_first.binds (ps := ["self", "stream"]) fun _ _ _ _ _ _ us hl => match us, hl with | [_, _], _ => rfl
    M_P_is_first := M_P_is_first
    F_P_is_crossed_by_first := F_P_is_crossed_by_first
    B_P_is_crossed_by_first := F_P_is_crossed_by_first.binds (ps := ["self", "stream"]) fun _ _ _ _ _ _ us hl => match us, hl with | [_, _], _ => rfl
    M_P_is_crossed_by_first := M_P_is_crossed_by_first
    F_P_hear_calls := F_P_hear_calls
    B_P_hear_calls := F_P_hear_calls.binds (ps := ["self"]) fun _ _ _ _ _ _ us hl => match us, hl with | [_], _ => rfl
    M_P_hear_calls := M_P_hear_calls
    F_P_is_pressed := F_P_is_pressed
    B_P_is_pressed := F_P_is_pressed.binds (ps := ["self"]) fun _ _ _ _ _ _ us hl => match us, hl with | [_], _ => rfl
    M_P_is_pressed := M_P_is_pressed
    F_P_run_clocks := F_P_run_clocks
    B_P_run_clocks := F_P_run_clocks.binds (ps := ["self"]) fun _ _ _ _ _ _ us hl => match us, hl with | [_], _ => rfl
    M_P_run_clocks := M_P_run_clocks
    F_P_is_ready := F_P_is_ready
    B_P_is_ready := F_P_is_ready.binds (ps := ["self", "stream"]) fun _ _ _ _ _ _ us hl => match us, hl with | [_, _], _ => rfl
    M_P_is_ready := M_P_is_ready
    F_P_heir := F_P_heir
    B_P_heir := F_P_heir.binds (ps := ["self", "stream"]) fun _ _ _ _ _ _ us hl => match us, hl with | [_, _], _ => rfl
    M_P_heir := M_P_heir
    F_P_end_colours := F_P_end_colours
    B_P_end_colours := F_P_end_colours.binds (ps := ["self"]) fun _ _ _ _ _ _ us hl => match us, hl with | [_], _ => rfl
    M_P_end_colours := M_P_end_colours
    F_P_begin_greens := F_P_begin_greens
    B_P_begin_greens := F_P_begin_greens.binds (ps := ["self"]) fun _ _ _ _ _ _ us hl => match us, hl with | [_], _ => rfl
    M_P_begin_greens := M_P_begin_greens
    F_P_begin_in_ring := F_P_begin_in_ring
    B_P_begin_in_ring := F_P_begin_in_ring.binds (ps := ["self", "ring", "some_green"]) fun _ _ _ _ _ _ us hl => match us, hl with | [_, _, _], _ => rfl
    M_P_begin_in_ring := M_P_begin_in_ring
    F_P_give_green := F_P_give_green
    B_P_give_green := F_P_give_green.binds (ps := ["self", "stream"]) fun _ _ _ _ _ _ us hl => match us, hl with | [_, _], _ => rfl
    M_P_give_green := M_P_give_green
    F_P_first_called := F_P_first_called
    B_P_first_called := F_P_first_called.binds (ps := ["self", "ring"]) fun _ _ _ _ _ _ us hl => match us, hl with | [_, _], _ => rfl
    M_P_first_called := M_P_first_called
    F_P_next_group := F_P_next_group
    B_P_next_group := F_P_next_group.binds (ps := ["self"]) fun _ _ _ _ _ _ us hl => match us, hl with | [_], _ => rfl
    M_P_next_group := M_P_next_group
    F_P_begin_next_group := F_P_begin_next_group
    B_P_begin_next_group := F_P_begin_next_group.binds (ps := ["self"]) fun _ _ _ _ _ _ us hl => match us, hl with | [_], _ => rfl
    M_P_begin_next_group := M_P_begin_next_group
    F_G_begin := F_G_begin
    B_G_begin := F_G_begin.binds (ps := ["crossings", "which", "n", "streams"]) fun _ _ _ _ _ _ us hl => match us, hl with | [_, _, _, _], _ => rfl
    g_G_begin := PySem.W.mg_of X G g_G_begin
    F_G_step := F_G_step
    B_G_step := F_G_step.binds (ps := ["crossing", "cars", "people", "first"]) fun _ _ _ _ _ _ us hl => match us, hl with | [_, _, _, _], _ => rfl
    g_G_step := PySem.W.mg_of X G g_G_step
    F_G_calls_of := F_G_calls_of
    B_G_calls_of := F_G_calls_of.binds (ps := ["crossing"]) fun _ _ _ _ _ _ us hl => match us, hl with | [_], _ => rfl
    g_G_calls_of := PySem.W.mg_of X G g_G_calls_of
    F_G_answers := F_G_answers
    B_G_answers := F_G_answers.binds (ps := ["calls"]) fun _ _ _ _ _ _ us hl => match us, hl with | [_], _ => rfl
    g_G_answers := PySem.W.mg_of X G g_G_answers
    g_RED := PySem.W.mg_of X G g_RED
    g_GREEN := PySem.W.mg_of X G g_GREEN
    g_YELLOW := PySem.W.mg_of X G g_YELLOW
    g_CLEARING := PySem.W.mg_of X G g_CLEARING
    g_ALWAYS_CALLED := PySem.W.mg_of X G g_ALWAYS_CALLED
    g_TILL_MOST := PySem.W.mg_of X G g_TILL_MOST
    g_KEEPS_CARS := PySem.W.mg_of X G g_KEEPS_CARS
    g_LOWEST := PySem.W.mg_of X G g_LOWEST
    w_LOWEST := w_LOWEST
    g_HIGHEST := PySem.W.mg_of X G g_HIGHEST
    w_HIGHEST := w_HIGHEST
    g_NUMBERS := PySem.W.mg_of X G g_NUMBERS
    g_RINGS := PySem.W.mg_of X G g_RINGS
    g_GROUPS := PySem.W.mg_of X G g_GROUPS
    g_MOST_STREAMS := PySem.W.mg_of X G g_MOST_STREAMS
    g_BEGIN := PySem.W.mg_of X G g_BEGIN
    g_STEP := PySem.W.mg_of X G g_STEP
    g_CROSSINGS := PySem.W.mg_of X G g_CROSSINGS
    g_NO_FIRST := PySem.W.mg_of X G g_NO_FIRST
    g_DONE := PySem.W.mg_of X G g_DONE
    g_NOT_ALLOWED := PySem.W.mg_of X G g_NOT_ALLOWED
    g_NOT_BEGUN := PySem.W.mg_of X G g_NOT_BEGUN
    g_len := PySem.W.mg_none_of X G z_len
    g_range := PySem.W.mg_none_of X G z_range
    g_min := PySem.W.mg_none_of X G z_min }
  have e := hfa.symm.trans (PySem.W.mg_of X G g_G_answers)
  cases e
  exact ⟨d_G_answers, binds_plain F_G_answers, fun base _ _ => ok_G_answers T⟩
end Xg

open PySem PySem.W PyProof.Rows
set_option maxRecDepth 100000 in
set_option maxHeartbeats 0 in
theorem PySem.Challenge.cw_crossgreen_s01_answers_holds : PySem.Challenge.rw_crossgreen_s01_answers.Holds := by
  w_on; k_headS; (case hw => exact ⟨[.list [.int 2, .int 0]], by decide +kernel, by decide +kernel⟩)
  k_fillS
  refine L2.walk_specK (r := PySem.Challenge.rw_crossgreen_s01_answers) (k := 9) (CX := L2.CX0) (ps := ["calls"]) (sp := Xg.spAns) (by decide +kernel) rfl rfl ⟨rfl, by decide, by decide⟩ (fun w h Y => PySem.W.kIn_of Y) ?F ?S (fun _ _ _ _ z => z)
  case F =>
    intro w mg fa h Y KX G hmg
    refine' Xg.all_mk KX G hmg ?aS ?pgS ?hdS ?poS ?saS ?mkS ?kcS ?nS_number ?nS_ring ?nS_group ?nS_least ?nS_gap ?nS_most ?nS_yellow ?nS_red ?nS_walk ?nS_clearance ?nS_mode ?nS_colour ?nS_time ?nS_gap_rest ?nS_waited ?nS_let_go ?nS_car_kept ?nS_button_kept ?aX ?pgX ?hdX ?poX ?saX ?mkX ?kcX ?nX_streams ?nX_group ?nX_latest ?aP ?pgP ?hdP ?poP ?saP ?mkP ?kcP ?nP_crossing ?nP_cars ?nP_people ?nP_first ?nP_called ?h_G_are_allowed ?h_G_of_one_ring_and_group ?h_G_cross ?h_G_bits_of ?h_S_init ?h_S_is_always_called ?h_S_is_till_most ?h_S_keeps_cars ?h_S_is_green ?h_S_is_yellow ?h_S_is_in_colour ?h_S_people_walk ?h_S_people_clear ?h_S_people_are_done ?h_S_hear ?h_S_is_called ?h_S_run_clock ?h_S_run_gap ?h_S_end_walk ?h_S_may_end ?h_S_take_colour ?h_S_become_green ?h_S_end_yellow_and_clearing ?h_G_has_allowed_streams ?h_X_init ?h_X_begin_group ?h_X_give_green ?h_X_in_colour ?h_X_is_all_red ?h_X_greens ?h_X_is_stuck ?h_X_lights ?h_X_remembered ?h_P_init ?h_P_run ?h_P_has_car ?h_P_has_button ?h_P_is_first ?h_P_is_crossed_by_first ?h_P_hear_calls ?h_P_is_pressed ?h_P_run_clocks ?h_P_is_ready ?h_P_heir ?h_P_end_colours ?h_P_begin_greens ?h_P_begin_in_ring ?h_P_give_green ?h_P_first_called ?h_P_next_group ?h_P_begin_next_group ?h_G_begin ?h_G_step ?h_G_calls_of ?h_G_answers ?c_RED ?c_GREEN ?c_YELLOW ?c_CLEARING ?c_ALWAYS_CALLED ?c_TILL_MOST ?c_KEEPS_CARS ?c_LOWEST ?c_HIGHEST ?c_NUMBERS ?c_RINGS ?c_GROUPS ?c_MOST_STREAMS ?c_BEGIN ?c_STEP ?c_CROSSINGS ?c_NO_FIRST ?c_DONE ?c_NOT_ALLOWED ?c_NOT_BEGUN ?z_len ?z_range ?z_min
    (case aS => k_is)
    (case pgS => k_is)
    (case hdS => k_is)
    (case poS => k_is)
    (case saS => k_is)
    (case mkS => k_is)
    (case kcS => k_is)
    (case nS_number => k_is)
    (case nS_ring => k_is)
    (case nS_group => k_is)
    (case nS_least => k_is)
    (case nS_gap => k_is)
    (case nS_most => k_is)
    (case nS_yellow => k_is)
    (case nS_red => k_is)
    (case nS_walk => k_is)
    (case nS_clearance => k_is)
    (case nS_mode => k_is)
    (case nS_colour => k_is)
    (case nS_time => k_is)
    (case nS_gap_rest => k_is)
    (case nS_waited => k_is)
    (case nS_let_go => k_is)
    (case nS_car_kept => k_is)
    (case nS_button_kept => k_is)
    (case aX => k_is)
    (case pgX => k_is)
    (case hdX => k_is)
    (case poX => k_is)
    (case saX => k_is)
    (case mkX => k_is)
    (case kcX => k_is)
    (case nX_streams => k_is)
    (case nX_group => k_is)
    (case nX_latest => k_is)
    (case aP => k_is)
    (case pgP => k_is)
    (case hdP => k_is)
    (case poP => k_is)
    (case saP => k_is)
    (case mkP => k_is)
    (case kcP => k_is)
    (case nP_crossing => k_is)
    (case nP_cars => k_is)
    (case nP_people => k_is)
    (case nP_first => k_is)
    (case nP_called => k_is)
    (case h_G_are_allowed => refine' Xg.fn_mk ?a1 ?l1 ?c1 ?k1; (case a1 => k_is); (case l1 => k_is); (case c1 => k_is); (case k1 => k_is))
    (case h_G_of_one_ring_and_group => refine' Xg.fn_mk ?a1 ?l1 ?c1 ?k1; (case a1 => k_is); (case l1 => k_is); (case c1 => k_is); (case k1 => k_is))
    (case h_G_cross => refine' Xg.fn_mk ?a1 ?l1 ?c1 ?k1; (case a1 => k_is); (case l1 => k_is); (case c1 => k_is); (case k1 => k_is))
    (case h_G_bits_of => refine' Xg.fn_mk ?a1 ?l1 ?c1 ?k1; (case a1 => k_is); (case l1 => k_is); (case c1 => k_is); (case k1 => k_is))
    (case h_S_init => refine' Xg.mth_mk ?a1 ?i1 ?l1 ?c1 ?k1; (case a1 => k_is); (case i1 => k_is); (case l1 => k_is); (case c1 => k_is); (case k1 => k_is))
    (case h_S_is_always_called => refine' Xg.mth_mk ?a1 ?i1 ?l1 ?c1 ?k1; (case a1 => k_is); (case i1 => k_is); (case l1 => k_is); (case c1 => k_is); (case k1 => k_is))
    (case h_S_is_till_most => refine' Xg.mth_mk ?a1 ?i1 ?l1 ?c1 ?k1; (case a1 => k_is); (case i1 => k_is); (case l1 => k_is); (case c1 => k_is); (case k1 => k_is))
    (case h_S_keeps_cars => refine' Xg.mth_mk ?a1 ?i1 ?l1 ?c1 ?k1; (case a1 => k_is); (case i1 => k_is); (case l1 => k_is); (case c1 => k_is); (case k1 => k_is))
    (case h_S_is_green => refine' Xg.mth_mk ?a1 ?i1 ?l1 ?c1 ?k1; (case a1 => k_is); (case i1 => k_is); (case l1 => k_is); (case c1 => k_is); (case k1 => k_is))
    (case h_S_is_yellow => refine' Xg.mth_mk ?a1 ?i1 ?l1 ?c1 ?k1; (case a1 => k_is); (case i1 => k_is); (case l1 => k_is); (case c1 => k_is); (case k1 => k_is))
    (case h_S_is_in_colour => refine' Xg.mth_mk ?a1 ?i1 ?l1 ?c1 ?k1; (case a1 => k_is); (case i1 => k_is); (case l1 => k_is); (case c1 => k_is); (case k1 => k_is))
    (case h_S_people_walk => refine' Xg.mth_mk ?a1 ?i1 ?l1 ?c1 ?k1; (case a1 => k_is); (case i1 => k_is); (case l1 => k_is); (case c1 => k_is); (case k1 => k_is))
    (case h_S_people_clear => refine' Xg.mth_mk ?a1 ?i1 ?l1 ?c1 ?k1; (case a1 => k_is); (case i1 => k_is); (case l1 => k_is); (case c1 => k_is); (case k1 => k_is))
    (case h_S_people_are_done => refine' Xg.mth_mk ?a1 ?i1 ?l1 ?c1 ?k1; (case a1 => k_is); (case i1 => k_is); (case l1 => k_is); (case c1 => k_is); (case k1 => k_is))
    (case h_S_hear => refine' Xg.mth_mk ?a1 ?i1 ?l1 ?c1 ?k1; (case a1 => k_is); (case i1 => k_is); (case l1 => k_is); (case c1 => k_is); (case k1 => k_is))
    (case h_S_is_called => refine' Xg.mth_mk ?a1 ?i1 ?l1 ?c1 ?k1; (case a1 => k_is); (case i1 => k_is); (case l1 => k_is); (case c1 => k_is); (case k1 => k_is))
    (case h_S_run_clock => refine' Xg.mth_mk ?a1 ?i1 ?l1 ?c1 ?k1; (case a1 => k_is); (case i1 => k_is); (case l1 => k_is); (case c1 => k_is); (case k1 => k_is))
    (case h_S_run_gap => refine' Xg.mth_mk ?a1 ?i1 ?l1 ?c1 ?k1; (case a1 => k_is); (case i1 => k_is); (case l1 => k_is); (case c1 => k_is); (case k1 => k_is))
    (case h_S_end_walk => refine' Xg.mth_mk ?a1 ?i1 ?l1 ?c1 ?k1; (case a1 => k_is); (case i1 => k_is); (case l1 => k_is); (case c1 => k_is); (case k1 => k_is))
    (case h_S_may_end => refine' Xg.mth_mk ?a1 ?i1 ?l1 ?c1 ?k1; (case a1 => k_is); (case i1 => k_is); (case l1 => k_is); (case c1 => k_is); (case k1 => k_is))
    (case h_S_take_colour => refine' Xg.mth_mk ?a1 ?i1 ?l1 ?c1 ?k1; (case a1 => k_is); (case i1 => k_is); (case l1 => k_is); (case c1 => k_is); (case k1 => k_is))
    (case h_S_become_green => refine' Xg.mth_mk ?a1 ?i1 ?l1 ?c1 ?k1; (case a1 => k_is); (case i1 => k_is); (case l1 => k_is); (case c1 => k_is); (case k1 => k_is))
    (case h_S_end_yellow_and_clearing => refine' Xg.mth_mk ?a1 ?i1 ?l1 ?c1 ?k1; (case a1 => k_is); (case i1 => k_is); (case l1 => k_is); (case c1 => k_is); (case k1 => k_is))
    (case h_G_has_allowed_streams => refine' Xg.fn_mk ?a1 ?l1 ?c1 ?k1; (case a1 => k_is); (case l1 => k_is); (case c1 => k_is); (case k1 => k_is))
    (case h_X_init => refine' Xg.mth_mk ?a1 ?i1 ?l1 ?c1 ?k1; (case a1 => k_is); (case i1 => k_is); (case l1 => k_is); (case c1 => k_is); (case k1 => k_is))
    (case h_X_begin_group => refine' Xg.mth_mk ?a1 ?i1 ?l1 ?c1 ?k1; (case a1 => k_is); (case i1 => k_is); (case l1 => k_is); (case c1 => k_is); (case k1 => k_is))
    (case h_X_give_green => refine' Xg.mth_mk ?a1 ?i1 ?l1 ?c1 ?k1; (case a1 => k_is); (case i1 => k_is); (case l1 => k_is); (case c1 => k_is); (case k1 => k_is))
    (case h_X_in_colour => refine' Xg.mth_mk ?a1 ?i1 ?l1 ?c1 ?k1; (case a1 => k_is); (case i1 => k_is); (case l1 => k_is); (case c1 => k_is); (case k1 => k_is))
    (case h_X_is_all_red => refine' Xg.mth_mk ?a1 ?i1 ?l1 ?c1 ?k1; (case a1 => k_is); (case i1 => k_is); (case l1 => k_is); (case c1 => k_is); (case k1 => k_is))
    (case h_X_greens => refine' Xg.mth_mk ?a1 ?i1 ?l1 ?c1 ?k1; (case a1 => k_is); (case i1 => k_is); (case l1 => k_is); (case c1 => k_is); (case k1 => k_is))
    (case h_X_is_stuck => refine' Xg.mth_mk ?a1 ?i1 ?l1 ?c1 ?k1; (case a1 => k_is); (case i1 => k_is); (case l1 => k_is); (case c1 => k_is); (case k1 => k_is))
    (case h_X_lights => refine' Xg.mth_mk ?a1 ?i1 ?l1 ?c1 ?k1; (case a1 => k_is); (case i1 => k_is); (case l1 => k_is); (case c1 => k_is); (case k1 => k_is))
    (case h_X_remembered => refine' Xg.mth_mk ?a1 ?i1 ?l1 ?c1 ?k1; (case a1 => k_is); (case i1 => k_is); (case l1 => k_is); (case c1 => k_is); (case k1 => k_is))
    (case h_P_init => refine' Xg.mth_mk ?a1 ?i1 ?l1 ?c1 ?k1; (case a1 => k_is); (case i1 => k_is); (case l1 => k_is); (case c1 => k_is); (case k1 => k_is))
    (case h_P_run => refine' Xg.mth_mk ?a1 ?i1 ?l1 ?c1 ?k1; (case a1 => k_is); (case i1 => k_is); (case l1 => k_is); (case c1 => k_is); (case k1 => k_is))
    (case h_P_has_car => refine' Xg.mth_mk ?a1 ?i1 ?l1 ?c1 ?k1; (case a1 => k_is); (case i1 => k_is); (case l1 => k_is); (case c1 => k_is); (case k1 => k_is))
    (case h_P_has_button => refine' Xg.mth_mk ?a1 ?i1 ?l1 ?c1 ?k1; (case a1 => k_is); (case i1 => k_is); (case l1 => k_is); (case c1 => k_is); (case k1 => k_is))
    (case h_P_is_first => refine' Xg.mth_mk ?a1 ?i1 ?l1 ?c1 ?k1; (case a1 => k_is); (case i1 => k_is); (case l1 => k_is); (case c1 => k_is); (case k1 => k_is))
    (case h_P_is_crossed_by_first => refine' Xg.mth_mk ?a1 ?i1 ?l1 ?c1 ?k1; (case a1 => k_is); (case i1 => k_is); (case l1 => k_is); (case c1 => k_is); (case k1 => k_is))
    (case h_P_hear_calls => refine' Xg.mth_mk ?a1 ?i1 ?l1 ?c1 ?k1; (case a1 => k_is); (case i1 => k_is); (case l1 => k_is); (case c1 => k_is); (case k1 => k_is))
    (case h_P_is_pressed => refine' Xg.mth_mk ?a1 ?i1 ?l1 ?c1 ?k1; (case a1 => k_is); (case i1 => k_is); (case l1 => k_is); (case c1 => k_is); (case k1 => k_is))
    (case h_P_run_clocks => refine' Xg.mth_mk ?a1 ?i1 ?l1 ?c1 ?k1; (case a1 => k_is); (case i1 => k_is); (case l1 => k_is); (case c1 => k_is); (case k1 => k_is))
    (case h_P_is_ready => refine' Xg.mth_mk ?a1 ?i1 ?l1 ?c1 ?k1; (case a1 => k_is); (case i1 => k_is); (case l1 => k_is); (case c1 => k_is); (case k1 => k_is))
    (case h_P_heir => refine' Xg.mth_mk ?a1 ?i1 ?l1 ?c1 ?k1; (case a1 => k_is); (case i1 => k_is); (case l1 => k_is); (case c1 => k_is); (case k1 => k_is))
    (case h_P_end_colours => refine' Xg.mth_mk ?a1 ?i1 ?l1 ?c1 ?k1; (case a1 => k_is); (case i1 => k_is); (case l1 => k_is); (case c1 => k_is); (case k1 => k_is))
    (case h_P_begin_greens => refine' Xg.mth_mk ?a1 ?i1 ?l1 ?c1 ?k1; (case a1 => k_is); (case i1 => k_is); (case l1 => k_is); (case c1 => k_is); (case k1 => k_is))
    (case h_P_begin_in_ring => refine' Xg.mth_mk ?a1 ?i1 ?l1 ?c1 ?k1; (case a1 => k_is); (case i1 => k_is); (case l1 => k_is); (case c1 => k_is); (case k1 => k_is))
    (case h_P_give_green => refine' Xg.mth_mk ?a1 ?i1 ?l1 ?c1 ?k1; (case a1 => k_is); (case i1 => k_is); (case l1 => k_is); (case c1 => k_is); (case k1 => k_is))
    (case h_P_first_called => refine' Xg.mth_mk ?a1 ?i1 ?l1 ?c1 ?k1; (case a1 => k_is); (case i1 => k_is); (case l1 => k_is); (case c1 => k_is); (case k1 => k_is))
    (case h_P_next_group => refine' Xg.mth_mk ?a1 ?i1 ?l1 ?c1 ?k1; (case a1 => k_is); (case i1 => k_is); (case l1 => k_is); (case c1 => k_is); (case k1 => k_is))
    (case h_P_begin_next_group => refine' Xg.mth_mk ?a1 ?i1 ?l1 ?c1 ?k1; (case a1 => k_is); (case i1 => k_is); (case l1 => k_is); (case c1 => k_is); (case k1 => k_is))
    (case h_G_begin => refine' Xg.fn_mk ?a1 ?l1 ?c1 ?k1; (case a1 => k_is); (case l1 => k_is); (case c1 => k_is); (case k1 => k_is))
    (case h_G_step => refine' Xg.fn_mk ?a1 ?l1 ?c1 ?k1; (case a1 => k_is); (case l1 => k_is); (case c1 => k_is); (case k1 => k_is))
    (case h_G_calls_of => refine' Xg.fn_mk ?a1 ?l1 ?c1 ?k1; (case a1 => k_is); (case l1 => k_is); (case c1 => k_is); (case k1 => k_is))
    (case h_G_answers => refine' Xg.fn_mk ?a1 ?l1 ?c1 ?k1; (case a1 => k_is); (case l1 => k_is); (case c1 => k_is); (case k1 => k_is))
    (case c_RED => refine' Xg.int_mk ?a1; (case a1 => k_is))
    (case c_GREEN => refine' Xg.int_mk ?a1; (case a1 => k_is))
    (case c_YELLOW => refine' Xg.int_mk ?a1; (case a1 => k_is))
    (case c_CLEARING => refine' Xg.int_mk ?a1; (case a1 => k_is))
    (case c_ALWAYS_CALLED => refine' Xg.int_mk ?a1; (case a1 => k_is))
    (case c_TILL_MOST => refine' Xg.int_mk ?a1; (case a1 => k_is))
    (case c_KEEPS_CARS => refine' Xg.int_mk ?a1; (case a1 => k_is))
    (case c_LOWEST => refine' Xg.tup_mk ?a1 ?l1 ?s1 ?v1; (case a1 => k_is); (case l1 => k_is); (case s1 => decide); (case v1 => exact (.cons ⟨_, rfl⟩ (.cons ⟨_, rfl⟩ (.cons ⟨_, rfl⟩ (.cons ⟨_, rfl⟩ (.cons ⟨_, rfl⟩ (.cons ⟨_, rfl⟩ (.cons ⟨_, rfl⟩ (.cons ⟨_, rfl⟩ (.cons ⟨_, rfl⟩ (.cons ⟨_, rfl⟩ .nil))))))))))))
    (case c_HIGHEST => refine' Xg.tup_mk ?a1 ?l1 ?s1 ?v1; (case a1 => k_is); (case l1 => k_is); (case s1 => decide); (case v1 => exact (.cons ⟨_, rfl⟩ (.cons ⟨_, rfl⟩ (.cons ⟨_, rfl⟩ (.cons ⟨_, rfl⟩ (.cons ⟨_, rfl⟩ (.cons ⟨_, rfl⟩ (.cons ⟨_, rfl⟩ (.cons ⟨_, rfl⟩ (.cons ⟨_, rfl⟩ (.cons ⟨_, rfl⟩ .nil))))))))))))
    (case c_NUMBERS => refine' Xg.int_mk ?a1; (case a1 => k_is))
    (case c_RINGS => refine' Xg.int_mk ?a1; (case a1 => k_is))
    (case c_GROUPS => refine' Xg.int_mk ?a1; (case a1 => k_is))
    (case c_MOST_STREAMS => refine' Xg.int_mk ?a1; (case a1 => k_is))
    (case c_BEGIN => refine' Xg.int_mk ?a1; (case a1 => k_is))
    (case c_STEP => refine' Xg.int_mk ?a1; (case a1 => k_is))
    (case c_CROSSINGS => refine' Xg.int_mk ?a1; (case a1 => k_is))
    (case c_NO_FIRST => refine' Xg.int_mk ?a1; (case a1 => k_is))
    (case c_DONE => refine' Xg.int_mk ?a1; (case a1 => k_is))
    (case c_NOT_ALLOWED => refine' Xg.int_mk ?a1; (case a1 => k_is))
    (case c_NOT_BEGUN => refine' Xg.int_mk ?a1; (case a1 => k_is))
    (case z_len => k_is)
    (case z_range => k_is)
    (case z_min => k_is)
  case S =>
    intro K H xs a hO hwi hask hx
    cases hx with
    | cons h1 h2 =>
      cases h2
      cases h1 with
      | lst hs ha =>
        have e := L2.ints_dw a.1 _ ha
        subst e
        have q : PySa38.answers_asked a.1 = true := hask
        obtain ⟨raws, h1, h2, h3, h4⟩ := Xg.mirror_is q
        refine ⟨_, a.1, raws, rfl, hs, h1, h2, h3, fun H' p hp => ?_⟩
        have hp' : H' p = some (.lst ((PySa38.answers a.1).map L2.V.int)) := by
          rw [h4]
          exact hp
        exact .lst (L2.SqL.of hp') (L2.dw_ints _)
#print axioms PySem.Challenge.cw_crossgreen_s01_answers_holds
