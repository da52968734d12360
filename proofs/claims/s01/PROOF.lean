import PyProof.Rows.All
import Wide.All
import OpenK.AllK
import Wide.FinOn
import Open.SpecLaws
import KE.OsGo
import HandS.ForSpec
import HandS.Comp
import HandS.Conv
import HandS.SetFor
import PySem.Challenge.RW_poolreferee_s01_answers
set_option Elab.async false
set_option linter.all false
set_option maxRecDepth 100000
set_option maxHeartbeats 4000000
namespace Pr
open Kg78

/-! ### the mirror -/
/-- a race as the program holds it; over: it has ended (what else stands is then old) -/
structure R where
  sort : Nat
  to : Nat
  turns : Bool
  a : Nat
  b : Nat
  over : Bool
  broke : Nat
  push : Bool
  rk : Rack
/-- a shot as it is told -/
structure SI where
  first : Int
  cushions : Int
  lost : Int
  called : Int
  push : Int
  potted : List Int

def R.made (k n : Nat) (t : Bool) (w : Nat) : R := ⟨k, n, t, 0, 0, false, w, false, fresh k w⟩
def R.rackUp (r : R) (n : Nat) : R := { r with broke := n, push := false, rk := fresh r.sort n }
def R.takeOff (r : R) (l : List Int) : R := { r with rk := { r.rk with balls := r.rk.balls.filter fun b => !l.contains (b : Int) || b == r.sort } }
def R.playOn (r : R) (ph : Nat) : R := { r with rk := { r.rk with phase := ph, hand := false } }
def R.pass (r : R) (ph : Nat) (h : Bool) : R := { r with rk := { r.rk with who := 1 - r.rk.who, phase := ph, hand := h } }
def R.letChoose (r : R) (p : Bool) : R := { r.pass 3 false with push := p }
def R.won (r : R) (w : Nat) : R := if w = 0 then { r with a := r.a + 1 } else { r with b := r.b + 1 }
def R.score (r : R) (w : Nat) : Nat := if w = 0 then r.a else r.b
def R.endRack (r : R) (w : Nat) : R :=
  if (r.won w).score w = r.to then { r.won w with over := true }
  else (r.won w).rackUp (if r.turns = true then 1 - r.broke else w)
def R.stand (r : R) : List Int :=
  if r.over = true then [(r.a : Int), (r.b : Int)]
  else [(r.a : Int), (r.b : Int), (r.rk.who : Int), (r.rk.phase : Int), (truth r.rk.hand : Int), (r.rk.balls.length : Int)]
def R.details (r : R) : List Int := [(r.rk.group : Int), (r.rk.foulsA : Int), (r.rk.foulsB : Int), (r.broke : Int), (truth r.push : Int)]

def foulC (x : SI) (right : List Int) : Bool := decide (x.lost = 1) || (!right.contains x.first || (x.potted.isEmpty && decide (x.cushions = 0)))
def weak (x : SI) : Bool := x.potted.isEmpty && decide (x.cushions < 4)
def grp (z : Int) : Nat := if z < 8 then 1 else 2
/-- the group of the side whose turn it is -/
def R.side (r : R) (w : Nat) : Nat := if w = 0 then r.rk.group else (if r.rk.group = 0 then 0 else 3 - r.rk.group)
def R.left (r : R) : List Nat := r.rk.balls.filter fun b => b != 8 && (r.side r.rk.who == 0 || r.side r.rk.who == grp (b : Int))
def R.right8 (r : R) : List Nat := if r.rk.phase = 0 then r.rk.balls else if r.left.isEmpty = true then [8] else r.left
def R.right9 (r : R) : List Nat := [lowest r.rk.balls]
def R.give (r : R) (w g : Nat) : R := { r with rk := { r.rk with group := if w = 0 then g else 3 - g } }
def R.goBreak (r : R) (x : SI) : R := if weak x = true then r.letChoose false else if x.potted.isEmpty = true then r.pass 2 false else r.playOn 2
def R.given (r : R) (x : SI) : R := if x.potted.contains x.called = true ∧ r.side r.rk.who = 0 then r.give r.rk.who (grp x.called) else r
def R.goPlay (r : R) (x : SI) : R :=
  if x.potted.contains x.called = true ∧ (r.given x).side r.rk.who = grp x.called then (r.given x).playOn 2 else (r.given x).pass 2 false
def R.winner8 (r : R) (x : SI) : Nat :=
  if foulC x (whole r.right8) = false ∧ r.right8 = [8] ∧ x.called = 8 then r.rk.who else 1 - r.rk.who
def R.shot8 (r : R) (x : SI) : R × Nat :=
  if r.rk.phase ≠ 0 ∧ x.potted.contains 8 = true then (r.endRack (r.winner8 x), 2 + r.winner8 x)
  else if foulC x (whole r.right8) = true then ((r.takeOff x.potted).pass 2 true, 1)
  else if r.rk.phase = 0 then ((r.takeOff x.potted).goBreak x, 0)
  else ((r.takeOff x.potted).goPlay x, 0)
def R.foul9 (r : R) (x : SI) : Bool :=
  if x.push = 1 then decide (x.lost = 1) else if r.rk.phase = 0 ∧ weak x = true then true else foulC x (whole r.right9)
def R.behind (r : R) : Nat := if r.rk.phase = 0 then 1 else 2
def R.fouls (r : R) (w : Nat) : Nat := if w = 0 then r.rk.foulsA else r.rk.foulsB
def R.setFouls (r : R) (w n : Nat) : R := { r with rk := r.rk.setFouls w n }
def R.goFoul (r : R) : R × Nat :=
  if r.fouls r.rk.who + 1 = 3 then ((r.setFouls r.rk.who (r.fouls r.rk.who + 1)).endRack (1 - r.rk.who), 2 + (1 - r.rk.who))
  else ((r.setFouls r.rk.who (r.fouls r.rk.who + 1)).pass r.behind true, 1)
def R.fair9 (r : R) (x : SI) : R × Nat :=
  if x.potted.contains 9 = true then ((r.setFouls r.rk.who 0).endRack r.rk.who, 2 + r.rk.who)
  else if x.potted.isEmpty = true then ((r.setFouls r.rk.who 0).pass r.behind false, 0)
  else ((r.setFouls r.rk.who 0).playOn r.behind, 0)
def R.shot9 (r : R) (x : SI) : R × Nat :=
  if r.foul9 x = true then (r.takeOff x.potted).goFoul
  else if x.push = 1 then ((r.takeOff x.potted).letChoose true, 0)
  else (r.takeOff x.potted).fair9 x
def R.shot (r : R) (x : SI) : R × Nat := if r.sort = 8 then r.shot8 x else r.shot9 x
def R.right (r : R) : List Nat := if r.sort = 8 then r.right8 else r.right9
def R.chosen (r : R) (n : Int) : R :=
  if n = 0 then { r with push := false }.playOn 2
  else if r.push = true then { r with push := false }.pass 2 false
  else { r with push := false }.rackUp r.rk.who

/-! refusals -/
def bad01 (z : Int) : Bool := !(decide (z = 0) || decide (z = 1))
def in15 (z : Int) : Bool := decide (0 ≤ z) && decide (z ≤ 15)
def refBegin (k n t w : Int) : Int :=
  if !(decide (k = 8) || decide (k = 9)) || !(decide (1 ≤ n) && decide (n ≤ 30)) then -1
  else if bad01 t || bad01 w then -1 else 0
def goes : Option R → Bool
  | none => false
  | some r => !r.over
def numbersOk (x : SI) : Bool :=
  (in15 x.first && (in15 x.called && in15 x.cushions)) && (!(bad01 x.lost || bad01 x.push) && x.potted.all fun z => decide (1 ≤ z) && decide (z ≤ 15))
def R.has (r : R) (z : Int) : Bool := (whole r.rk.balls).contains z
def R.fits (r : R) (x : SI) : Bool :=
  (decide (x.first = 0) || r.has x.first) && ((decide (x.called = 0) || r.has x.called) && x.potted.all fun z => r.has z && decide (x.potted.count z = 1))
def R.mayBe (r : R) (x : SI) : Bool :=
  !(decide (x.push = 1) && !decide (r.rk.phase = 1)) && (!decide (x.first = 0) || (decide (x.cushions = 0) && x.potted.isEmpty))
def refShot (o : Option R) (x : SI) : Int :=
  if numbersOk x = false then -1 else match o with
  | none => -2
  | some r => if r.over = true then -2 else if r.rk.phase = 3 then -3 else if r.fits x = false then -4 else if r.mayBe x = false then -5 else 0
def refChoose (o : Option R) (n : Int) : Int :=
  if bad01 n = true then -1 else match o with
  | none => -2
  | some r => if r.over = true then -2 else if r.rk.phase = 3 then 0 else -3
def refLook (o : Option R) : Int := if goes o = true then 0 else -2

def counted (l : List Nat) : List Int := (l.length : Int) :: whole l
/-- a call: the race then, the numbers that are answered -/
def step (o : Option R) (c : Call) : Option R × List Int := match c with
  | .begin_ k n t w => (if refBegin k n t w = 0 then some (R.made k.toNat n.toNat (t == 1) w.toNat) else o, [refBegin k n t w])
  | .shot f cu lo ca pu l => if refShot o ⟨f, cu, lo, ca, pu, l⟩ < 0 then (o, [refShot o ⟨f, cu, lo, ca, pu, l⟩]) else match o with
    | none => (none, [])
    | some r => (some (r.shot ⟨f, cu, lo, ca, pu, l⟩).1, ((r.shot ⟨f, cu, lo, ca, pu, l⟩).2 : Int) :: (r.shot ⟨f, cu, lo, ca, pu, l⟩).1.stand)
  | .choose n => if refChoose o n < 0 then (o, [refChoose o n]) else match o with
    | none => (none, [])
    | some r => (some (r.chosen n), n :: (r.chosen n).stand)
  | .on => if refLook o < 0 then (o, [refLook o]) else match o with
    | none => (none, [])
    | some r => (o, counted r.right)
  | .now => match o with
    | none => (none, [0, 0, 0])
    | some r => (o, if r.over = true then 0 :: r.stand else 1 :: (r.stand ++ r.details))
  | .table => if refLook o < 0 then (o, [refLook o]) else match o with
    | none => (none, [])
    | some r => (o, counted r.rk.balls)

/-! what holds of a race that goes on -/
structure Ok (r : R) : Prop where
  live : r.over = false
  sort : r.sort = 8 ∨ r.sort = 9
  who : r.rk.who ≤ 1
  broke : r.broke ≤ 1
  phase : r.rk.phase ≤ 3
  ph8 : r.sort = 8 → r.rk.phase ≠ 1
  push : r.push = true → r.rk.phase = 3
  hand : r.rk.phase = 3 → r.rk.hand = false
  group : r.rk.group ≤ 2
  fA : r.rk.foulsA ≤ 2
  fB : r.rk.foulsB ≤ 2
  balls : ∀ b ∈ r.rk.balls, 1 ≤ b ∧ b ≤ 15
  len : r.rk.balls.length ≤ 15
  last : r.sort ∈ r.rk.balls
  asc : r.rk.balls.Pairwise (· < ·)
  sa : r.a < r.to
  sb : r.b < r.to
def OkO : Option R → Prop
  | none => True
  | some r => (r.over = true ∧ r.push = false) ∨ Ok r

def R.abs (r : R) : State := ⟨r.sort, r.to, r.turns, r.a, r.b, if r.over = true then none else some r.rk, r.broke, r.push⟩
def absO : Option R → State
  | none => init
  | some r => r.abs
end Pr
namespace Pr
open Kg78
/-- a call as it stands in the list -/
def flat : Call → List Int
  | .begin_ k n t w => [1, k, n, t, w]
  | .shot f cu lo ca pu l => 2 :: f :: cu :: lo :: ca :: pu :: (l.length : Int) :: l
  | .choose n => [3, n]
  | .on => [4]
  | .now => [5]
  | .table => [6]
def Bd : Call → Prop
  | .shot _ _ _ _ _ l => l.length ≤ 16
  | _ => True
/-- what is answered in all -/
def outs : Option R → List Call → List Int
  | _, [] => []
  | o, c :: r => ((step o c).2.length : Int) :: (step o c).2 ++ outs (step o c).1 r
end Pr
namespace Pr
open Kg78

/-! ### lists -/
theorem cont_whole (l : List Nat) (b : Nat) : (whole l).contains (b : Int) = l.contains b := by
  rw [Bool.eq_iff_iff, List.contains_iff_mem, List.contains_iff_mem]
  unfold whole
  rw [List.mem_map]
  constructor
  · rintro ⟨n, h, e⟩
    have : n = b := by omega
    rw [← this]; exact h
  · intro h
    exact ⟨b, h, rfl⟩
theorem cont_int (l : List Nat) {z : Int} (h : 0 ≤ z) : (whole l).contains z = l.contains z.toNat := by
  have e : z = ((z.toNat : Nat) : Int) := by omega
  rw [e, cont_whole]
  rfl
theorem cont_nat {l : List Int} (h : ∀ z ∈ l, 0 ≤ z) (b : Nat) : (l.map Int.toNat).contains b = l.contains (b : Int) := by
  rw [Bool.eq_iff_iff, List.contains_iff_mem, List.contains_iff_mem, List.mem_map]
  constructor
  · rintro ⟨z, hz, e⟩
    have := h z hz
    have e2 : (b : Int) = z := by omega
    rw [e2]; exact hz
  · intro hz
    exact ⟨b, hz, rfl⟩
theorem filter_one : ∀ {l : List Nat} {v : Nat}, l.Pairwise (· < ·) → v ∈ l → l.filter (fun b => b == v) = [v]
  | [], v, _, h => by cases h
  | a :: l, v, hp, h => by
    rw [List.pairwise_cons] at hp
    by_cases e : a = v
    · subst e
      rw [List.filter_cons, if_pos (by simp)]
      have : l.filter (fun b => b == a) = [] := by
        rw [List.filter_eq_nil_iff]
        intro b hb
        have := hp.1 b hb
        simp
        omega
      rw [this]
    · rw [List.filter_cons, if_neg (by simp [e])]
      rcases List.mem_cons.mp h with z | z
      · exact absurd z.symm e
      · exact filter_one hp.2 z
theorem nodup_count {l : List Int} : (∀ z ∈ l, l.count z = 1) ↔ l.Nodup := by
  induction l with
  | nil => simp
  | cons a l ih =>
    rw [List.nodup_cons]
    constructor
    · intro h
      have ha : a ∉ l := by
        have := h a List.mem_cons_self
        rw [List.count_cons_self] at this
        exact List.count_eq_zero.mp (by omega)
      refine ⟨ha, ih.mp fun z hz => ?_⟩
      have := h z (List.mem_cons_of_mem _ hz)
      have ne : a ≠ z := fun e => ha (e ▸ hz)
      rw [List.count_cons_of_ne ne] at this
      exact this
    · rintro ⟨ha, hl⟩ z hz
      by_cases e : a = z
      · subst e
        rw [List.count_cons_self, List.count_eq_zero.mpr ha]
      · rw [List.count_cons_of_ne e]
        rcases List.mem_cons.mp hz with q | q
        · exact absurd q.symm e
        · exact ih.mpr hl z q
/-! ### the right balls -/
theorem side_mine {r : R} (h : r.rk.who ≤ 1) : r.side r.rk.who = r.rk.mine := by
  unfold R.side Rack.mine
  rcases Nat.le_one_iff_eq_zero_or_eq_one.mp h with e | e <;> rw [e] <;> simp
theorem mine_zero {r : R} (h : r.rk.group ≤ 2) : r.rk.mine = 0 ↔ r.rk.group = 0 := by
  unfold Rack.mine
  split
  · simp [*]
  · rename_i h0
    split
    · rfl
    · omega
theorem grp_of {b : Nat} (h : b ≠ 8) : grp (b : Int) = groupOf b := by
  unfold grp groupOf
  split
  · rw [if_pos (show b < 8 by omega)]
  · rw [if_neg (show ¬ b < 8 by omega)]
theorem left_eq {r : R} (o : Ok r) (hn : r.rk.onEight = false) : r.left = r.rk.balls.filter fun b => if r.rk.group = 0 then b != 8 else groupOf b == r.rk.mine := by
  unfold R.left
  rw [side_mine o.who]
  refine List.filter_congr fun b hb => ?_
  by_cases hg : r.rk.group = 0
  · rw [if_pos hg, (mine_zero o.group).mpr hg]
    simp
  · rw [if_neg hg]
    have hm : r.rk.mine ≠ 0 := fun z => hg ((mine_zero o.group).mp z)
    by_cases h8 : b = 8
    · subst h8
      simp [groupOf]
      omega
    · rw [grp_of h8]
      have e1 : (b != 8) = true := by simpa using h8
      have e2 : (r.rk.mine == 0) = false := by simpa using hm
      rw [e1, e2, Bool.true_and, Bool.false_or]
      exact Bool.beq_comm
theorem left_nil {r : R} (o : Ok r) : r.left.isEmpty = r.rk.onEight := by
  unfold R.left Rack.onEight
  rw [side_mine o.who, Bool.eq_iff_iff, List.isEmpty_iff, List.filter_eq_nil_iff]
  by_cases hm : r.rk.mine = 0
  · rw [if_pos hm, hm]
    simp
  · rw [if_neg hm]
    simp [hm]
    constructor
    · intro h b hb hg
      have h8 : b ≠ 8 := fun z => by subst z; exact hm hg.symm
      exact h b hb h8 ((grp_of h8).trans hg).symm
    · intro h b hb h8 hg
      exact h b hb (hg.trans (grp_of h8)).symm
theorem right8_may {r : R} (o : Ok r) (hs : r.sort = 8) : r.right8 = r.rk.may 8 := by
  unfold R.right8 Rack.may
  have pos : ∀ b ∈ r.rk.balls, b ≠ 0 := fun b hb => by have := (o.balls b hb).1; omega
  by_cases h0 : r.rk.phase = 0
  · rw [if_pos h0]
    refine (List.filter_eq_self.mpr fun b hb => ?_).symm
    unfold Rack.right
    rw [if_neg (pos b hb), if_neg (by decide), if_pos h0]
  · rw [if_neg h0, left_nil o]
    by_cases h8 : r.rk.onEight = true
    · rw [if_pos h8]
      have e : r.rk.balls.filter (fun b => r.rk.right 8 b) = r.rk.balls.filter fun b => b == 8 := List.filter_congr fun b hb => by
        unfold Rack.right
        rw [if_neg (pos b hb), if_neg (by decide), if_neg h0, if_pos h8]
      rw [e]
      have := o.last
      rw [hs] at this
      exact (filter_one o.asc this).symm
    · rw [if_neg h8, left_eq o (by simpa using h8)]
      refine List.filter_congr fun b hb => ?_
      unfold Rack.right
      rw [if_neg (pos b hb), if_neg (show ¬ (8 = 9) by decide), if_neg h0, if_neg h8]
end Pr
namespace Pr
open Kg78
theorem low_fold : ∀ (l : List Nat) (m : Nat), (∀ b ∈ l, 1 ≤ b) → 1 ≤ m → (l.foldl (fun m b => if m = 0 ∨ b < m then b else m) m = m ∨ l.foldl (fun m b => if m = 0 ∨ b < m then b else m) m ∈ l)
  | [], m, _, _ => .inl rfl
  | a :: l, m, h, hm => by
    have ha := h a List.mem_cons_self
    have hl : ∀ b ∈ l, 1 ≤ b := fun b q => h b (List.mem_cons_of_mem _ q)
    rw [List.foldl_cons]
    split
    · rcases low_fold l a hl ha with q | q
      · exact .inr (by rw [q]; exact List.mem_cons_self)
      · exact .inr (List.mem_cons_of_mem _ q)
    · rcases low_fold l m hl hm with q | q
      · exact .inl q
      · exact .inr (List.mem_cons_of_mem _ q)
theorem low_mem {l : List Nat} (h : ∀ b ∈ l, 1 ≤ b) (ne : l ≠ []) : lowest l ∈ l := by
  match l, ne with
  | a :: l, _ =>
    unfold lowest
    rw [List.foldl_cons, if_pos (.inl rfl)]
    rcases low_fold l a (fun b q => h b (List.mem_cons_of_mem _ q)) (h a List.mem_cons_self) with q | q
    · rw [q]; exact List.mem_cons_self
    · exact List.mem_cons_of_mem _ q
theorem Ok.pos {r : R} (o : Ok r) : ∀ b ∈ r.rk.balls, 1 ≤ b := fun b h => (o.balls b h).1
theorem Ok.ne {r : R} (o : Ok r) : r.rk.balls ≠ [] := fun z => by
  have := o.last
  rw [z] at this
  cases this
theorem right9_may {r : R} (o : Ok r) : r.right9 = r.rk.may 9 := by
  unfold R.right9 Rack.may
  have hl := low_mem o.pos o.ne
  rw [← filter_one o.asc hl]
  refine List.filter_congr fun b hb => ?_
  unfold Rack.right
  rw [if_neg (show ¬ b = 0 by have := o.pos b hb; omega), if_pos rfl]
theorem right_may {r : R} (o : Ok r) : r.right = r.rk.may r.sort := by
  unfold R.right
  rcases o.sort with h | h
  · rw [if_pos h, h]
    exact right8_may o h
  · rw [if_neg (by omega), h]
    exact right9_may o
/-- what a shot's numbers are once they aren't refused -/
structure Fit (r : R) (x : SI) : Prop where
  f0 : 0 ≤ x.first
  c0 : 0 ≤ x.cushions
  k0 : 0 ≤ x.called
  lo : x.lost = 0 ∨ x.lost = 1
  pu : x.push = 0 ∨ x.push = 1
  fb : x.first = 0 ∨ x.first.toNat ∈ r.rk.balls
  pp : ∀ z ∈ x.potted, 1 ≤ z ∧ z.toNat ∈ r.rk.balls
  psh : x.push = 1 → r.sort = 9 ∧ r.rk.phase = 1
  nob : x.first = 0 → x.potted = [] ∧ x.cushions = 0
  ph : r.rk.phase ≠ 3
def SI.nat (x : SI) : Shot := ⟨x.first.toNat, x.potted.map Int.toNat, x.cushions.toNat, x.lost == 1, x.called.toNat⟩
theorem Fit.p0 {r : R} {x : SI} (f : Fit r x) : ∀ z ∈ x.potted, 0 ≤ z := fun z h => by have := (f.pp z h).1; omega
theorem cont_may {r : R} {x : SI} (f : Fit r x) (s : Nat) : (whole (r.rk.may s)).contains x.first = r.rk.right s x.first.toNat := by
  rw [cont_int _ f.f0]
  unfold Rack.may
  rw [Bool.eq_iff_iff, List.contains_iff_mem, List.mem_filter]
  constructor
  · exact fun h => h.2
  · intro h
    refine ⟨?_, h⟩
    rcases f.fb with z | z
    · unfold Rack.right at h
      rw [z, if_pos (show Int.toNat 0 = 0 from rfl)] at h
      cases h
    · exact z
theorem pot_empty (x : SI) : x.nat.potted.isEmpty = x.potted.isEmpty := by
  show (x.potted.map Int.toNat).isEmpty = _
  cases x.potted <;> rfl
theorem foul_eq {r : R} {x : SI} (f : Fit r x) (s : Nat) : foulC x (whole (r.rk.may s)) = r.rk.foul s x.nat := by
  unfold foulC Rack.foul
  rw [cont_may f, pot_empty]
  have e1 : decide (x.lost = 1) = x.nat.lost := rfl
  have e2 : decide (x.cushions = 0) = (x.nat.cushions == 0) := by
    show _ = (x.cushions.toNat == 0)
    rw [Bool.eq_iff_iff, decide_eq_true_eq, beq_iff_eq]
    have := f.c0
    omega
  rw [e1, e2]
  rfl
theorem weak_eq {r : R} {x : SI} (f : Fit r x) : weak x = (x.nat.potted.isEmpty && decide (x.nat.cushions < BREAK)) := by
  unfold weak BREAK
  rw [pot_empty]
  have e : decide (x.cushions < 4) = decide (x.nat.cushions < 4) := by
    show _ = decide (x.cushions.toNat < 4)
    rw [decide_eq_decide]
    have := f.c0
    omega
  rw [e]
theorem pot_cont {r : R} {x : SI} (f : Fit r x) (b : Nat) : x.nat.potted.contains b = x.potted.contains (b : Int) := cont_nat f.p0 b
theorem take_eq {r : R} {x : SI} (f : Fit r x) : (r.takeOff x.potted).rk.balls = without r.rk.balls (x.nat.potted.filter fun b => b != r.sort) := by
  show r.rk.balls.filter _ = r.rk.balls.filter _
  refine List.filter_congr fun b hb => ?_
  rw [← pot_cont f, Bool.eq_iff_iff]
  simp only [Bool.or_eq_true, Bool.not_eq_true', beq_iff_eq, List.contains_eq_mem, decide_eq_false_iff_not, List.mem_filter, bne_iff_ne, ne_eq, not_and, Decidable.not_not]
  constructor
  · rintro (h | h)
    · exact fun z => absurd z h
    · exact fun _ => h
  · intro h
    by_cases q : b ∈ x.nat.potted
    · exact .inr (h q)
    · exact .inl q
theorem take_all {r : R} {x : SI} (f : Fit r x) (h : x.potted.contains (r.sort : Int) = false) : (r.takeOff x.potted).rk.balls = without r.rk.balls x.nat.potted := by
  rw [take_eq f]
  refine congrArg (without r.rk.balls) (List.filter_eq_self.mpr fun b hb => ?_)
  rw [← pot_cont f] at h
  have : b ≠ r.sort := fun z => by
    rw [z] at hb
    rw [List.contains_iff_mem.mpr hb] at h
    cases h
  simpa using this
theorem take_rk (r : R) (l : List Int) : (r.takeOff l).rk = { r.rk with balls := (r.takeOff l).rk.balls } := rfl
/-- the balls that stay -/
theorem take_ok {r : R} (o : Ok r) (l : List Int) : Ok (r.takeOff l) where
  live := o.live
  sort := o.sort
  who := o.who
  broke := o.broke
  phase := o.phase
  ph8 := o.ph8
  push := o.push
  hand := o.hand
  group := o.group
  fA := o.fA
  fB := o.fB
  balls := fun b h => o.balls b (List.mem_filter.mp h).1
  len := Nat.le_trans (List.length_filter_le _ _) o.len
  last := List.mem_filter.mpr ⟨o.last, by
    rw [Bool.or_eq_true]
    exact .inr (beq_iff_eq.mpr rfl)⟩
  asc := List.Pairwise.filter _ o.asc
  sa := o.sa
  sb := o.sb
/-! ### a rack won -/
theorem fresh_ok {r : R} (hs : r.sort = 8 ∨ r.sort = 9) (hl : r.over = false) {n : Nat} (hn : n ≤ 1) (ha : r.a < r.to) (hb : r.b < r.to) : Ok (r.rackUp n) := by
  have h : ∀ s, s = 8 ∨ s = 9 → (∀ b ∈ full s, 1 ≤ b ∧ b ≤ 15) ∧ (full s).length ≤ 15 ∧ s ∈ full s ∧ (full s).Pairwise (· < ·) := by
    rintro s (rfl | rfl) <;> decide
  obtain ⟨h1, h2, h3, h4⟩ := h r.sort hs
  exact ⟨hl, hs, hn, hn, (by show 0 ≤ 3; omega), fun _ => (by show 0 ≠ 1; omega), fun z => (by cases z), fun z => (by cases z), (by show 0 ≤ 2; omega), (by show 0 ≤ 2; omega), (by show 0 ≤ 2; omega), h1, h2, h3, h4, ha, hb⟩
structure Live (r : R) : Prop where
  live : r.over = false
  sort : r.sort = 8 ∨ r.sort = 9
  broke : r.broke ≤ 1
  sa : r.a < r.to
  sb : r.b < r.to
  push : r.push = false
theorem wins_abs {r : R} (o : Live r) {w : Nat} (hw : w ≤ 1) : r.abs.wins w = (r.endRack w).abs ∧ OkO (some (r.endRack w)) := by
  have hl := o.live
  have ha := o.sa
  have hb := o.sb
  have hbr := o.broke
  have hp := o.push
  have habs : r.abs = ⟨r.sort, r.to, r.turns, r.a, r.b, some r.rk, r.broke, r.push⟩ := by
    unfold R.abs
    rw [hl]
    rfl
  rw [habs]
  rcases Nat.le_one_iff_eq_zero_or_eq_one.mp hw with rfl | rfl
  · unfold State.wins R.endRack R.won R.score State.score
    simp only [if_true]
    by_cases c : r.a + 1 = r.to
    · rw [if_pos (show r.to ≤ r.a + 1 by omega), if_pos c]
      exact ⟨by unfold R.abs; rw [hp]; rfl, .inl ⟨rfl, hp⟩⟩
    · rw [if_neg (show ¬ r.to ≤ r.a + 1 by omega), if_neg c]
      refine ⟨by unfold R.abs R.rackUp; rw [hl]; rfl, .inr (fresh_ok (r := { r with a := r.a + 1 }) o.sort hl ?_ ?_ hb)⟩
      · split <;> omega
      · show r.a + 1 < r.to
        omega
  · unfold State.wins R.endRack R.won R.score State.score
    simp only [Nat.one_ne_zero, if_false]
    by_cases c : r.b + 1 = r.to
    · rw [if_pos (show r.to ≤ r.b + 1 by omega), if_pos c]
      exact ⟨by unfold R.abs; rw [hp]; rfl, .inl ⟨rfl, hp⟩⟩
    · rw [if_neg (show ¬ r.to ≤ r.b + 1 by omega), if_neg c]
      refine ⟨by unfold R.abs R.rackUp; rw [hl]; rfl, .inr (fresh_ok (r := { r with b := r.b + 1 }) o.sort hl ?_ ha ?_)⟩
      · split <;> omega
      · show r.b + 1 < r.to
        omega
theorem told_abs (r : R) : told r.abs = r.stand := by
  unfold told R.stand R.abs
  cases r.over <;> rfl
end Pr
namespace Pr
open Kg78
theorem R_eq {r : R} {q : Rack} {p : Bool} (hp : r.push = p) : ({ r with rk := q } : R) = { r with rk := q, push := p } := by
  subst hp
  rfl
theorem ok_with {r : R} (o : Ok r) (l : List Int) (q : Rack) (p : Bool) (hb : q.balls = (r.takeOff l).rk.balls) (hw : q.who ≤ 1) (hph : q.phase ≤ 3) (h8 : r.sort = 8 → q.phase ≠ 1) (hp : p = true → q.phase = 3) (hh : q.phase = 3 → q.hand = false)
    (hg : q.group ≤ 2) (hA : q.foulsA ≤ 2) (hB : q.foulsB ≤ 2) : Ok { r with rk := q, push := p } := by
  have t := take_ok o l
  have tb := t.balls
  have tl := t.len
  have tm := t.last
  have ta := t.asc
  rw [← hb] at tb tl tm ta
  exact ⟨o.live, o.sort, hw, o.broke, hph, h8, hp, hh, hg, hA, hB, tb, tl, tm, ta, o.sa, o.sb⟩
theorem live_of {r : R} (o : Ok r) (hp : r.rk.phase ≠ 3) (q : Rack) : Live { r with rk := q } := ⟨o.live, o.sort, o.broke, o.sa, o.sb, by
  cases h : r.push with
  | false => rfl
  | true => exact absurd (o.push h) hp⟩
theorem no_push {r : R} (o : Ok r) (hp : r.rk.phase ≠ 3) : r.push = false := (live_of o hp r.rk).push
theorem wins_rk (r : R) (q : Rack) (w : Nat) : ({ r with rk := q } : R).abs.wins w = r.abs.wins w := by
  unfold R.abs State.wins
  match w with
  | 0 => cases r.over <;> rfl
  | w + 1 => cases r.over <;> rfl
/-- what a shot comes to, told by the specification's own sum -/
def Told (r : R) (x : SI) (z : Nat ⊕ Rack) (f : Bool) : Prop := match z with
  | .inl w => (r.shot x).2 = 2 + w ∧ r.abs.wins w = (r.shot x).1.abs ∧ OkO (some (r.shot x).1)
  | .inr q => (r.shot x).2 = truth f ∧ (r.shot x).1 = { r with rk := q, push := x.push == 1 && q.phase == 3 } ∧ Ok (r.shot x).1
theorem right8_eight {r : R} (o : Ok r) (h0 : r.rk.phase ≠ 0) : r.right8 = [8] ↔ r.rk.onEight = true := by
  unfold R.right8
  rw [if_neg h0, ← left_nil o]
  by_cases h : r.left.isEmpty = true
  · rw [if_pos h]
    exact ⟨fun _ => h, fun _ => rfl⟩
  · rw [if_neg h]
    refine ⟨fun e => ?_, fun e => absurd e h⟩
    have : (8 : Nat) ∈ r.left := by rw [e]; exact List.mem_cons_self
    have := (List.mem_filter.mp this).2
    simp at this
theorem who1 {r : R} (o : Ok r) : 1 - r.rk.who ≤ 1 := by omega
theorem told_eight {r : R} {x : SI} (o : Ok r) (f : Fit r x) (hs : r.sort = 8) : Told r x (r.rk.eight x.nat) (r.rk.foul 8 x.nat) := by
  have hps : x.push = 0 := by
    rcases f.pu with z | z
    · exact z
    · have := (f.psh z).1
      omega
  have hp1 : (x.push == 1) = false := by rw [hps]; rfl
  have hnp := no_push o f.ph
  have esh : r.shot x = r.shot8 x := if_pos hs
  have ef : foulC x (whole r.right8) = r.rk.foul 8 x.nat := by rw [right8_may o hs]; exact foul_eq f 8
  have hw := o.who
  have hw1 := who1 o
  have hg := o.group
  have hA := o.fA
  have hB := o.fB
  have h8m : r.sort = 8 → (2 : Nat) ≠ 1 := fun _ => by omega
  by_cases h0 : r.rk.phase = 0
  · -- the break
    have eb := take_eq f
    rw [hs] at eb
    have es8 : r.shot8 x = if foulC x (whole r.right8) = true then ((r.takeOff x.potted).pass 2 true, 1) else ((r.takeOff x.potted).goBreak x, 0) := by
      unfold R.shot8
      rw [if_neg (fun z => z.1 h0), if_pos h0]
    have ee : r.rk.eight x.nat = if r.rk.foul 8 x.nat = true then .inr (Rack.passes { r.rk with balls := (r.takeOff x.potted).rk.balls } true)
        else if x.nat.potted.isEmpty = true ∧ x.nat.cushions < BREAK then .inr { r.rk with balls := (r.takeOff x.potted).rk.balls, who := 1 - r.rk.who, phase := 3, hand := false }
        else if (x.nat.potted.filter fun b => b != 8).isEmpty = true then .inr (if x.nat.potted.isEmpty = true then Rack.passes { r.rk with balls := (r.takeOff x.potted).rk.balls } false else { r.rk with balls := (r.takeOff x.potted).rk.balls, phase := 2, hand := false })
        else .inr { r.rk with balls := (r.takeOff x.potted).rk.balls, phase := 2, hand := false } := by
      rw [eb]
      unfold Rack.eight
      rw [if_pos h0]
    rw [ee]
    unfold Told
    rw [esh, es8, ef]
    by_cases hf : r.rk.foul 8 x.nat = true
    · rw [if_pos hf, if_pos hf]
      dsimp only
      rw [hf, hp1]
      refine ⟨rfl, R_eq hnp, ?_⟩
      have := ok_with o x.potted (Rack.passes { r.rk with balls := (r.takeOff x.potted).rk.balls } true) false rfl hw1 (by show 2 ≤ 3; omega) h8m (fun z => by cases z) (fun z => by cases z) hg hA hB
      rw [← R_eq hnp] at this
      exact this
    · rw [if_neg hf, if_neg hf]
      have hf' : r.rk.foul 8 x.nat = false := by simpa using hf
      by_cases hwk : weak x = true
      · have hwk' : x.nat.potted.isEmpty = true ∧ x.nat.cushions < BREAK := by
          rw [weak_eq f, Bool.and_eq_true, decide_eq_true_eq] at hwk
          exact hwk
        rw [if_pos hwk']
        dsimp only
        have eg : (r.takeOff x.potted).goBreak x = (r.takeOff x.potted).letChoose false := if_pos hwk
        rw [eg, hf', hp1]
        refine ⟨rfl, rfl, ?_⟩
        exact ok_with o x.potted { r.rk with balls := (r.takeOff x.potted).rk.balls, who := 1 - r.rk.who, phase := 3, hand := false } false rfl hw1 (by show 3 ≤ 3; omega) (fun _ => by show 3 ≠ 1; omega) (fun z => by cases z) (fun _ => rfl) hg hA hB
      · have hwk' : ¬ (x.nat.potted.isEmpty = true ∧ x.nat.cushions < BREAK) := by
          rw [weak_eq f, Bool.and_eq_true, decide_eq_true_eq] at hwk
          exact hwk
        rw [if_neg hwk']
        have eg : (r.takeOff x.potted).goBreak x = if x.potted.isEmpty = true then (r.takeOff x.potted).pass 2 false else (r.takeOff x.potted).playOn 2 := if_neg hwk
        rw [eg, ← pot_empty x]
        by_cases he : x.nat.potted.isEmpty = true
        · have he2 : (x.nat.potted.filter fun b => b != 8).isEmpty = true := by
            rw [List.isEmpty_iff] at he
            rw [he]
            rfl
          rw [if_pos he2, if_pos he, if_pos he]
          dsimp only
          rw [hf', hp1]
          refine ⟨rfl, R_eq hnp, ?_⟩
          have := ok_with o x.potted (Rack.passes { r.rk with balls := (r.takeOff x.potted).rk.balls } false) false rfl hw1 (by show 2 ≤ 3; omega) h8m (fun z => by cases z) (fun z => by cases z) hg hA hB
          rw [← R_eq hnp] at this
          exact this
        · rw [if_neg he, if_neg he]
          have : (if (x.nat.potted.filter fun b => b != 8).isEmpty = true then (.inr { r.rk with balls := (r.takeOff x.potted).rk.balls, phase := 2, hand := false } : Nat ⊕ Rack) else .inr { r.rk with balls := (r.takeOff x.potted).rk.balls, phase := 2, hand := false }) = .inr { r.rk with balls := (r.takeOff x.potted).rk.balls, phase := 2, hand := false } := by split <;> rfl
          rw [this]
          dsimp only
          rw [hf', hp1]
          refine ⟨rfl, R_eq hnp, ?_⟩
          have := ok_with o x.potted { r.rk with balls := (r.takeOff x.potted).rk.balls, phase := 2, hand := false } false rfl hw (by show 2 ≤ 3; omega) h8m (fun z => by cases z) (fun z => by cases z) hg hA hB
          rw [← R_eq hnp] at this
          exact this
  · by_cases hc : x.potted.contains 8 = true
    · -- the eight is potted
      have hc' : x.nat.potted.contains 8 = true := by rw [pot_cont f]; exact hc
      have ee : r.rk.eight x.nat = if r.rk.foul 8 x.nat = false ∧ r.rk.onEight = true ∧ x.nat.call = 8 then .inl r.rk.who else .inl (1 - r.rk.who) := by
        unfold Rack.eight
        rw [if_neg h0, if_pos hc']
      have es8 : r.shot8 x = (r.endRack (r.winner8 x), 2 + r.winner8 x) := if_pos ⟨h0, hc⟩
      have ew : r.rk.eight x.nat = .inl (r.winner8 x) := by
        rw [ee]
        unfold R.winner8
        rw [ef]
        have e8 : x.called = 8 ↔ x.nat.call = 8 := by
          show _ ↔ x.called.toNat = 8
          have := f.k0
          omega
        by_cases h : r.rk.foul 8 x.nat = false ∧ r.rk.onEight = true ∧ x.nat.call = 8
        · rw [if_pos h, if_pos ⟨h.1, (right8_eight o h0).mpr h.2.1, e8.mpr h.2.2⟩]
        · rw [if_neg h, if_neg (fun z => h ⟨z.1, (right8_eight o h0).mp z.2.1, e8.mp z.2.2⟩)]
      rw [ew]
      unfold Told
      rw [esh, es8]
      have hww : r.winner8 x ≤ 1 := by
        unfold R.winner8
        split <;> omega
      obtain ⟨h1, h2⟩ := wins_abs (live_of o f.ph r.rk) hww
      exact ⟨rfl, h1, h2⟩
    · -- in play
      have hc0 : x.potted.contains 8 = false := by simpa using hc
      have hc' : ¬ x.nat.potted.contains 8 = true := by rw [pot_cont f]; exact hc
      have eb := take_all f (by rw [hs]; exact hc0)
      have es8 : r.shot8 x = if foulC x (whole r.right8) = true then ((r.takeOff x.potted).pass 2 true, 1) else ((r.takeOff x.potted).goPlay x, 0) := by
        unfold R.shot8
        rw [if_neg (fun z => hc z.2), if_neg h0]
      have ee : r.rk.eight x.nat = (if r.rk.foul 8 x.nat = true then .inr (Rack.passes { r.rk with balls := (r.takeOff x.potted).rk.balls } true)
          else
            let good := x.nat.call != 0 && x.nat.potted.contains x.nat.call
            let z : Rack := if r.rk.group = 0 ∧ good = true then { r.rk with balls := (r.takeOff x.potted).rk.balls, group := if r.rk.who = 0 then groupOf x.nat.call else 3 - groupOf x.nat.call } else { r.rk with balls := (r.takeOff x.potted).rk.balls }
            if good = true ∧ (r.rk.group = 0 ∨ groupOf x.nat.call = r.rk.mine) then .inr { z with phase := 2, hand := false } else .inr (z.passes false)) := by
        rw [eb]
        unfold Rack.eight
        rw [if_neg h0, if_neg hc']
      rw [ee]
      unfold Told
      rw [esh, es8, ef]
      by_cases hf : r.rk.foul 8 x.nat = true
      · rw [if_pos hf, if_pos hf]
        dsimp only
        rw [hf, hp1]
        refine ⟨rfl, R_eq hnp, ?_⟩
        have := ok_with o x.potted (Rack.passes { r.rk with balls := (r.takeOff x.potted).rk.balls } true) false rfl hw1 (by show 2 ≤ 3; omega) h8m (fun z => by cases z) (fun z => by cases z) hg hA hB
        rw [← R_eq hnp] at this
        exact this
      · rw [if_neg hf, if_neg hf]
        have hf' : r.rk.foul 8 x.nat = false := by simpa using hf
        have egood : (x.nat.call != 0 && x.nat.potted.contains x.nat.call) = x.potted.contains x.called := by
          have ek : ((x.nat.call : Nat) : Int) = x.called := by
            show ((x.called.toNat : Nat) : Int) = _
            have := f.k0
            omega
          rw [pot_cont f, ek]
          by_cases h : x.potted.contains x.called = true
          · rw [h, Bool.and_true]
            have := (f.pp _ (List.contains_iff_mem.mp h)).1
            have : x.nat.call ≠ 0 := by omega
            simpa using this
          · have : x.potted.contains x.called = false := by simpa using h
            rw [this, Bool.and_false]
        rw [egood]
        dsimp only
        have es : (r.takeOff x.potted).side (r.takeOff x.potted).rk.who = r.rk.mine := side_mine (r := r) hw
        have mz := mine_zero (r := r) hg
        by_cases hgd : x.potted.contains x.called = true
        · have hk8 : x.nat.call ≠ 8 := fun z => by
            have ek : x.called = 8 := by
              have e : x.called.toNat = 8 := z
              have := f.k0
              omega
            rw [ek] at hgd
            exact hc hgd
          have eg : grp x.called = groupOf x.nat.call := by
            have ek : x.called = ((x.nat.call : Nat) : Int) := by
              show _ = ((x.called.toNat : Nat) : Int)
              have := f.k0
              omega
            rw [ek]
            exact grp_of hk8
          have g12 : groupOf x.nat.call = 1 ∨ groupOf x.nat.call = 2 := by
            rw [← eg]
            unfold grp
            split <;> simp
          by_cases h0g : r.rk.group = 0
          · rw [if_pos ⟨hgd, .inl h0g⟩, if_pos ⟨h0g, hgd⟩]
            dsimp only
            have egv : (r.takeOff x.potted).given x = (r.takeOff x.potted).give r.rk.who (groupOf x.nat.call) := by
              unfold R.given
              rw [if_pos ⟨hgd, by rw [es]; exact mz.mpr h0g⟩, eg]
              rfl
            have esd : ((r.takeOff x.potted).give r.rk.who (groupOf x.nat.call)).side r.rk.who = grp x.called := by
              rw [eg]
              unfold R.give R.side
              dsimp only
              rcases Nat.le_one_iff_eq_zero_or_eq_one.mp hw with e | e <;> rcases g12 with e2 | e2 <;> rw [e, e2] <;> rfl
            have egp : (r.takeOff x.potted).goPlay x = ((r.takeOff x.potted).give r.rk.who (groupOf x.nat.call)).playOn 2 := by
              unfold R.goPlay
              rw [egv]
              exact if_pos ⟨hgd, esd⟩
            rw [egp, hf', hp1]
            refine ⟨rfl, R_eq hnp, ?_⟩
            have := ok_with o x.potted { r.rk with balls := (r.takeOff x.potted).rk.balls, group := if r.rk.who = 0 then groupOf x.nat.call else 3 - groupOf x.nat.call, phase := 2, hand := false } false rfl hw (by show 2 ≤ 3; omega) h8m (fun z => by cases z) (fun z => by cases z) (by show (if r.rk.who = 0 then _ else _) ≤ 2; split <;> omega) hA hB
            rw [← R_eq hnp] at this
            exact this
          · have egv : (r.takeOff x.potted).given x = r.takeOff x.potted := if_neg (fun z => h0g (mz.mp (by rw [← es]; exact z.2)))
            by_cases hm : groupOf x.nat.call = r.rk.mine
            · rw [if_pos ⟨hgd, .inr hm⟩, if_neg (fun z => h0g z.1)]
              dsimp only
              have egp : (r.takeOff x.potted).goPlay x = (r.takeOff x.potted).playOn 2 := by
                unfold R.goPlay
                rw [egv]
                exact if_pos ⟨hgd, by rw [es, eg]; exact hm.symm⟩
              rw [egp, hf', hp1]
              refine ⟨rfl, R_eq hnp, ?_⟩
              have := ok_with o x.potted { r.rk with balls := (r.takeOff x.potted).rk.balls, phase := 2, hand := false } false rfl hw (by show 2 ≤ 3; omega) h8m (fun z => by cases z) (fun z => by cases z) hg hA hB
              rw [← R_eq hnp] at this
              exact this
            · rw [if_neg (fun z => z.2.elim h0g hm), if_neg (fun z => h0g z.1)]
              dsimp only
              have egp : (r.takeOff x.potted).goPlay x = (r.takeOff x.potted).pass 2 false := by
                unfold R.goPlay
                rw [egv]
                exact if_neg (fun z => hm (by rw [← eg, ← es]; exact z.2.symm))
              rw [egp, hf', hp1]
              refine ⟨rfl, R_eq hnp, ?_⟩
              have := ok_with o x.potted (Rack.passes { r.rk with balls := (r.takeOff x.potted).rk.balls } false) false rfl hw1 (by show 2 ≤ 3; omega) h8m (fun z => by cases z) (fun z => by cases z) hg hA hB
              rw [← R_eq hnp] at this
              exact this
        · have egv : (r.takeOff x.potted).given x = r.takeOff x.potted := if_neg (fun z => hgd z.1)
          rw [if_neg (fun z => hgd z.1), if_neg (fun z => hgd z.2)]
          dsimp only
          have egp : (r.takeOff x.potted).goPlay x = (r.takeOff x.potted).pass 2 false := by
            unfold R.goPlay
            rw [egv]
            exact if_neg (fun z => hgd z.1)
          rw [egp, hf', hp1]
          refine ⟨rfl, R_eq hnp, ?_⟩
          have := ok_with o x.potted (Rack.passes { r.rk with balls := (r.takeOff x.potted).rk.balls } false) false rfl hw1 (by show 2 ≤ 3; omega) h8m (fun z => by cases z) (fun z => by cases z) hg hA hB
          rw [← R_eq hnp] at this
          exact this
end Pr
namespace Pr
open Kg78
theorem foul9_eq {r : R} {x : SI} (o : Ok r) (f : Fit r x) : r.foul9 x = if (x.push == 1) = true then x.nat.lost else r.rk.foul 9 x.nat || (r.rk.phase == 0 && (x.nat.potted.isEmpty && decide (x.nat.cushions < BREAK))) := by
  unfold R.foul9
  by_cases h : x.push = 1
  · rw [if_pos h, if_pos (by rw [h]; rfl)]
    rfl
  · have hp1 : (x.push == 1) = false := by simpa using h
    rw [if_neg h, hp1, if_neg Bool.false_ne_true, ← weak_eq f, right9_may o, foul_eq f]
    by_cases c : r.rk.phase = 0 ∧ weak x = true
    · rw [if_pos c, c.1, c.2]
      simp
    · rw [if_neg c]
      have e : (r.rk.phase == 0 && weak x) = false := by
        rw [Bool.eq_false_iff]
        intro z
        rw [Bool.and_eq_true, beq_iff_eq] at z
        exact c z
      rw [e, Bool.or_false]
theorem fouls_eq (r : R) (n : Nat) : r.fouls n = r.rk.fouls n := rfl
theorem setF_who (q : Rack) (n v : Nat) : (q.setFouls n v).who = q.who := by unfold Rack.setFouls; split <;> rfl
theorem setF_phase (q : Rack) (n v : Nat) : (q.setFouls n v).phase = q.phase := by unfold Rack.setFouls; split <;> rfl
theorem setF_balls (q : Rack) (n v : Nat) : (q.setFouls n v).balls = q.balls := by unfold Rack.setFouls; split <;> rfl
theorem setF_group (q : Rack) (n v : Nat) : (q.setFouls n v).group = q.group := by unfold Rack.setFouls; split <;> rfl
theorem setF_A (q : Rack) (n v : Nat) (h : q.foulsA ≤ 2) (hv : v ≤ 2) : (q.setFouls n v).foulsA ≤ 2 := by unfold Rack.setFouls; split <;> assumption
theorem setF_B (q : Rack) (n v : Nat) (h : q.foulsB ≤ 2) (hv : v ≤ 2) : (q.setFouls n v).foulsB ≤ 2 := by unfold Rack.setFouls; split <;> assumption
theorem told_nine {r : R} {x : SI} (o : Ok r) (f : Fit r x) (hs : r.sort = 9) : Told r x (r.rk.nine x.nat (x.push == 1)) (r.foul9 x) := by
  have hnp := no_push o f.ph
  have esh : r.shot x = r.shot9 x := if_neg (by omega)
  have hw := o.who
  have hw1 := who1 o
  have hg := o.group
  have hA := o.fA
  have hB := o.fB
  have h8 : ∀ n : Nat, r.sort = 8 → n ≠ 1 := fun n z => by omega
  have eb := take_eq f
  rw [hs] at eb
  have hfl : r.rk.fouls r.rk.who ≤ 2 := by unfold Rack.fouls; split <;> assumption
  unfold Told
  rw [esh]
  unfold R.shot9
  by_cases hf : r.foul9 x = true
  · -- a foul
    rw [if_pos hf]
    have ee : r.rk.nine x.nat (x.push == 1) = (if 2 ≤ r.rk.fouls r.rk.who then .inl (1 - r.rk.who) else
        .inr (if r.rk.phase = 0 then { (Rack.setFouls { r.rk with balls := (r.takeOff x.potted).rk.balls } r.rk.who (r.rk.fouls r.rk.who + 1)).passes true with phase := 1 } else (Rack.setFouls { r.rk with balls := (r.takeOff x.potted).rk.balls } r.rk.who (r.rk.fouls r.rk.who + 1)).passes true)) := by
      unfold Rack.nine
      dsimp only
      rw [← foul9_eq o f, hf, Bool.true_or, if_neg (fun z => by cases z.2), if_pos rfl, eb]
      have e : (fun b : Nat => !(true && b == 9)) = fun b => b != 9 := rfl
      rw [e]
    rw [ee, hf]
    by_cases h3 : 2 ≤ r.rk.fouls r.rk.who
    · rw [if_pos h3]
      dsimp only
      have eg : (r.takeOff x.potted).goFoul = (((r.takeOff x.potted).setFouls r.rk.who (r.rk.fouls r.rk.who + 1)).endRack (1 - r.rk.who), 2 + (1 - r.rk.who)) := by
        unfold R.goFoul
        exact if_pos (show r.rk.fouls r.rk.who + 1 = 3 by omega)
      rw [eg]
      have q := wins_abs (live_of o f.ph (Rack.setFouls (r.takeOff x.potted).rk r.rk.who (r.rk.fouls r.rk.who + 1))) hw1
      rw [wins_rk] at q
      exact ⟨rfl, q.1, q.2⟩
    · rw [if_neg h3]
      dsimp only
      have eg : (r.takeOff x.potted).goFoul = (((r.takeOff x.potted).setFouls r.rk.who (r.rk.fouls r.rk.who + 1)).pass r.behind true, 1) := by
        unfold R.goFoul
        exact if_neg (show ¬ r.rk.fouls r.rk.who + 1 = 3 by omega)
      rw [eg]
      have ew := setF_who { r.rk with balls := (r.takeOff x.potted).rk.balls } r.rk.who (r.rk.fouls r.rk.who + 1)
      have eqq : (if r.rk.phase = 0 then { (Rack.setFouls { r.rk with balls := (r.takeOff x.potted).rk.balls } r.rk.who (r.rk.fouls r.rk.who + 1)).passes true with phase := 1 } else (Rack.setFouls { r.rk with balls := (r.takeOff x.potted).rk.balls } r.rk.who (r.rk.fouls r.rk.who + 1)).passes true) =
          { Rack.setFouls { r.rk with balls := (r.takeOff x.potted).rk.balls } r.rk.who (r.rk.fouls r.rk.who + 1) with who := 1 - (Rack.setFouls { r.rk with balls := (r.takeOff x.potted).rk.balls } r.rk.who (r.rk.fouls r.rk.who + 1)).who, phase := r.behind, hand := true } := by
        unfold R.behind Rack.passes
        by_cases h : r.rk.phase = 0
        · rw [if_pos h, if_pos h]
        · rw [if_neg h, if_neg h]
      rw [eqq]
      have hb2 : r.behind ≤ 2 := by unfold R.behind; split <;> omega
      have e3 : (x.push == 1 && r.behind == 3) = false := by
        have : (r.behind == 3) = false := by
          rw [beq_eq_false_iff_ne]
          omega
        rw [this, Bool.and_false]
      dsimp only
      rw [e3]
      refine ⟨rfl, R_eq hnp, ?_⟩
      have := ok_with o x.potted { Rack.setFouls { r.rk with balls := (r.takeOff x.potted).rk.balls } r.rk.who (r.rk.fouls r.rk.who + 1) with who := 1 - (Rack.setFouls { r.rk with balls := (r.takeOff x.potted).rk.balls } r.rk.who (r.rk.fouls r.rk.who + 1)).who, phase := r.behind, hand := true } false
        (setF_balls _ _ _) (by show 1 - Rack.who _ ≤ 1; omega) (by show r.behind ≤ 3; omega) (h8 _) (fun z => by cases z) (fun z => by have : r.behind = 3 := z; omega) (by show Rack.group _ ≤ 2; rw [setF_group]; exact hg) (setF_A _ _ _ hA (by omega)) (setF_B _ _ _ hB (by omega))
      rw [← R_eq hnp] at this
      exact this
  · rw [if_neg hf]
    have hf' : r.foul9 x = false := by simpa using hf
    rw [hf']
    by_cases hp : x.push = 1
    · -- a push
      have hp1 : (x.push == 1) = true := by rw [hp]; rfl
      rw [if_pos hp]
      have ee : r.rk.nine x.nat (x.push == 1) = .inr { r.rk with balls := (r.takeOff x.potted).rk.balls, who := 1 - r.rk.who, phase := 3, hand := false } := by
        unfold Rack.nine
        dsimp only
        rw [← foul9_eq o f, hf', hp1, Bool.false_or, if_neg (fun z => by cases z.2), if_neg Bool.false_ne_true, if_pos rfl, eb]
        have e : (fun b : Nat => !(true && b == 9)) = fun b => b != 9 := rfl
        rw [e]
      rw [ee]
      dsimp only
      rw [hp1]
      refine ⟨rfl, rfl, ?_⟩
      exact ok_with o x.potted { r.rk with balls := (r.takeOff x.potted).rk.balls, who := 1 - r.rk.who, phase := 3, hand := false } true rfl hw1 (by show 3 ≤ 3; omega) (h8 _) (fun _ => rfl) (fun _ => rfl) hg hA hB
    · have hp1 : (x.push == 1) = false := by simpa using hp
      rw [if_neg hp]
      unfold R.fair9
      by_cases h9 : x.potted.contains 9 = true
      · rw [if_pos h9]
        have h9' : x.nat.potted.contains 9 = true := by rw [pot_cont f]; exact h9
        have ee : r.rk.nine x.nat (x.push == 1) = .inl r.rk.who := by
          unfold Rack.nine
          dsimp only
          rw [← foul9_eq o f, hf', hp1, Bool.false_or, if_pos ⟨h9', rfl⟩]
        rw [ee]
        dsimp only
        have q := wins_abs (live_of o f.ph (Rack.setFouls (r.takeOff x.potted).rk r.rk.who 0)) hw
        rw [wins_rk] at q
        exact ⟨rfl, q.1, q.2⟩
      · rw [if_neg h9]
        have h9' : ¬ x.nat.potted.contains 9 = true := by rw [pot_cont f]; exact h9
        have eb2 := take_all f (by rw [hs]; simpa using h9)
        have ee : r.rk.nine x.nat (x.push == 1) = (if x.nat.potted.isEmpty = true then .inr { (Rack.setFouls { r.rk with balls := (r.takeOff x.potted).rk.balls } r.rk.who 0).passes false with phase := r.behind }
            else .inr { Rack.setFouls { r.rk with balls := (r.takeOff x.potted).rk.balls } r.rk.who 0 with phase := r.behind, hand := false }) := by
          unfold Rack.nine
          dsimp only
          rw [← foul9_eq o f, hf', hp1, Bool.false_or, if_neg (fun z => h9' z.1), if_neg Bool.false_ne_true, if_neg Bool.false_ne_true, eb2]
          have e : (x.nat.potted.filter fun b => !(false && b == 9)) = x.nat.potted := List.filter_eq_self.mpr fun b _ => rfl
          rw [e]
          rfl
        rw [ee, ← pot_empty x]
        have hb2 : r.behind ≤ 2 := by unfold R.behind; split <;> omega
        have ew := setF_who { r.rk with balls := (r.takeOff x.potted).rk.balls } r.rk.who 0
        by_cases he : x.nat.potted.isEmpty = true
        · rw [if_pos he, if_pos he]
          dsimp only
          rw [hp1]
          refine ⟨rfl, R_eq hnp, ?_⟩
          have := ok_with o x.potted { (Rack.setFouls { r.rk with balls := (r.takeOff x.potted).rk.balls } r.rk.who 0).passes false with phase := r.behind } false
            (setF_balls _ _ _) (by show 1 - Rack.who _ ≤ 1; omega) (by show r.behind ≤ 3; omega) (h8 _) (fun z => by cases z) (fun _ => rfl) (Nat.le_trans (Nat.le_of_eq (setF_group { r.rk with balls := (r.takeOff x.potted).rk.balls } r.rk.who 0)) hg) (setF_A _ _ _ hA (by omega)) (setF_B _ _ _ hB (by omega))
          rw [← R_eq hnp] at this
          exact this
        · rw [if_neg he, if_neg he]
          dsimp only
          rw [hp1]
          refine ⟨rfl, R_eq hnp, ?_⟩
          have := ok_with o x.potted { Rack.setFouls { r.rk with balls := (r.takeOff x.potted).rk.balls } r.rk.who 0 with phase := r.behind, hand := false } false
            (setF_balls _ _ _) (by show Rack.who _ ≤ 1; rw [ew]; exact hw) (by show r.behind ≤ 3; omega) (h8 _) (fun z => by cases z) (fun _ => rfl) (by show Rack.group _ ≤ 2; rw [setF_group]; exact hg) (setF_A _ _ _ hA (by omega)) (setF_B _ _ _ hB (by omega))
          rw [← R_eq hnp] at this
          exact this
end Pr
namespace Pr
open Kg78
theorem w01 (z : Int) : (!bad01 z) = within z 0 1 := by
  unfold bad01 within
  rw [Bool.not_not, Bool.eq_iff_iff]
  simp only [Bool.or_eq_true, Bool.and_eq_true, decide_eq_true_eq]
  omega
theorem nums_spec (x : SI) : (within x.first 0 15 && (within x.cushions 0 15 && (within x.lost 0 1 && (within x.called 0 15 && (within x.push 0 1 && x.potted.all (fun z => within z 1 15)))))) = numbersOk x := by
  unfold numbersOk
  rw [Bool.not_or, w01, w01]
  have e : ∀ z, within z 0 15 = in15 z := fun z => rfl
  rw [e, e, e]
  have e2 : (x.potted.all fun z => within z 1 15) = x.potted.all fun z => decide (1 ≤ z) && decide (z ≤ 15) := rfl
  rw [e2]
  cases in15 x.first <;> cases in15 x.cushions <;> cases in15 x.called <;> cases within x.lost 0 1 <;> cases within x.push 0 1 <;> rfl
structure Num (x : SI) : Prop where
  f : 0 ≤ x.first ∧ x.first ≤ 15
  c : 0 ≤ x.cushions ∧ x.cushions ≤ 15
  k : 0 ≤ x.called ∧ x.called ≤ 15
  lo : x.lost = 0 ∨ x.lost = 1
  pu : x.push = 0 ∨ x.push = 1
  pp : ∀ z ∈ x.potted, 1 ≤ z ∧ z ≤ 15
theorem num_of {x : SI} (h : numbersOk x = true) : Num x := by
  unfold numbersOk in15 at h
  rw [Bool.not_or, w01, w01] at h
  unfold within at h
  simp only [Bool.and_eq_true, decide_eq_true_eq, List.all_eq_true] at h
  obtain ⟨⟨h1, h2, h3⟩, ⟨h4, h5⟩, h6⟩ := h
  exact ⟨h1, h3, h2, by omega, by omega, h6⟩
theorem fits_spec {r : R} {x : SI} (n : Num x) : ((x.first ≠ 0 ∧ r.rk.balls.contains x.first.toNat = false) ∨ (x.potted.all fun z => r.rk.balls.contains z.toNat) = false ∨ x.potted.Nodup = false ∨ (x.called ≠ 0 ∧ r.rk.balls.contains x.called.toNat = false)) ↔ r.fits x = false := by
  have hf : r.has x.first = r.rk.balls.contains x.first.toNat := cont_int _ n.f.1
  have hk : r.has x.called = r.rk.balls.contains x.called.toNat := cont_int _ n.k.1
  have hp : ∀ z ∈ x.potted, r.has z = r.rk.balls.contains z.toNat := fun z hz => cont_int _ (by have := (n.pp z hz).1; omega)
  have hall : (x.potted.all fun z => r.has z && decide (x.potted.count z = 1)) = ((x.potted.all fun z => r.rk.balls.contains z.toNat) && decide x.potted.Nodup) := by
    rw [Bool.eq_iff_iff, Bool.and_eq_true, List.all_eq_true, List.all_eq_true, decide_eq_true_eq, ← nodup_count]
    constructor
    · intro h
      refine ⟨fun z hz => ?_, fun z hz => ?_⟩
      · rw [← hp z hz]
        exact (Bool.and_eq_true_iff.mp (h z hz)).1
      · exact of_decide_eq_true (Bool.and_eq_true_iff.mp (h z hz)).2
    · rintro ⟨h1, h2⟩ z hz
      exact Bool.and_eq_true_iff.mpr ⟨by rw [hp z hz]; exact h1 z hz, decide_eq_true (h2 z hz)⟩
  unfold R.fits
  rw [hf, hk, hall]
  have en : (x.potted.Nodup = (false = true)) ↔ ¬ x.potted.Nodup := by
    constructor
    · intro h q
      rw [h] at q
      cases q
    · intro h
      exact propext ⟨fun q => absurd q h, fun q => by cases q⟩
  rw [en]
  simp only [Bool.and_eq_false_iff, Bool.or_eq_false_iff, decide_eq_false_iff_not, ne_eq]
  constructor
  · rintro (h | h | h | h)
    · exact .inl h
    · exact .inr (.inr (.inl h))
    · exact .inr (.inr (.inr h))
    · exact .inr (.inl h)
  · rintro (h | h | h | h)
    · exact .inl h
    · exact .inr (.inr (.inr h))
    · exact .inr (.inl h)
    · exact .inr (.inr (.inl h))
theorem may_spec {r : R} {x : SI} (o : Ok r) : ((x.push = 1 ∧ (r.sort = 8 ∨ r.rk.phase ≠ 1)) ∨ (x.first = 0 ∧ (x.potted ≠ [] ∨ x.cushions ≠ 0))) ↔ r.mayBe x = false := by
  have h8 := o.ph8
  unfold R.mayBe
  rw [Bool.and_eq_false_iff, Bool.or_eq_false_iff, Bool.and_eq_false_iff, Bool.not_eq_false', Bool.not_eq_false', Bool.and_eq_true]
  simp only [Bool.not_eq_true', decide_eq_false_iff_not, decide_eq_true_eq, List.isEmpty_eq_false_iff]
  constructor
  · rintro (⟨h1, h2⟩ | ⟨h1, h2⟩)
    · refine .inl ⟨h1, ?_⟩
      rcases h2 with h2 | h2
      · exact h8 h2
      · exact h2
    · exact .inr ⟨h1, h2.symm⟩
  · rintro (⟨h1, h2⟩ | ⟨h1, h2⟩)
    · exact .inl ⟨h1, .inr h2⟩
    · exact .inr ⟨h1, h2.symm⟩
theorem fit_of {r : R} {x : SI} (o : Ok r) (n : Num x) (hph : r.rk.phase ≠ 3) (h4 : ¬ r.fits x = false) (h5 : ¬ r.mayBe x = false) : Fit r x := by
  rw [← fits_spec n] at h4
  rw [← may_spec o] at h5
  simp only [not_or, not_and, ne_eq, Decidable.not_not] at h4 h5
  obtain ⟨a1, a2, a3, a4⟩ := h4
  obtain ⟨b1, b2⟩ := h5
  refine ⟨n.f.1, n.c.1, n.k.1, n.lo, n.pu, ?_, fun z hz => ⟨(n.pp z hz).1, ?_⟩, fun hp => ?_, fun h0 => ?_, hph⟩
  · by_cases h : x.first = 0
    · exact .inl h
    · exact .inr (List.contains_iff_mem.mp (by simpa using a1 h))
  · have := List.all_eq_true.mp (by simpa using a2 : (x.potted.all fun z => r.rk.balls.contains z.toNat) = true) z hz
    exact List.contains_iff_mem.mp this
  · have := b1 hp
    exact ⟨by rcases o.sort with q | q; exact absurd q this.1; exact q, this.2⟩
  · exact b2 h0
end Pr
namespace Pr
open Kg78
/-- a step is the specification's -/
def Same1 (o : Option R) (c : Call) : Prop := (spec (absO o) c).1 = absO (step o c).1 ∧ (spec (absO o) c).2.value :: (spec (absO o) c).2.out = (step o c).2 ∧ OkO (step o c).1
theorem abs_live {r : R} (h : ¬ r.over = true) : r.abs = ⟨r.sort, r.to, r.turns, r.a, r.b, some r.rk, r.broke, r.push⟩ := by
  unfold R.abs
  rw [if_neg h]
theorem rack_live {r : R} (h : ¬ r.over = true) : r.abs.rack = some r.rk := if_neg h
theorem rack_over {r : R} (h : r.over = true) : r.abs.rack = none := if_pos h
theorem ok_live {r : R} (h : OkO (some r)) (n : ¬ r.over = true) : Ok r := by
  rcases h with ⟨z, _⟩ | h
  · exact absurd z n
  · exact h
theorem on_none {s : State} {f : Rack → State × Ans} (h : s.rack = none) : onRack s f = (s, num (-2)) := by unfold onRack; rw [h]
theorem on_some {s : State} {f : Rack → State × Ans} {q : Rack} (h : s.rack = some q) : onRack s f = f q := by unfold onRack; rw [h]
theorem begin_spec {o : Option R} (h : OkO o) (k n t w : Int) : Same1 o (.begin_ k n t w) := by
  unfold Same1
  have ew : (within k 8 9 && (within n 1 30 && (within t 0 1 && within w 0 1))) = true ↔ refBegin k n t w = 0 := by
    unfold refBegin
    rw [← w01, ← w01]
    unfold within
    by_cases h1 : (!(decide (k = 8) || decide (k = 9)) || !(decide (1 ≤ n) && decide (n ≤ 30))) = true
    · rw [if_pos h1]
      simp only [Bool.or_eq_true, Bool.not_eq_true', Bool.or_eq_false_iff, Bool.and_eq_false_iff, decide_eq_false_iff_not] at h1
      simp only [Bool.and_eq_true, decide_eq_true_eq]
      constructor
      · rintro ⟨q1, q2, q3⟩
        omega
      · intro q
        omega
    · rw [if_neg h1]
      simp only [Bool.or_eq_true, Bool.not_eq_true', Bool.or_eq_false_iff, Bool.and_eq_false_iff, decide_eq_false_iff_not] at h1
      by_cases h2 : (bad01 t || bad01 w) = true
      · rw [if_pos h2]
        simp only [Bool.and_eq_true, Bool.not_eq_true']
        rw [Bool.or_eq_true] at h2
        constructor
        · rintro ⟨_, _, q3, q4⟩
          rcases h2 with h2 | h2
          · rw [h2] at q3; cases q3
          · rw [h2] at q4; cases q4
        · intro q
          omega
      · rw [if_neg h2]
        rw [Bool.or_eq_true, not_or] at h2
        simp only [Bool.and_eq_true, Bool.not_eq_true', decide_eq_true_eq]
        refine ⟨fun _ => (by first | rfl | trivial), fun _ => ⟨by omega, by omega, by simpa using h2.1, by simpa using h2.2⟩⟩
  by_cases c : refBegin k n t w = 0
  · have hw := ew.mpr c
    have es : spec (absO o) (.begin_ k n t w) = (⟨k.toNat, n.toNat, t == 1, 0, 0, some (fresh k.toNat w.toNat), w.toNat, false⟩, num 0) := by
      unfold spec
      dsimp only
      rw [if_neg (by rw [hw]; exact fun z => by cases z)]
    have em : step o (.begin_ k n t w) = (some (R.made k.toNat n.toNat (t == 1) w.toNat), [refBegin k n t w]) := by
      unfold step
      dsimp only
      rw [if_pos c]
    rw [es, em, c]
    refine ⟨rfl, rfl, .inr ?_⟩
    unfold within at hw
    simp only [Bool.and_eq_true, decide_eq_true_eq] at hw
    have := fresh_ok (r := ⟨k.toNat, n.toNat, t == 1, 0, 0, false, 0, false, fresh k.toNat 0⟩) (n := w.toNat) (by show k.toNat = 8 ∨ k.toNat = 9; omega) rfl (by omega) (by show 0 < n.toNat; omega) (by show 0 < n.toNat; omega)
    exact this
  · have hw : (within k 8 9 && (within n 1 30 && (within t 0 1 && within w 0 1))) = false := by
      rw [Bool.eq_false_iff]
      exact fun z => c (ew.mp z)
    have es : spec (absO o) (.begin_ k n t w) = (absO o, num (-1)) := by
      unfold spec
      dsimp only
      rw [if_pos hw]
    have em : step o (.begin_ k n t w) = (o, [refBegin k n t w]) := by
      unfold step
      dsimp only
      rw [if_neg c]
    have e1 : refBegin k n t w = -1 := by
      unfold refBegin at c ⊢
      split
      · rfl
      · rename_i q
        rw [if_neg q] at c
        split
        · rfl
        · rename_i q2
          rw [if_neg q2] at c
          exact absurd rfl c
    rw [es, em, e1]
    exact ⟨rfl, rfl, h⟩
theorem shot_spec {o : Option R} (h : OkO o) (fi cu lo ca pu : Int) (l : List Int) : Same1 o (.shot fi cu lo ca pu l) := by
  unfold Same1
  let x : SI := ⟨fi, cu, lo, ca, pu, l⟩
  have hn := nums_spec x
  -- refused: the race stands
  have stay : ∀ z : Int, refShot o x = z → z < 0 → spec (absO o) (.shot fi cu lo ca pu l) = (absO o, num z) → Same1 o (.shot fi cu lo ca pu l) := by
    intro z e1 e2 e3
    unfold Same1
    have em : step o (.shot fi cu lo ca pu l) = (o, [refShot o x]) := if_pos (by show refShot o x < 0; rw [e1]; exact e2)
    rw [e3, em, e1]
    exact ⟨rfl, rfl, h⟩
  by_cases c1 : numbersOk x = false
  · exact stay (-1) (if_pos c1) (by omega) (by
      unfold spec
      dsimp only
      rw [if_pos (by exact hn.trans c1)])
  have c1' : numbersOk x = true := by simpa using c1
  have hN := num_of c1'
  have es : ∀ F, spec (absO o) (.shot fi cu lo ca pu l) = F → True := fun _ _ => trivial
  have ns : ¬ (within fi 0 15 && (within cu 0 15 && (within lo 0 1 && (within ca 0 15 && (within pu 0 1 && l.all (fun z => within z 1 15)))))) = false := by
    intro z
    exact c1 (hn.symm.trans z)
  cases o with
  | none =>
    exact stay (-2) (if_neg c1) (by omega) (by
      unfold spec
      dsimp only
      rw [if_neg ns, on_none rfl])
  | some r =>
    have er : refShot (some r) x = (if r.over = true then -2 else if r.rk.phase = 3 then -3 else if r.fits x = false then -4 else if r.mayBe x = false then -5 else 0) := if_neg c1
    by_cases c2 : r.over = true
    · exact stay (-2) (er.trans (if_pos c2)) (by omega) (by
        unfold spec
        dsimp only
        rw [if_neg ns]
        show onRack r.abs _ = _
        rw [on_none (rack_over c2)]
        all_goals rfl)
    rw [if_neg c2] at er
    have o := ok_live h c2
    by_cases c3 : r.rk.phase = 3
    · exact stay (-3) (er.trans (if_pos c3)) (by omega) (by
        unfold spec
        dsimp only
        rw [if_neg ns]
        show onRack r.abs _ = _
        rw [on_some (rack_live c2), if_pos c3]
        all_goals rfl)
    rw [if_neg c3] at er
    have h4 := fits_spec (r := r) hN
    have h5 : (pu = 1 ∧ ((absO (some r)).sort = 8 ∨ r.rk.phase ≠ 1)) ∨ (fi = 0 ∧ (l ≠ [] ∨ cu ≠ 0)) ↔ r.mayBe x = false := may_spec (x := x) o
    by_cases c4 : r.fits x = false
    · exact stay (-4) (er.trans (if_pos c4)) (by omega) (by
        unfold spec
        dsimp only
        rw [if_neg ns]
        show onRack r.abs _ = _
        rw [on_some (rack_live c2), if_neg c3, if_pos (h4.mpr c4)]
        all_goals rfl)
    rw [if_neg c4] at er
    by_cases c5 : r.mayBe x = false
    · exact stay (-5) (er.trans (if_pos c5)) (by omega) (by
        unfold spec
        dsimp only
        rw [if_neg ns]
        show onRack r.abs _ = _
        rw [on_some (rack_live c2), if_neg c3, if_neg (fun z => c4 (h4.mp z)), if_pos (h5.mpr c5)]
        all_goals rfl)
    rw [if_neg c5] at er
    have f := fit_of o hN c3 c4 c5
    have em : step (some r) (.shot fi cu lo ca pu l) = (some (r.shot x).1, ((r.shot x).2 : Int) :: (r.shot x).1.stand) := if_neg (by show ¬ refShot (some r) x < 0; rw [er]; omega)
    have esp : spec (absO (some r)) (.shot fi cu lo ca pu l) =
        (match (if r.sort = 8 then r.rk.eight x.nat else r.rk.nine x.nat (x.push == 1)) with
        | .inl w => (r.abs.wins w, ⟨2 + (w : Int), told (r.abs.wins w)⟩)
        | .inr q => (({ r.abs with rack := some q, push := x.push == 1 && q.phase == 3 } : State), ⟨(truth (if x.push = 1 then x.nat.lost else if r.sort = 8 then r.rk.foul 8 x.nat else r.rk.foul 9 x.nat || (r.rk.phase == 0 && (x.nat.potted.isEmpty && decide (x.nat.cushions < BREAK)))) : Nat),
            told ({ r.abs with rack := some q, push := x.push == 1 && q.phase == 3 } : State)⟩)) := by
      unfold spec
      dsimp only
      rw [if_neg ns]
      show onRack r.abs _ = _
      rw [on_some (rack_live c2), if_neg c3, if_neg (fun z => c4 (h4.mp z)), if_neg (fun z => c5 (h5.mp z))]
      all_goals rfl
    have tl : Told r x (if r.sort = 8 then r.rk.eight x.nat else r.rk.nine x.nat (x.push == 1)) (if x.push = 1 then x.nat.lost else if r.sort = 8 then r.rk.foul 8 x.nat else r.rk.foul 9 x.nat || (r.rk.phase == 0 && (x.nat.potted.isEmpty && decide (x.nat.cushions < BREAK)))) := by
      rcases o.sort with hs | hs
      · have hp : ¬ x.push = 1 := fun z => by have := (f.psh z).1; omega
        rw [if_pos hs, if_neg hp, if_pos hs]
        exact told_eight o f hs
      · have h8 : ¬ r.sort = 8 := by omega
        have q := told_nine o f hs
        rw [foul9_eq o f] at q
        rw [if_neg h8, if_neg h8]
        have e : (x.push = 1) = ((x.push == 1) = true) := by simp
        simp only [e]
        exact q
    rw [em, esp]
    generalize (if r.sort = 8 then r.rk.eight x.nat else r.rk.nine x.nat (x.push == 1)) = z at tl ⊢
    generalize (if x.push = 1 then x.nat.lost else if r.sort = 8 then r.rk.foul 8 x.nat else r.rk.foul 9 x.nat || (r.rk.phase == 0 && (x.nat.potted.isEmpty && decide (x.nat.cushions < BREAK)))) = fo at tl ⊢
    cases z with
    | inl w =>
      obtain ⟨t1, t2, t3⟩ := tl
      refine ⟨t2, ?_, t3⟩
      dsimp only
      rw [t1, t2, told_abs]
      have : (2 + (w : Int)) = ((2 + w : Nat) : Int) := by omega
      rw [this]
    | inr q =>
      obtain ⟨t1, t2, t3⟩ := tl
      have ea : ({ r.abs with rack := some q, push := x.push == 1 && q.phase == 3 } : State) = (r.shot x).1.abs := by
        rw [t2, abs_live c2]
        have c2' : ¬ ({ r with rk := q, push := x.push == 1 && q.phase == 3 } : R).over = true := c2
        rw [abs_live c2']
      dsimp only
      rw [ea, t1, told_abs]
      exact ⟨rfl, rfl, .inr t3⟩
end Pr
namespace Pr
open Kg78
theorem whole_nat (l : List Nat) : whole l = l.map fun (n : Nat) => (n : Int) := rfl
theorem choose_spec {o : Option R} (h : OkO o) (n : Int) : Same1 o (.choose n) := by
  unfold Same1
  have stay : ∀ z : Int, refChoose o n = z → z < 0 → spec (absO o) (.choose n) = (absO o, num z) → Same1 o (.choose n) := by
    intro z e1 e2 e3
    unfold Same1
    have em : step o (.choose n) = (o, [refChoose o n]) := if_pos (by rw [e1]; exact e2)
    rw [e3, em, e1]
    exact ⟨rfl, rfl, h⟩
  have hw := w01 n
  by_cases c1 : bad01 n = true
  · exact stay (-1) (if_pos c1) (by omega) (by
      unfold spec
      dsimp only
      rw [if_pos (by rw [← hw, c1]; rfl)])
  have ns : ¬ within n 0 1 = false := by
    rw [← hw]
    intro z
    rw [Bool.not_eq_false'] at z
    exact c1 z
  cases o with
  | none =>
    exact stay (-2) (if_neg c1) (by omega) (by
      unfold spec
      dsimp only
      rw [if_neg ns, on_none rfl])
  | some r =>
    have er : refChoose (some r) n = (if r.over = true then -2 else if r.rk.phase = 3 then 0 else -3) := if_neg c1
    by_cases c2 : r.over = true
    · exact stay (-2) (er.trans (if_pos c2)) (by omega) (by
        unfold spec
        dsimp only
        rw [if_neg ns]
        show onRack r.abs _ = _
        rw [on_none (rack_over c2)]
        all_goals rfl)
    rw [if_neg c2] at er
    have o := ok_live h c2
    by_cases c3 : r.rk.phase = 3
    · have em : step (some r) (.choose n) = (some (r.chosen n), n :: (r.chosen n).stand) := if_neg (by rw [er, if_pos c3]; omega)
      have esp : spec (absO (some r)) (.choose n) =
          (let t : State := if r.push = true then { r.abs with rack := some { r.rk with phase := 2, who := if n = 0 then r.rk.who else 1 - r.rk.who }, push := false }
            else if n = 0 then { r.abs with rack := some { r.rk with phase := 2 } }
            else { r.abs with rack := some (fresh r.sort r.rk.who), broke := r.rk.who }
          (t, ⟨n, told t⟩)) := by
        unfold spec
        dsimp only
        rw [if_neg ns]
        show onRack r.abs _ = _
        rw [on_some (rack_live c2), if_neg (fun z => z c3)]
        all_goals rfl
      have hh := o.hand c3
      have ek : (if r.push = true then ({ r.abs with rack := some { r.rk with phase := 2, who := if n = 0 then r.rk.who else 1 - r.rk.who }, push := false } : State)
            else if n = 0 then { r.abs with rack := some { r.rk with phase := 2 } }
            else { r.abs with rack := some (fresh r.sort r.rk.who), broke := r.rk.who }) = (r.chosen n).abs ∧ Ok (r.chosen n) := by
        have hw := o.who
        have t := take_ok o []
        have tb : ∀ q : Rack, q.balls = r.rk.balls → q.balls = (r.takeOff []).rk.balls := fun q e => by
          rw [e]
          exact (List.filter_eq_self.mpr fun b _ => rfl).symm
        have erk : ({ r.rk with phase := 2, hand := false } : Rack) = { r.rk with phase := 2 } := by rw [← hh]
        have ok1 : Ok { r with rk := { r.rk with phase := 2, hand := false }, push := false } := ok_with o [] { r.rk with phase := 2, hand := false } false (tb _ rfl) hw (by show 2 ≤ 3; omega) (fun _ => by show 2 ≠ 1; omega) (fun z => by cases z) (fun z => by cases z) o.group o.fA o.fB
        have ok2 : Ok { r with rk := { r.rk with who := 1 - r.rk.who, phase := 2, hand := false }, push := false } := ok_with o [] { r.rk with who := 1 - r.rk.who, phase := 2, hand := false } false (tb _ rfl) (who1 o) (by show 2 ≤ 3; omega) (fun _ => by show 2 ≠ 1; omega) (fun z => by cases z) (fun z => by cases z) o.group o.fA o.fB
        by_cases hn : n = 0
        · have ec : r.chosen n = { r with rk := { r.rk with phase := 2, hand := false }, push := false } := if_pos hn
          rw [ec, abs_live c2, abs_live (r := { r with rk := { r.rk with phase := 2, hand := false }, push := false }) c2]
          refine ⟨?_, ok1⟩
          rw [erk]
          by_cases hp : r.push = true
          · rw [if_pos hp, if_pos hn]
          · have : r.push = false := by simpa using hp
            rw [if_neg hp, if_pos hn, this]
        · have ec0 : r.chosen n = if r.push = true then { r with push := false }.pass 2 false else { r with push := false }.rackUp r.rk.who := if_neg hn
          by_cases hp : r.push = true
          · have ec : r.chosen n = { r with rk := { r.rk with who := 1 - r.rk.who, phase := 2, hand := false }, push := false } := ec0.trans (if_pos hp)
            rw [ec, abs_live c2, abs_live (r := { r with rk := { r.rk with who := 1 - r.rk.who, phase := 2, hand := false }, push := false }) c2]
            refine ⟨?_, ok2⟩
            rw [if_pos hp, if_neg hn]
            dsimp only
            rw [← hh]
          · have ec : r.chosen n = ({ r with push := false } : R).rackUp r.rk.who := ec0.trans (if_neg hp)
            have hp' : r.push = false := by simpa using hp
            have okf := fresh_ok (r := { r with push := false }) o.sort o.live hw o.sa o.sb
            rw [ec]
            refine ⟨?_, okf⟩
            rw [if_neg hp, if_neg hn, abs_live c2, abs_live (r := ({ r with push := false } : R).rackUp r.rk.who) c2, hp']
            rfl
      rw [em, esp]
      dsimp only
      rw [ek.1, told_abs]
      exact ⟨rfl, rfl, .inr ek.2⟩
    · exact stay (-3) (er.trans (if_neg c3)) (by omega) (by
        unfold spec
        dsimp only
        rw [if_neg ns]
        show onRack r.abs _ = _
        rw [on_some (rack_live c2), if_pos c3]
        all_goals rfl)
theorem look_over {r : R} (c : r.over = true) : refLook (some r) = -2 := by
  show (if (!r.over) = true then (0 : Int) else -2) = -2
  rw [c]
  rfl
theorem look_live {r : R} (c : ¬ r.over = true) : refLook (some r) = 0 := by
  show (if (!r.over) = true then (0 : Int) else -2) = 0
  have : r.over = false := by simpa using c
  rw [this]
  rfl
theorem on_spec {o : Option R} (h : OkO o) : Same1 o .on := by
  unfold Same1
  cases o with
  | none => exact ⟨rfl, rfl, h⟩
  | some r =>
    by_cases c2 : r.over = true
    · have em : step (some r) .on = (some r, [refLook (some r)]) := if_pos (by rw [look_over c2]; omega)
      have es : spec (absO (some r)) .on = (absO (some r), num (-2)) := on_none (rack_over c2)
      rw [em, es, look_over c2]
      exact ⟨rfl, rfl, h⟩
    · have o := ok_live h c2
      have em : step (some r) .on = (some r, counted r.right) := if_neg (by rw [look_live c2]; omega)
      have es : spec (absO (some r)) .on = (r.abs, ⟨(r.rk.may r.sort).length, whole (r.rk.may r.sort)⟩) := on_some (rack_live c2)
      rw [em, es, right_may o]
      exact ⟨rfl, rfl, h⟩
theorem table_spec {o : Option R} (h : OkO o) : Same1 o .table := by
  unfold Same1
  cases o with
  | none => exact ⟨rfl, rfl, h⟩
  | some r =>
    by_cases c2 : r.over = true
    · have em : step (some r) .table = (some r, [refLook (some r)]) := if_pos (by rw [look_over c2]; omega)
      have es : spec (absO (some r)) .table = (absO (some r), num (-2)) := on_none (rack_over c2)
      rw [em, es, look_over c2]
      exact ⟨rfl, rfl, h⟩
    · have em : step (some r) .table = (some r, counted r.rk.balls) := if_neg (by rw [look_live c2]; omega)
      have es : spec (absO (some r)) .table = (r.abs, ⟨r.rk.balls.length, whole r.rk.balls⟩) := on_some (rack_live c2)
      rw [em, es]
      exact ⟨rfl, rfl, h⟩
theorem now_spec {o : Option R} (h : OkO o) : Same1 o .now := by
  unfold Same1
  cases o with
  | none => exact ⟨rfl, rfl, h⟩
  | some r =>
    by_cases c2 : r.over = true
    · have em : step (some r) .now = (some r, 0 :: r.stand) := by
        show (some r, (if r.over = true then 0 :: r.stand else 1 :: (r.stand ++ r.details))) = _
        rw [if_pos c2]
      have es : spec (absO (some r)) .now = (r.abs, ⟨0, told r.abs ++ []⟩) := by
        unfold spec
        show (r.abs, (⟨truth r.abs.rack.isSome, told r.abs ++ (match r.abs.rack with | some q => whole [q.group, q.foulsA, q.foulsB, r.abs.broke, truth r.abs.push] | none => [])⟩ : Ans)) = _
        rw [rack_over c2]
        rfl
      rw [em, es, told_abs, List.append_nil]
      exact ⟨rfl, rfl, h⟩
    · have em : step (some r) .now = (some r, 1 :: (r.stand ++ r.details)) := by
        show (some r, (if r.over = true then 0 :: r.stand else 1 :: (r.stand ++ r.details))) = _
        rw [if_neg c2]
      have es : spec (absO (some r)) .now = (r.abs, ⟨1, told r.abs ++ r.details⟩) := by
        unfold spec
        show (r.abs, (⟨truth r.abs.rack.isSome, told r.abs ++ (match r.abs.rack with | some q => whole [q.group, q.foulsA, q.foulsB, r.abs.broke, truth r.abs.push] | none => [])⟩ : Ans)) = _
        rw [rack_live c2]
        rfl
      rw [em, es, told_abs]
      exact ⟨rfl, rfl, h⟩
theorem step_spec {o : Option R} (h : OkO o) (c : Call) : Same1 o c := by
  cases c with
  | begin_ k n t w => exact begin_spec h k n t w
  | shot f cu lo ca pu l => exact shot_spec h f cu lo ca pu l
  | choose n => exact choose_spec h n
  | on => exact on_spec h
  | now => exact now_spec h
  | table => exact table_spec h
end Pr
namespace Pr
open Kg78
def rowsOf : Call → List (List Int)
  | .begin_ k n t w => [[1, k, n, t, w]]
  | .shot f cu lo ca pu l => [[2, f, cu, lo, ca, pu], l]
  | .choose n => [[3, n]]
  | .on => [[4]]
  | .now => [[5]]
  | .table => [[6]]
theorem whole_id (c : List (List Int)) : PyKg78.whole c = c := by
  unfold PyKg78.whole
  split <;> rfl
theorem asked_rows {c : List (List Int)} (h : Kg78Neutral.asked1 c = true) : ∃ k, c = rowsOf k ∧ Bd k := by
  unfold Kg78Neutral.asked1 at h
  split at h
  · exact ⟨.begin_ _ _ _ _, rfl, trivial⟩
  · rename_i f c o b p l
    refine ⟨.shot f c o b p l, rfl, ?_⟩
    simp only [Bool.and_eq_true] at h
    have := h.2.2.2.2.2
    unfold Kg78Neutral.row at this
    rw [Bool.and_eq_true] at this
    show l.length ≤ 16
    exact of_decide_eq_true this.2
  · exact ⟨.choose _, rfl, trivial⟩
  · exact ⟨.on, rfl, trivial⟩
  · exact ⟨.now, rfl, trivial⟩
  · exact ⟨.table, rfl, trivial⟩
  · cases h
theorem step_rows (s : State) (k : Call) : Kg78Neutral.step s (rowsOf k) = ((spec s k).1, (spec s k).2.value :: (spec s k).2.out) := by
  cases k <;> rfl
theorem shape_at {p : Int} {n k : Nat} (h : PyKg78.shape p = some (n, k)) : (p = 1 ∧ n = 4 ∧ k = 0) ∨ (p = 2 ∧ n = 5 ∧ k = 1) ∨ (p = 3 ∧ n = 1 ∧ k = 0) ∨ (4 ≤ p ∧ p ≤ 6 ∧ n = 0 ∧ k = 0) := by
  unfold PyKg78.shape at h
  repeat' split at h
  all_goals first | (cases h; omega) | (injection h with h; injection h with h1 h2; omega) | cases h
theorem call_flat {l t : List Int} {k : Call} (h : PyFlat.call PyKg78.shape l = some (rowsOf k, t)) : l = flat k ++ t := by
  cases l with
  | nil => cases h
  | cons p r =>
    unfold PyFlat.call at h
    dsimp only at h
    cases hs : PyKg78.shape p with
    | none => rw [hs] at h; cases h
    | some nk =>
      obtain ⟨n, m⟩ := nk
      rw [hs] at h
      dsimp only at h
      by_cases hl : r.length < n
      · rw [if_pos hl] at h; cases h
      rw [if_neg hl] at h
      have noRow : m = 0 → (p :: r.take n) :: [] = rowsOf k ∧ r.drop n = t := fun hm => by
        subst hm
        have : some ((p :: r.take n) :: [], r.drop n) = some (rowsOf k, t) := h
        injection this with this
        injection this with a b
        exact ⟨a, b⟩
      have plain : m = 0 → flat k = p :: r.take n → p :: r = flat k ++ t := fun hm e => by
        rw [e, ← (noRow hm).2]
        show p :: r = p :: (r.take n ++ r.drop n)
        rw [List.take_append_drop]
      rcases shape_at hs with ⟨rfl, rfl, rfl⟩ | ⟨rfl, rfl, rfl⟩ | ⟨rfl, rfl, rfl⟩ | ⟨p1, p2, rfl, rfl⟩
      · have e := (noRow rfl).1
        cases k with
        | begin_ a b c d => exact plain rfl (List.cons.inj e).1.symm
        | _ => exact absurd (List.cons.inj (List.cons.inj e).1).1 (by decide)
      · -- a shot: its row
        cases hr : PyFlat.rows 1 (r.drop 5) with
        | none => rw [hr] at h; cases h
        | some xt =>
          obtain ⟨xs, t'⟩ := xt
          rw [hr] at h
          dsimp only at h
          injection h with h
          injection h with e1 e2
          subst e2
          cases hd : r.drop 5 with
          | nil => rw [hd] at hr; cases hr
          | cons q s =>
            rw [hd] at hr
            unfold PyFlat.rows PyFlat.row at hr
            dsimp only at hr
            by_cases hq : 0 ≤ q ∧ q.toNat ≤ s.length
            · rw [if_pos hq] at hr
              have hr' : some (s.take q.toNat :: [], s.drop q.toNat) = some (xs, t') := hr
              injection hr' with hr'
              injection hr' with e3 e4
              subst e3 e4
              cases k with
              | shot f cu lo ca pu pot =>
                have a1 : 2 :: r.take 5 = [2, f, cu, lo, ca, pu] := (List.cons.inj e1).1
                have a2 : s.take q.toNat = pot := (List.cons.inj (List.cons.inj e1).2).1
                have a3 : q = (pot.length : Int) := by
                  rw [← a2, List.length_take, Nat.min_eq_left hq.2]
                  omega
                have a4 : r = r.take 5 ++ (q :: s) := by rw [← hd, List.take_append_drop]
                have a5 : r.take 5 = [f, cu, lo, ca, pu] := (List.cons.inj a1).2
                have a6 : s = pot ++ s.drop q.toNat := by rw [← a2, List.take_append_drop]
                show 2 :: r = 2 :: f :: cu :: lo :: ca :: pu :: (pot.length : Int) :: pot ++ s.drop q.toNat
                rw [a4, a5, ← a3]
                have a7 : 2 :: ([f, cu, lo, ca, pu] ++ q :: s) = 2 :: ([f, cu, lo, ca, pu] ++ q :: (pot ++ s.drop q.toNat)) := by rw [← a6]
                exact a7
              | _ => exact absurd (List.cons.inj (List.cons.inj e1).1).1 (by decide)
            · rw [if_neg hq] at hr
              cases hr
      · have e := (noRow rfl).1
        cases k with
        | choose a => exact plain rfl (List.cons.inj e).1.symm
        | _ => exact absurd (List.cons.inj (List.cons.inj e).1).1 (by decide)
      · have e := (noRow rfl).1
        cases k with
        | on => exact plain rfl (List.cons.inj e).1.symm
        | now => exact plain rfl (List.cons.inj e).1.symm
        | table => exact plain rfl (List.cons.inj e).1.symm
        | begin_ a b c d => exact absurd (List.cons.inj (List.cons.inj e).1).1 (by omega)
        | shot a b c d f l => exact absurd (List.cons.inj (List.cons.inj e).1).1 (by omega)
        | choose a => exact absurd (List.cons.inj (List.cons.inj e).1).1 (by omega)
theorem calls_flat : ∀ (f : Nat) (l : List Int) (raw : List (List (List Int))), PyFlat.calls PyKg78.shape f l = some raw → (∀ c ∈ raw, Kg78Neutral.asked1 c = true) → ∃ cs : List Call, l = cs.flatMap flat ∧ raw = cs.map rowsOf ∧ ∀ c ∈ cs, Bd c
  | f, [], raw, h, _ => by
    have : some ([] : List (List (List Int))) = some raw := by cases f <;> exact h
    injection this with this
    subst this
    exact ⟨[], rfl, rfl, fun c m => by cases m⟩
  | 0, _ :: _, _, h, _ => by cases h
  | f + 1, p :: r, raw, h, ha => by
    unfold PyFlat.calls at h
    cases hc : PyFlat.call PyKg78.shape (p :: r) with
    | none => rw [hc] at h; cases h
    | some ct =>
      obtain ⟨c, t⟩ := ct
      rw [hc] at h
      dsimp only at h
      cases ht : PyFlat.calls PyKg78.shape f t with
      | none => rw [ht] at h; cases h
      | some cs' =>
        rw [ht] at h
        dsimp only at h
        injection h with h
        subst h
        obtain ⟨k, e, hb⟩ := asked_rows (ha c List.mem_cons_self)
        subst e
        obtain ⟨cs, e1, e2, e3⟩ := calls_flat f t cs' ht fun c m => ha c (List.mem_cons_of_mem _ m)
        refine ⟨k :: cs, ?_, ?_, fun c m => ?_⟩
        · rw [List.flatMap_cons, ← e1]
          exact call_flat hc
        · rw [List.map_cons, e2]
        · rcases List.mem_cons.mp m with z | z
          · rw [z]; exact hb
          · exact e3 c z
theorem played_outs : ∀ (cs : List Call) (o : Option R), OkO o → PyFlat.told (PyFlat.played Kg78Neutral.step (absO o) (cs.map rowsOf)) = outs o cs
  | [], _, _ => rfl
  | c :: cs, o, h => by
    obtain ⟨h1, h2, h3⟩ := step_spec h c
    have ih := played_outs cs (step o c).1 h3
    rw [List.map_cons]
    unfold PyFlat.played
    rw [step_rows, h1, h2]
    unfold PyFlat.told at ih ⊢
    rw [List.flatMap_cons, ih]
    rfl
theorem asked_calls {l : List Int} (h : PyKg78.answers_asked l = true) : ∃ cs : List Call, l = cs.flatMap flat ∧ (∀ c ∈ cs, Bd c) ∧ PyKg78.answers l = outs none cs ∧ (outs none cs).length ≤ 10000000 := by
  unfold PyKg78.answers_asked at h
  cases hc : PyFlat.calls PyKg78.shape l.length l with
  | none => rw [hc] at h; cases h
  | some raw =>
    rw [hc] at h
    dsimp only at h
    simp only [Bool.and_eq_true] at h
    obtain ⟨⟨⟨_, _⟩, hA⟩, hS⟩ := h
    have em : raw.map PyKg78.whole = raw := by
      rw [show PyKg78.whole = id from funext whole_id, List.map_id]
    rw [em] at hA
    unfold Kg78Neutral.asked at hA
    rw [Bool.and_eq_true, List.all_eq_true] at hA
    obtain ⟨cs, e1, e2, e3⟩ := calls_flat _ _ _ hc hA.1
    have ea : PyKg78.answers l = outs none cs := by
      unfold PyKg78.answers PyKg78.calls
      rw [hc]
      dsimp only
      rw [em, e2]
      exact played_outs cs none trivial
    refine ⟨cs, e1, e3, ea, ?_⟩
    rw [← ea]
    exact of_decide_eq_true hS
theorem step_ok {o : Option R} (h : OkO o) (c : Call) : OkO (step o c).1 := (step_spec h c).2.2
end Pr
namespace Pr
open PySem PySem.Spec PyProof.Rows L2
open PySem.W (Codec)
/-! ### the text by places -/
def top (i : Nat) : Stmt := PySem.Challenge.pw_poolreferee_s01_answers.main.body.getD i (.Pass ⟨0, 0, 0, 0⟩)

/-! ### fields -/
theorem lk_here {k : Str} {v : V} {r : List (Str × V)} : List.lookup k ((k, v) :: r) = some v := by
  have e : (k == k) = true := beq_self_eq_true k
  simp only [List.lookup, e]
theorem put_here {f : Str} {v x : V} {r : List (Str × V)} : putF f v ((f, x) :: r) = (f, v) :: r := if_pos rfl
theorem put_past {f g : Str} {v x : V} {r : List (Str × V)} (h : ¬ g = f) : putF f v ((g, x) :: r) = (g, x) :: putF f v r := if_neg h
abbrev num (n : Nat) : V := .int (n : Int)
/-- where a race's own dict and its four lists stand -/
structure Ft where
  dx : Addr
  aw : Addr
  ab : Addr
  ag : Addr
  af : Addr
def pF (r : R) (f : Ft) : List (Str × V) := [("game", num r.sort), ("goal", num r.to), ("by_turns", num (Kg78.truth r.turns)), ("won", .ref f.aw), ("over", .bl r.over)]
def rF (r : R) (f : Ft) : List (Str × V) := [("game", num r.sort), ("goal", num r.to), ("by_turns", num (Kg78.truth r.turns)), ("won", .ref f.aw), ("over", .bl r.over),
  ("breaker", num r.broke), ("turn", num r.rk.who), ("phase", num r.rk.phase), ("in_hand", num (Kg78.truth r.rk.hand)), ("balls", .ref f.ab), ("groups", .ref f.ag), ("fouls", .ref f.af), ("choice_of_push", num (Kg78.truth r.push))]
def qF (r : R) (f : Ft) : List (Str × V) := [("breaker", num r.broke), ("turn", num r.rk.who), ("phase", num r.rk.phase), ("in_hand", num (Kg78.truth r.rk.hand)), ("balls", .ref f.ab), ("groups", .ref f.ag), ("fouls", .ref f.af), ("choice_of_push", num (Kg78.truth r.push))]
theorem rl_game (r : R) (f : Ft) : (rF r f).lookup ("game" : Str) = some (num r.sort) := rfl
theorem rl_goal (r : R) (f : Ft) : (rF r f).lookup ("goal" : Str) = some (num r.to) := rfl
theorem rl_by_turns (r : R) (f : Ft) : (rF r f).lookup ("by_turns" : Str) = some (num (Kg78.truth r.turns)) := rfl
theorem rl_won (r : R) (f : Ft) : (rF r f).lookup ("won" : Str) = some (.ref f.aw) := rfl
theorem rl_over (r : R) (f : Ft) : (rF r f).lookup ("over" : Str) = some (.bl r.over) := rfl
theorem rl_breaker (r : R) (f : Ft) : (rF r f).lookup ("breaker" : Str) = some (num r.broke) := rfl
theorem rl_turn (r : R) (f : Ft) : (rF r f).lookup ("turn" : Str) = some (num r.rk.who) := rfl
theorem rl_phase (r : R) (f : Ft) : (rF r f).lookup ("phase" : Str) = some (num r.rk.phase) := rfl
theorem rl_in_hand (r : R) (f : Ft) : (rF r f).lookup ("in_hand" : Str) = some (num (Kg78.truth r.rk.hand)) := rfl
theorem rl_balls (r : R) (f : Ft) : (rF r f).lookup ("balls" : Str) = some (.ref f.ab) := rfl
theorem rl_groups (r : R) (f : Ft) : (rF r f).lookup ("groups" : Str) = some (.ref f.ag) := rfl
theorem rl_fouls (r : R) (f : Ft) : (rF r f).lookup ("fouls" : Str) = some (.ref f.af) := rfl
theorem rl_choice_of_push (r : R) (f : Ft) : (rF r f).lookup ("choice_of_push" : Str) = some (num (Kg78.truth r.push)) := rfl
theorem rn_begin_rack (r : R) (f : Ft) : (rF r f).lookup ("begin_rack" : Str) = none := rfl
theorem rn_take_off (r : R) (f : Ft) : (rF r f).lookup ("take_off" : Str) = none := rfl
theorem rn_play_on (r : R) (f : Ft) : (rF r f).lookup ("play_on" : Str) = none := rfl
theorem rn_pass_turn (r : R) (f : Ft) : (rF r f).lookup ("pass_turn" : Str) = none := rfl
theorem rn_let_other_choose (r : R) (f : Ft) : (rF r f).lookup ("let_other_choose" : Str) = none := rfl
theorem rn_end_rack (r : R) (f : Ft) : (rF r f).lookup ("end_rack" : Str) = none := rfl
theorem rn_standing (r : R) (f : Ft) : (rF r f).lookup ("standing" : Str) = none := rfl
theorem rn_rack_details (r : R) (f : Ft) : (rF r f).lookup ("rack_details" : Str) = none := rfl
theorem rp_over (r : R) (f : Ft) (c : Bool) : putF "over" (.bl c) (rF r f) = rF { r with over := c } f := rfl
theorem rp_turn (r : R) (f : Ft) {z : Int} (n : Nat) (e : z = (n : Int)) : putF "turn" (.int z) (rF r f) = rF { r with rk := { r.rk with who := n } } f := by subst e; rfl
theorem rp_phase (r : R) (f : Ft) {z : Int} (n : Nat) (e : z = (n : Int)) : putF "phase" (.int z) (rF r f) = rF { r with rk := { r.rk with phase := n } } f := by subst e; rfl
theorem rp_in_hand (r : R) (f : Ft) {z : Int} (c : Bool) (e : z = (Kg78.truth c : Nat)) : putF "in_hand" (.int z) (rF r f) = rF { r with rk := { r.rk with hand := c } } f := by subst e; rfl
theorem rp_push (r : R) (f : Ft) {z : Int} (c : Bool) (e : z = (Kg78.truth c : Nat)) : putF "choice_of_push" (.int z) (rF r f) = rF { r with push := c } f := by subst e; rfl
theorem rp_balls (r : R) (f : Ft) (p : Addr) : putF "balls" (.ref p) (rF r f) = rF r { f with ab := p } := rfl
def sF (x : SI) (p : Addr) : List (Str × V) := [("first", .int x.first), ("cushions", .int x.cushions), ("lost", .int x.lost), ("called", .int x.called), ("push", .int x.push), ("potted", .ref p)]
theorem sl_first (x : SI) (p : Addr) : (sF x p).lookup ("first" : Str) = some (.int x.first) := rfl
theorem sl_cushions (x : SI) (p : Addr) : (sF x p).lookup ("cushions" : Str) = some (.int x.cushions) := rfl
theorem sl_lost (x : SI) (p : Addr) : (sF x p).lookup ("lost" : Str) = some (.int x.lost) := rfl
theorem sl_called (x : SI) (p : Addr) : (sF x p).lookup ("called" : Str) = some (.int x.called) := rfl
theorem sl_push (x : SI) (p : Addr) : (sF x p).lookup ("push" : Str) = some (.int x.push) := rfl
theorem sl_potted (x : SI) (p : Addr) : (sF x p).lookup ("potted" : Str) = some (.ref p) := rfl
theorem lk_put {f g : Str} {v : V} {fs : List (Str × V)} (h : ¬ g = f) : (putF f v fs).lookup g = fs.lookup g := by
  rw [lookup_putF, if_neg h]
theorem len_put {f : Str} {v : V} {fs : List (Str × V)} {n : Nat} (h : fs.length ≤ n) : (putF f v fs).length ≤ n + 1 := Nat.le_trans (length_putF f v fs) (Nat.succ_le_succ h)
theorem len_rF (r : R) (f : Ft) : (rF r f).length < 1000 := (by show 13 < 1000; decide)
/-! ### a race, a shot, a referee in the heap -/
abbrev wh (l : List Nat) : List V := (Kg78.whole l).map V.int
structure RaceAt (C : Addr) (H : Hp) (a : Addr) (f : Ft) (r : R) : Prop where
  ins : H a = some (.ins C f.dx (rF r f))
  won : H f.aw = some (.lst [num r.a, num r.b])
  balls : H f.ab = some (.lst (wh r.rk.balls))
  groups : H f.ag = some (.lst [num (r.side 0), num (r.side 1)])
  fouls : H f.af = some (.lst [num r.rk.foulsA, num r.rk.foulsB])
  n1 : f.aw ≠ f.ab
  n2 : f.aw ≠ f.ag
  n3 : f.aw ≠ f.af
  n4 : f.ab ≠ f.ag
  n5 : f.ab ≠ f.af
  n6 : f.ag ≠ f.af
def Ft.on (f : Ft) (a : Addr) : List Addr := [a, f.aw, f.ab, f.ag, f.af]
/-- what is not of S stands as it was; what is of S' was of S, or is new -/
structure Step (H H' : Hp) (S S' : List Addr) : Prop where
  keep : ∀ b o, H b = some o → b ∉ S → H' b = some o
  new : ∀ b, b ∈ S' → b ∈ S ∨ H b = none
theorem Step.of_same {H H' : Hp} {S : List Addr} (h : Same H H') : Step H H' S S := ⟨fun b o e _ => h b o e, fun b m => .inl m⟩
theorem Step.refl {H : Hp} {S : List Addr} : Step H H S S := .of_same (.refl H)
theorem Step.free {H H' : Hp} {S S' : List Addr} (h : Step H H' S S') {b : Addr} (e : H' b = none) : H b = none ∨ b ∈ S := by
  cases q : H b with
  | none => exact .inl rfl
  | some o =>
    by_cases m : b ∈ S
    · exact .inr m
    · rw [h.keep b o q m] at e
      cases e
theorem Step.out {H H' : Hp} {S S' : List Addr} (h : Step H H' S S') {b : Addr} {o : HO} (e : H b = some o) (m : b ∉ S) : b ∉ S' := fun q => by
  rcases h.new b q with z | z
  · exact m z
  · rw [e] at z
    cases z
theorem Step.trans {H H1 H2 : Hp} {S S1 S2 : List Addr} (x : Step H H1 S S1) (y : Step H1 H2 S1 S2) : Step H H2 S S2 :=
  ⟨fun b o e m => y.keep b o (x.keep b o e m) (x.out e m), fun b m => by
    rcases y.new b m with z | z
    · exact x.new b z
    · exact (x.free z).symm⟩
theorem Step.wide {H H' : Hp} {S S' : List Addr} (h : Step H H' S S') (a : Addr) : Step H H' (a :: S) (a :: S') :=
  ⟨fun b o e m => h.keep b o e fun z => m (List.mem_cons_of_mem _ z), fun b m => by
    rcases List.mem_cons.mp m with z | z
    · exact .inl (by rw [z]; exact List.mem_cons_self)
    · rcases h.new b z with y | y
      · exact .inl (List.mem_cons_of_mem _ y)
      · exact .inr y⟩
theorem Step.upd {H : Hp} {S : List Addr} {a : Addr} {o : HO} (m : a ∈ S) : Step H (upd H a o) S S :=
  ⟨fun b u e n => by rw [upd_ne (show b ≠ a from fun z => n (by rw [z]; exact m))]; exact e, fun b m => .inl m⟩
theorem same_upd {H : Hp} {p : Addr} {o : HO} (h : H p = none) : Same H (L2.upd H p o) := fun b u e => by
  rw [upd_ne (ne_of_none e h)]
  exact e
section
variable {C : Addr} {H H' : Hp} {a : Addr} {f : Ft} {r : R}
theorem RaceAt.same (h : RaceAt C H a f r) (s : Same H H') : RaceAt C H' a f r :=
  ⟨s _ _ h.ins, s _ _ h.won, s _ _ h.balls, s _ _ h.groups, s _ _ h.fouls, h.n1, h.n2, h.n3, h.n4, h.n5, h.n6⟩
theorem RaceAt.aw (h : RaceAt C H a f r) : f.aw ≠ a := ne_of h.won h.ins (fun z => by cases z)
theorem RaceAt.ab (h : RaceAt C H a f r) : f.ab ≠ a := ne_of h.balls h.ins (fun z => by cases z)
theorem RaceAt.ag (h : RaceAt C H a f r) : f.ag ≠ a := ne_of h.groups h.ins (fun z => by cases z)
theorem RaceAt.af (h : RaceAt C H a f r) : f.af ≠ a := ne_of h.fouls h.ins (fun z => by cases z)
/-- a field is stored that is no list -/
theorem RaceAt.fld (h : RaceAt C H a f r) {r' : R} (e1 : r'.a = r.a := by rfl) (e2 : r'.b = r.b := by rfl) (e3 : r'.rk.balls = r.rk.balls := by rfl) (e4 : r'.rk.group = r.rk.group := by rfl)
    (e5 : r'.rk.foulsA = r.rk.foulsA := by rfl) (e6 : r'.rk.foulsB = r.rk.foulsB := by rfl) : RaceAt C (upd H a (.ins C f.dx (rF r' f))) a f r' := by
  refine ⟨upd_same, ?_, ?_, ?_, ?_, h.n1, h.n2, h.n3, h.n4, h.n5, h.n6⟩
  · rw [upd_ne h.aw, e1, e2]; exact h.won
  · rw [upd_ne h.ab, e3]; exact h.balls
  · rw [upd_ne h.ag]
    have e : ∀ w, r'.side w = r.side w := fun w => by unfold R.side; rw [e4]
    rw [e, e]; exact h.groups
  · rw [upd_ne h.af, e5, e6]; exact h.fouls
/-- one of the four lists is stored into: won -/
theorem RaceAt.setWon (h : RaceAt C H a f r) {x y : Nat} : RaceAt C (upd H f.aw (.lst [num x, num y])) a f { r with a := x, b := y } := by
  refine ⟨?_, upd_same, ?_, ?_, ?_, h.n1, h.n2, h.n3, h.n4, h.n5, h.n6⟩
  · rw [upd_ne h.aw.symm]; exact h.ins
  · rw [upd_ne h.n1.symm]; exact h.balls
  · rw [upd_ne h.n2.symm]; exact h.groups
  · rw [upd_ne h.n3.symm]; exact h.fouls
theorem RaceAt.setFouls (h : RaceAt C H a f r) {x y : Nat} : RaceAt C (upd H f.af (.lst [num x, num y])) a f { r with rk := { r.rk with foulsA := x, foulsB := y } } := by
  refine ⟨?_, ?_, ?_, ?_, upd_same, h.n1, h.n2, h.n3, h.n4, h.n5, h.n6⟩
  · rw [upd_ne h.af.symm]; exact h.ins
  · rw [upd_ne h.n3]; exact h.won
  · rw [upd_ne h.n5]; exact h.balls
  · rw [upd_ne h.n6]; exact h.groups
theorem RaceAt.setGroups (h : RaceAt C H a f r) {g x y : Nat} (ex : x = ({ r with rk := { r.rk with group := g } } : R).side 0) (ey : y = ({ r with rk := { r.rk with group := g } } : R).side 1) : RaceAt C (upd H f.ag (.lst [num x, num y])) a f { r with rk := { r.rk with group := g } } := by
  refine ⟨?_, ?_, ?_, ?_, ?_, h.n1, h.n2, h.n3, h.n4, h.n5, h.n6⟩
  · rw [upd_ne h.ag.symm]; exact h.ins
  · rw [upd_ne h.n2]; exact h.won
  · rw [upd_ne h.n4]; exact h.balls
  · rw [upd_same, ex, ey]
  · rw [upd_ne h.n6.symm]; exact h.fouls
end
structure ShotAt (C : Addr) (H : Hp) (b p : Addr) (x : SI) : Prop where
  ins : ∃ dx, H b = some (.ins C dx (sF x p))
  lst : H p = some (.lst (x.potted.map V.int))
theorem ShotAt.same {C : Addr} {H H' : Hp} {b p : Addr} {x : SI} (h : ShotAt C H b p x) (s : Same H H') : ShotAt C H' b p x := by
  obtain ⟨dx, e⟩ := h.ins
  exact ⟨⟨dx, s _ _ e⟩, s _ _ h.lst⟩
theorem ShotAt.step {C : Addr} {H H' : Hp} {b p : Addr} {x : SI} {S S' : List Addr} (h : ShotAt C H b p x) (s : Step H H' S S') (nb : b ∉ S) (np : p ∉ S) : ShotAt C H' b p x ∧ b ∉ S' ∧ p ∉ S' := by
  obtain ⟨dx, e⟩ := h.ins
  exact ⟨⟨⟨dx, s.keep _ _ e nb⟩, s.keep _ _ h.lst np⟩, s.out e nb, s.out h.lst np⟩
def fF (v : V) : List (Str × V) := [("race", v)]
/-- a referee: no race yet, or one at b -/
inductive RefAt (CF CR : Addr) (H : Hp) (a : Addr) : List Addr → Option R → Prop where
  | none (dx : Addr) (h : H a = some (.ins CF dx (fF .non))) : RefAt CF CR H a [a] none
  | some (dx b : Addr) (f : Ft) (r : R) (h : H a = some (.ins CF dx (fF (.ref b)))) (q : RaceAt CR H b f r) : RefAt CF CR H a (a :: f.on b) (some r)
theorem fl_race (v : V) : (fF v).lookup ("race" : Str) = some v := rfl
theorem fp_race (v u : V) : putF "race" u (fF v) = fF u := rfl
theorem fF_ne {r : R} {f : Ft} {v : V} {C C' dx dx' : Addr} : HO.ins C dx (fF v) ≠ HO.ins C' dx' (rF r f) := fun z => by
  injection z with _ _ z
  have := congrArg List.length z
  simp [fF, rF] at this
theorem sF_ne {r : R} {f : Ft} {x : SI} {p : Addr} {C C' dx dx' : Addr} : HO.ins C dx (sF x p) ≠ HO.ins C' dx' (rF r f) := fun z => by
  injection z with _ _ z
  have := congrArg List.length z
  simp [sF, rF] at this
/-- a module's whole number -/
def GI (mg : Str → Option Value) (x : Str) (n : Int) : Prop := ∃ t, mg x = some (.int n t)
structure Txt (K : PySem.W.Frag) (mg : Str → Option Value) (CS CR CF : Addr) : Prop where
  clS : Cls K CS
  clR : Cls K CR
  clF : Cls K CF
  nS_first : NoAttr K CS "first"
  nS_cushions : NoAttr K CS "cushions"
  nS_lost : NoAttr K CS "lost"
  nS_called : NoAttr K CS "called"
  nS_push : NoAttr K CS "push"
  nS_potted : NoAttr K CS "potted"
  nR_game : NoAttr K CR "game"
  nR_goal : NoAttr K CR "goal"
  nR_by_turns : NoAttr K CR "by_turns"
  nR_won : NoAttr K CR "won"
  nR_over : NoAttr K CR "over"
  nR_breaker : NoAttr K CR "breaker"
  nR_turn : NoAttr K CR "turn"
  nR_phase : NoAttr K CR "phase"
  nR_in_hand : NoAttr K CR "in_hand"
  nR_balls : NoAttr K CR "balls"
  nR_groups : NoAttr K CR "groups"
  nR_fouls : NoAttr K CR "fouls"
  nR_choice_of_push : NoAttr K CR "choice_of_push"
  nF_race : NoAttr K CF "race"
  gS : mg "Shot" = some (.ref CS)
  gR : mg "RaceState" = some (.ref CR)
  gF : mg "Referee" = some (.ref CF)
  c_EIGHT_BALL : GI mg "EIGHT_BALL" 8
  c_NINE_BALL : GI mg "NINE_BALL" 9
  c_PHASE_BREAK : GI mg "PHASE_BREAK" 0
  c_PHASE_BEHIND_BREAK : GI mg "PHASE_BEHIND_BREAK" 1
  c_PHASE_PLAY : GI mg "PHASE_PLAY" 2
  c_PHASE_CHOICE : GI mg "PHASE_CHOICE" 3
  c_NO_GROUP : GI mg "NO_GROUP" 0
  c_LOW : GI mg "LOW" 1
  c_HIGH : GI mg "HIGH" 2
  c_ANSWER_FAIR : GI mg "ANSWER_FAIR" 0
  c_ANSWER_FOUL : GI mg "ANSWER_FOUL" 1
  c_ANSWER_WON_BY_FIRST_SIDE : GI mg "ANSWER_WON_BY_FIRST_SIDE" 2
  c_EIGHT : GI mg "EIGHT" 8
  c_NINE : GI mg "NINE" 9
  c_CALL_BEGIN : GI mg "CALL_BEGIN" 1
  c_CALL_SHOT : GI mg "CALL_SHOT" 2
  c_CALL_CHOOSE : GI mg "CALL_CHOOSE" 3
  c_CALL_ON : GI mg "CALL_ON" 4
  c_CALL_NOW : GI mg "CALL_NOW" 5
  b_len : mg "len" = none
  b_range : mg "range" = none
  b_list : mg "list" = none
  b_min : mg "min" = none
  b_all : mg "all" = none
/-! ### defs, methods, classes that are called -/
def CalF (P : Program) (w : World) (K : PySem.W.Frag) (mg : Str → Option Value) (base : Heap) (x : Str) (k : Nat) (ps : List Str) (sp : Sp) : Prop :=
  ∃ f fd, FnOk P w K mg base CX0 k f fd ps sp ∧ mg x = some (.ref f) ∧ PySem.W.keepIn K (.ref f) = true ∧ Binds K fd ps []
def CalM (P : Program) (w : World) (K : PySem.W.Frag) (mg : Str → Option Value) (base : Heap) (C : Addr) (m : Str) (k : Nat) (ps : List Str) (sp : Sp) : Prop :=
  ∃ f fd, FnOk P w K mg base CX0 k f fd ps sp ∧ Meth K C m f ∧ Binds K fd ps []
def CalC (P : Program) (w : World) (K : PySem.W.Frag) (mg : Str → Option Value) (base : Heap) (C : Addr) (k : Nat) (ps : List Str) (sp : Sp) : Prop :=
  ∃ f fd, FnOk P w K mg base CX0 k f fd ps sp ∧ Mk K C f ∧ Binds K fd ps []
def DefF (K : PySem.W.Frag) (mg : Str → Option Value) (x : Str) (st : Stmt) : Prop := ∃ f fd, Fun K x x st f fd ∧ mg x = some (.ref f)
def DefM (K : PySem.W.Frag) (C : Addr) (m qual : Str) (st : Stmt) : Prop := ∃ f fd, Fun K m qual st f fd ∧ Meth K C m f
def DefC (K : PySem.W.Frag) (C : Addr) (qual : Str) (st : Stmt) : Prop := ∃ f fd, Fun K "__init__" qual st f fd ∧ Mk K C f
section
variable {X : Cx} {k : Nat} {ps : List Str} {sp : Sp} {x m : Str} {C : Addr} {e o : Expr} {es : List Expr} {ta : TE} {t : TA} {p pos apos : Pos} {pl : Sem Bool}
theorem pe_cf (c : CalF X.prog X.w X.K X.mg X.base x k ps sp) (hr : Room k X.A) (hg : Gl X x) (ha : PA X (e :: es) t) (hdb : (x == ("__debug__" : Str)) = false := by decide)
    (he : starEach (e :: es) X.env = (false, eval e X.env) :: starEach es X.env := by rfl) (hpl : (backTo pos (starEach es X.env)).any (·.1) = false := by rfl) : PE X (.Call (.Name x p) (e :: es) [] pos) (tCall sp [] E0 t) := by
  obtain ⟨f, fd, F, hm, kp, b⟩ := c
  exact pe_call F hr hg hm kp b .nil pass0 ha hdb he hpl
theorem pe_cm (c : CalM X.prog X.w X.K X.mg X.base C m k ps sp) (cl : Cls X.K C) (hr : Room k X.A) (he : PE X o ta) (ha : PA X (e :: es) t)
    (hst : starEach (e :: es) X.env = (false, eval e X.env) :: starEach es X.env := by rfl) (hpl : (backTo pos (starEach es X.env)).any (·.1) = false := by rfl)
    (ht : eval (.Call (.Attribute o m apos) (e :: es) [] pos) X.env = (do
      let ov ← eval o X.env
      standAt apos.atName
      let (f, first) ← holding [ov] (getMethod ov m pl)
      callWith pos f first (backTo pos (starEach (e :: es) X.env)) (backToKw pos (keywordEach [] X.env))) := by rfl) :
    PE X (.Call (.Attribute o m apos) (e :: es) [] pos) (tMeth C m sp [] E0 ta t) := by
  obtain ⟨f, fd, F, hm, b⟩ := c
  exact pe_meth he cl hm F hr b .nil pass0 ha hst hpl ht
theorem pe_cm0 (c : CalM X.prog X.w X.K X.mg X.base C m k ps sp) (cl : Cls X.K C) (hr : Room k X.A) (he : PE X o ta)
    (ht : eval (.Call (.Attribute o m apos) [] [] pos) X.env = (do
      let ov ← eval o X.env
      standAt apos.atName
      let (f, first) ← holding [ov] (getMethod ov m pl)
      callWith pos f first (backTo pos (starEach [] X.env)) (backToKw pos (keywordEach [] X.env))) := by rfl) :
    PE X (.Call (.Attribute o m apos) [] [] pos) (tMeth C m sp [] E0 ta tNil) := by
  obtain ⟨f, fd, F, hm, b⟩ := c
  exact pe_meth0 he cl hm F hr b .nil pass0 ht
theorem pe_cc (c : CalC X.prog X.w X.K X.mg X.base C k ps sp) (hr : Room (k + 1) X.A) (hg : Gl X x) (hm : X.mg x = some (.ref C)) (ha : PA X (e :: es) t) (hdb : (x == ("__debug__" : Str)) = false := by decide)
    (he : starEach (e :: es) X.env = (false, eval e X.env) :: starEach es X.env := by rfl) (hpl : (backTo pos (starEach es X.env)).any (·.1) = false := by rfl) : PE X (.Call (.Name x p) (e :: es) [] pos) (tMake C sp [] E0 t) := by
  obtain ⟨f, fd, F, M, b⟩ := c
  exact pe_make M F hr hg hm b .nil pass0 ha hdb he hpl
theorem pe_cc0 (c : CalC X.prog X.w X.K X.mg X.base C k ps sp) (hr : Room (k + 1) X.A) (hg : Gl X x) (hm : X.mg x = some (.ref C)) (hdb : (x == ("__debug__" : Str)) = false := by decide) : PE X (.Call (.Name x p) [] [] pos) (tMake C sp [] E0 tNil) := by
  obtain ⟨f, fd, F, M, b⟩ := c
  exact pe_make0 M F hr hg hm b .nil pass0 hdb
theorem pe_gi {n : Int} (c : GI X.mg x n) (hg : Gl X x) (hd : (x == ("__debug__" : Str)) = false := by decide) : PE X (.Name x pos) (tC (.int n)) := by
  obtain ⟨t, hm⟩ := c
  exact pe_glob hg hm ⟨t, rfl⟩ hd
end
section
variable {P : Program} {w : World} {K : PySem.W.Frag} {mg : Str → Option Value} {base : Heap} {k : Nat} {ps : List Str} {sp : Sp}
theorem DefF.cal {x : Str} {st : Stmt} (d : DefF K mg x st) (g : ∀ f fd, Fun K x x st f fd → FnOk P w K mg base CX0 k f fd ps sp)
    (h : ∀ (kV doc pm : Value) (an : Option Addr) (cdv ct : Value) (us : List Value), us.length = ps.length → bindArgs (PySem.W.fnOf x x (defArgs st) (defBody st) (defScope st) .none kV doc pm an cdv ct) ⟨us, []⟩ = pure (ps.zip us)) : CalF P w K mg base x k ps sp := by
  obtain ⟨f, fd, F, m⟩ := d
  exact ⟨f, fd, g f fd F, m, F.kp, F.binds h⟩
theorem DefM.cal {C : Addr} {m qual : Str} {st : Stmt} (d : DefM K C m qual st) (g : ∀ f fd, Fun K m qual st f fd → FnOk P w K mg base CX0 k f fd ps sp)
    (h : ∀ (kV doc pm : Value) (an : Option Addr) (cdv ct : Value) (us : List Value), us.length = ps.length → bindArgs (PySem.W.fnOf m qual (defArgs st) (defBody st) (defScope st) .none kV doc pm an cdv ct) ⟨us, []⟩ = pure (ps.zip us)) : CalM P w K mg base C m k ps sp := by
  obtain ⟨f, fd, F, M⟩ := d
  exact ⟨f, fd, g f fd F, M, F.binds h⟩
theorem DefC.cal {C : Addr} {qual : Str} {st : Stmt} (d : DefC K C qual st) (g : ∀ f fd, Fun K "__init__" qual st f fd → FnOk P w K mg base CX0 k f fd ps sp)
    (h : ∀ (kV doc pm : Value) (an : Option Addr) (cdv ct : Value) (us : List Value), us.length = ps.length → bindArgs (PySem.W.fnOf "__init__" qual (defArgs st) (defBody st) (defScope st) .none kV doc pm an cdv ct) ⟨us, []⟩ = pure (ps.zip us)) : CalC P w K mg base C k ps sp := by
  obtain ⟨f, fd, F, M⟩ := d
  exact ⟨f, fd, g f fd F, M, F.binds h⟩
end
theorem len0 (l : List Int) : decide (V.int ((l.map V.int).length : Int) = V.int 0) = l.isEmpty := by
  cases l with
  | nil => rfl
  | cons a r =>
    refine decide_eq_false fun z => ?_
    injection z with z
    rw [List.length_map, List.length_cons] at z
    omega
theorem dint (i j : Int) : decide (V.int i = V.int j) = decide (i = j) := by
  by_cases h : i = j
  · subst h; simp
  · rw [decide_eq_false h, decide_eq_false (fun z => h (V.int.inj z))]
theorem ifC {c : Bool} {A B : Prop} (h1 : c = true → A) (h2 : c = false → B) : if c = true then A else B := by
  cases c with
  | true => exact iteT (h1 rfl)
  | false => exact iteF (h2 rfl)
section
variable {P : Program} {w : World} {K : PySem.W.Frag} {mg : Str → Option Value} {base : Heap} {CS CR CF : Addr}
abbrev sWeak : Stmt := top 3
theorem scWeak : FnScope ["shot"] ["shot"] (defScope sWeak) := ⟨rfl, rfl, rfl, by decide +kernel, rfl, by decide +kernel, by decide +kernel⟩
def spWeak (CS : Addr) : Sp := fun vs H Q _ => ∃ (b p : Addr) (x : SI), vs = [.ref b] ∧ ShotAt CS H b p x ∧ Q (.bl (weak x)) H
theorem ok_weak (T : Txt K mg CS CR CF) (D : DefF K mg "is_weak_break" sWeak) : CalF P w K mg base "is_weak_break" 1 ["shot"] (spWeak CS) := by
  refine D.cal (fun f fd F => F.ok scWeak (fun vs H Q E h => ?_) (fun cdv A outer s H vs Q E hr h => ?_)) (fun _ _ _ _ _ _ us hl => match us, hl with | [_], _ => rfl)
  · obtain ⟨b, p, x, rfl, _⟩ := h
    rfl
  · obtain ⟨b, p, x, rfl, ⟨⟨dx, hb⟩, hp⟩, q⟩ := h
    refine ⟨_, pss_one (ps_ret (pe_and (pe_cmpR op_eq (pe_callB call_len_seq (by rfl) T.b_len PySem.boot_len (pa_cons (pe_fld (pv 0) rfl) pa_nil)) pe_int (nomark _)) (pe_one (pe_cmpR op_lt (pe_fld (pv 0) rfl) pe_int (nomark _))))), ?_⟩
    refine ⟨_, rfl, b, CS, dx, _, _, rfl, hb, T.clS, T.nS_potted, sl_potted x p, p, _, rfl, .inl (SqL.of hp), rfl, _, rfl, ?_⟩
    rw [len0]
    refine ifC (fun c => ?_) fun c => ?_
    · refine ⟨_, rfl, b, CS, dx, _, _, rfl, hb, T.clS, T.nS_cushions, sl_cushions x p, _, _, rfl, rfl, ?_⟩
      unfold weak at q
      rw [c] at q
      exact q
    · unfold weak at q
      rw [c] at q
      exact q
abbrev sFoul : Stmt := top 2
theorem scFoul : FnScope ["shot", "right"] ["shot", "right"] (defScope sFoul) := ⟨rfl, rfl, rfl, by decide +kernel, rfl, by decide +kernel, by decide +kernel⟩
def spFoul (CS : Addr) : Sp := fun vs H Q _ => ∃ (b p d : Addr) (x : SI) (l : List Int), vs = [.ref b, .ref d] ∧ ShotAt CS H b p x ∧ H d = some (.lst (l.map V.int)) ∧ Q (.bl (foulC x l)) H
theorem flat_ints (l : List Int) : (l.map V.int).all flatV = true := by
  rw [List.all_map]
  exact List.all_eq_true.mpr fun x _ => rfl
theorem in_ints (z : Int) (l : List Int) : inV (.int z) (l.map V.int) = l.contains z := by
  unfold inV
  rw [List.any_map]
  induction l with
  | nil => rfl
  | cons a r ih =>
    rw [List.any_cons, ih, List.contains_cons]
    refine congrArg (· || r.contains z) ?_
    show eqV (V.int a) (V.int z) = (z == a)
    show (a == z) = (z == a)
    exact Bool.beq_comm
theorem ok_foul (T : Txt K mg CS CR CF) (D : DefF K mg "is_common_foul" sFoul) : CalF P w K mg base "is_common_foul" 1 ["shot", "right"] (spFoul CS) := by
  refine D.cal (fun f fd F => F.ok scFoul (fun vs H Q E h => ?_) (fun cdv A outer s H vs Q E hr h => ?_)) (fun _ _ _ _ _ _ us hl => match us, hl with | [_, _], _ => rfl)
  · obtain ⟨b, p, d, x, l, rfl, _⟩ := h
    rfl
  · obtain ⟨b, p, d, x, l, rfl, ⟨⟨dx, hb⟩, hp⟩, hd, q⟩ := h
    refine ⟨_, pss_cons (ps_if (PW.pt (pw_or (pt_cmpR op_eq (pe_fld (pv 0) rfl) pe_int (nomark _)) (pw_or1 (pt_cmpR op_notIn_seq (pe_fld (pv 0) rfl) (pv 1) (by rfl))))) (pss_one (ps_ret pe_bl)) pss_nil)
      (pss_one (ps_ret (pe_and (pe_cmpR op_eq (pe_callB call_len_seq (by rfl) T.b_len PySem.boot_len (pa_cons (pe_fld (pv 0) rfl) pa_nil)) pe_int (nomark _)) (pe_one (pe_cmpR op_eq (pe_fld (pv 0) rfl) pe_int (nomark _)))))), ?_⟩
    unfold foulC at q
    refine ⟨_, rfl, b, CS, dx, _, _, rfl, hb, T.clS, T.nS_lost, sl_lost x p, rfl, _, rfl, ?_⟩
    rw [dint]
    refine ifC (fun c => ?_) fun c => ?_
    · rw [c] at q
      exact iteT q
    · rw [c] at q
      refine ⟨_, rfl, b, CS, dx, _, _, rfl, hb, T.clS, T.nS_first, sl_first x p, _, rfl, d, _, rfl, .inl (SqL.of hd), rfl, flat_ints l, _, rfl, ?_⟩
      rw [if_pos rfl, in_ints]
      refine ifC (fun c => ?_) fun c => ?_
      · rw [c] at q
        exact q
      · rw [c] at q
        refine ⟨_, rfl, b, CS, dx, _, _, rfl, hb, T.clS, T.nS_potted, sl_potted x p, p, _, rfl, .inl (SqL.of hp), rfl, _, rfl, ?_⟩
        rw [len0]
        refine ifC (fun c => ?_) fun c => ?_
        · rw [c] at q
          refine ⟨_, rfl, b, CS, dx, _, _, rfl, hb, T.clS, T.nS_cushions, sl_cushions x p, rfl, ?_⟩
          rw [dint]
          exact q
        · rw [c] at q
          exact q
end
section
variable {P : Program} {w : World} {K : PySem.W.Frag} {mg : Str → Option Value} {base : Heap} {CS CR CF : Addr}
/-! RaceState -/
abbrev sRS : Stmt := top 17
abbrev sPlay : Stmt := inClass sRS 3
theorem scPlay : FnScope ["self", "phase"] ["self", "phase"] (defScope sPlay) := ⟨rfl, rfl, rfl, by decide +kernel, rfl, by decide +kernel, by decide +kernel⟩
def spPlay (CR : Addr) : Sp := fun vs H Q _ => ∃ (a : Addr) (f : Ft) (r : R) (n : Nat), vs = [.ref a, num n] ∧ RaceAt CR H a f r ∧ ∀ H', RaceAt CR H' a f (r.playOn n) → Step H H' (f.on a) (f.on a) → Q .non H'
theorem Ft.self (f : Ft) (a : Addr) : a ∈ f.on a := List.mem_cons_self
theorem ok_play (T : Txt K mg CS CR CF) (D : DefM K CR "play_on" "RaceState.play_on" sPlay) : CalM P w K mg base CR "play_on" 1 ["self", "phase"] (spPlay CR) := by
  refine D.cal (fun f fd F => F.ok scPlay (fun vs H Q E h => ?_) (fun cdv A outer s H vs Q E hr h => ?_)) (fun _ _ _ _ _ _ us hl => match us, hl with | [_, _], _ => rfl)
  · obtain ⟨a, f, r, n, rfl, _⟩ := h
    rfl
  · obtain ⟨a, f, r, n, rfl, RA, q⟩ := h
    refine ⟨_, pss_cons (ps_fld (pv 0) (pv 1) rfl) (pss_one (ps_fld (pv 0) pe_int rfl)), ?_⟩
    refine ⟨_, rfl, _, rfl, a, CR, f.dx, _, rfl, RA.ins, T.clR, T.nR_phase, len_rF r f, ?_⟩
    rw [rp_phase r f n rfl]
    have R1 := RA.fld (r' := { r with rk := { r.rk with phase := n } })
    refine ⟨_, rfl, a, CR, f.dx, _, rfl, R1.ins, T.clR, T.nR_in_hand, len_rF _ f, ?_⟩
    rw [rp_in_hand _ f (z := 0) false rfl]
    exact q _ (R1.fld (r' := r.playOn n)) (.trans (.upd (f.self a)) (.upd (f.self a)))
abbrev sPass : Stmt := inClass sRS 4
theorem scPass : FnScope ["self", "phase", "in_hand"] ["self", "phase", "in_hand"] (defScope sPass) := ⟨rfl, rfl, rfl, by decide +kernel, rfl, by decide +kernel, by decide +kernel⟩
def spPass (CR : Addr) : Sp := fun vs H Q _ => ∃ (a : Addr) (f : Ft) (r : R) (n : Nat) (c : Bool), vs = [.ref a, num n, num (Kg78.truth c)] ∧ RaceAt CR H a f r ∧ r.rk.who ≤ 1 ∧ ∀ H', RaceAt CR H' a f (r.pass n c) → Step H H' (f.on a) (f.on a) → Q .non H'
theorem ok_pass (T : Txt K mg CS CR CF) (D : DefM K CR "pass_turn" "RaceState.pass_turn" sPass) : CalM P w K mg base CR "pass_turn" 1 ["self", "phase", "in_hand"] (spPass CR) := by
  refine D.cal (fun f fd F => F.ok scPass (fun vs H Q E h => ?_) (fun cdv A outer s H vs Q E hr h => ?_)) (fun _ _ _ _ _ _ us hl => match us, hl with | [_, _, _], _ => rfl)
  · obtain ⟨a, f, r, n, c, rfl, _⟩ := h
    rfl
  · obtain ⟨a, f, r, n, c, rfl, RA, hw, q⟩ := h
    refine ⟨_, pss_cons (ps_fld (pv 0) (pe_op op_sub pe_int (pe_fld (pv 0) rfl)) rfl) (pss_cons (ps_fld (pv 0) (pv 1) rfl) (pss_one (ps_fld (pv 0) (pv 2) rfl))), ?_⟩
    refine ⟨_, rfl, a, CR, f.dx, _, _, rfl, RA.ins, T.clR, T.nR_turn, rl_turn r f, _, _, rfl, rfl, _, rfl, a, CR, f.dx, _, rfl, RA.ins, T.clR, T.nR_turn, len_rF r f, ?_⟩
    rw [rp_turn r f (1 - r.rk.who) (by omega)]
    have R1 := RA.fld (r' := { r with rk := { r.rk with who := 1 - r.rk.who } })
    refine ⟨_, rfl, _, rfl, a, CR, f.dx, _, rfl, R1.ins, T.clR, T.nR_phase, len_rF _ f, ?_⟩
    rw [rp_phase _ f n rfl]
    have R2 := R1.fld (r' := { r with rk := { r.rk with who := 1 - r.rk.who, phase := n } })
    refine ⟨_, rfl, _, rfl, a, CR, f.dx, _, rfl, R2.ins, T.clR, T.nR_in_hand, len_rF _ f, ?_⟩
    rw [rp_in_hand _ f c rfl]
    exact q _ (R2.fld (r' := r.pass n c)) (.trans (.upd (f.self a)) (.trans (.upd (f.self a)) (.upd (f.self a))))
abbrev sLet : Stmt := inClass sRS 5
theorem scLet : FnScope ["self", "of_push"] ["self", "of_push"] (defScope sLet) := ⟨rfl, rfl, rfl, by decide +kernel, rfl, by decide +kernel, by decide +kernel⟩
def spLet (CR : Addr) : Sp := fun vs H Q _ => ∃ (a : Addr) (f : Ft) (r : R) (c : Bool), vs = [.ref a, num (Kg78.truth c)] ∧ RaceAt CR H a f r ∧ r.rk.who ≤ 1 ∧ ∀ H', RaceAt CR H' a f (r.letChoose c) → Step H H' (f.on a) (f.on a) → Q .non H'
theorem ok_let (T : Txt K mg CS CR CF) (D : DefM K CR "let_other_choose" "RaceState.let_other_choose" sLet) (cP : CalM P w K mg base CR "pass_turn" 1 ["self", "phase", "in_hand"] (spPass CR)) :
    CalM P w K mg base CR "let_other_choose" 2 ["self", "of_push"] (spLet CR) := by
  refine D.cal (fun f fd F => F.ok scLet (fun vs H Q E h => ?_) (fun cdv A outer s H vs Q E hr h => ?_)) (fun _ _ _ _ _ _ us hl => match us, hl with | [_, _], _ => rfl)
  · obtain ⟨a, f, r, c, rfl, _⟩ := h
    rfl
  · obtain ⟨a, f, r, c, rfl, RA, hw, q⟩ := h
    refine ⟨_, pss_cons (ps_expr (pe_cm cP T.clR hr (pv 0) (pa_cons (pe_gi T.c_PHASE_CHOICE rfl) (pa_cons pe_int pa_nil)))) (pss_one (ps_fld (pv 0) (pv 1) rfl)), ?_⟩
    refine ⟨_, rfl, a, f.dx, _, rfl, RA.ins, rn_pass_turn r f, a, f, r, 3, false, rfl, RA, hw, fun H1 R1 s1 => ?_⟩
    refine ⟨_, rfl, _, rfl, a, CR, f.dx, _, rfl, R1.ins, T.clR, T.nR_choice_of_push, len_rF _ f, ?_⟩
    rw [rp_push _ f c rfl]
    exact q _ (R1.fld (r' := r.letChoose c)) (s1.trans (.upd (f.self a)))
end
section
variable {P : Program} {w : World} {K : PySem.W.Frag} {mg : Str → Option Value} {base : Heap} {CS CR CF : Addr}
theorem none_upd {H : Hp} {a p : Addr} {o : HO} (h : upd H a o p = none) : p ≠ a ∧ H p = none := by
  by_cases e : p = a
  · subst e
    rw [upd_same] at h
    cases h
  · rw [upd_ne e] at h
    exact ⟨e, h⟩
theorem Step.sub {H H' : Hp} {S T S' : List Addr} (h : Step H H' S S') (i : ∀ b, b ∈ S → b ∈ T) : Step H H' T S' := ⟨fun b o e m => h.keep b o e fun z => m (i b z), fun b m => (h.new b m).imp (i b) id⟩
theorem ifTC {c : Bool} {x y : Int} {σ : L2.St} {H : Hp} {Q : VK} (h : Q (.int (if c = true then x else y)) H) : if c = true then tC (.int x) σ H Q else tC (.int y) σ H Q := by
  cases c with
  | true => exact iteT h
  | false => exact iteF h
abbrev sRack : Stmt := inClass sRS 1
theorem scRack : FnScope ["self", "breaker"] ["self", "breaker"] (defScope sRack) := ⟨rfl, rfl, rfl, by decide +kernel, rfl, by decide +kernel, by decide +kernel⟩
def spRack (CR : Addr) : Sp := fun vs H Q _ => ∃ (a : Addr) (f : Ft) (r : R) (n : Nat), vs = [.ref a, num n] ∧ (H a = some (.ins CR f.dx (pF r f)) ∨ H a = some (.ins CR f.dx (rF r f))) ∧ H f.aw = some (.lst [num r.a, num r.b]) ∧
  ∀ H' f', RaceAt CR H' a f' (r.rackUp n) → Step H H' [a, f.aw] (f'.on a) → Q .non H'
theorem rg16 : rgV 1 16 = wh (Kg78.full 8) := by decide +kernel
theorem rg10 {n : Nat} (h : ¬ n = 8) : rgV 1 10 = wh (Kg78.full n) := by
  unfold Kg78.full
  rw [if_neg h]
  decide +kernel
theorem ok_rack (T : Txt K mg CS CR CF) (D : DefM K CR "begin_rack" "RaceState.begin_rack" sRack) : CalM P w K mg base CR "begin_rack" 1 ["self", "breaker"] (spRack CR) := by
  refine D.cal (fun f fd F => F.ok scRack (fun vs H Q E h => ?_) (fun cdv A outer s H vs Q E hr h => ?_)) (fun _ _ _ _ _ _ us hl => match us, hl with | [_, _], _ => rfl)
  · obtain ⟨a, f, r, n, rfl, _⟩ := h
    rfl
  · obtain ⟨a, f, r, n, rfl, hi, hw, q⟩ := h
    obtain ⟨fs, h0, l0, g0, e0⟩ : ∃ fs, H a = some (.ins CR f.dx fs) ∧ fs.length ≤ 13 ∧ fs.lookup ("game" : Str) = some (num r.sort) ∧
        ∀ p1 p2 p3, putF "choice_of_push" (.int 0) (putF "fouls" (.ref p3) (putF "groups" (.ref p2) (putF "balls" (.ref p1) (putF "in_hand" (.int 1) (putF "phase" (.int 0) (putF "turn" (num n) (putF "breaker" (num n) fs))))))) = rF (r.rackUp n) ⟨f.dx, f.aw, p1, p2, p3⟩ := by
      rcases hi with hi | hi
      · exact ⟨_, hi, (by show 5 ≤ 13; decide), rfl, fun _ _ _ => rfl⟩
      · exact ⟨_, hi, (by show 13 ≤ 13; decide), rfl, fun _ _ _ => rfl⟩
    refine ⟨_, pss_cons (ps_fld (pv 0) (pv 1) rfl) (pss_cons (ps_fld (pv 0) (pv 1) rfl) (pss_cons (ps_fld (pv 0) (pe_gi T.c_PHASE_BREAK rfl) rfl) (pss_cons (ps_fld (pv 0) pe_int rfl)
      (pss_cons (ps_fld (pv 0) (pe_listRg rfl (by rfl) T.b_list (prg_2 (by rfl) T.b_range pe_int (pe_ifExp (pt_cmpR op_eq (pe_fld (pv 0) rfl) (pe_gi T.c_EIGHT_BALL rfl) (nomark _)) pe_int pe_int))) rfl)
      (pss_cons (ps_fld (pv 0) (pe_lst (pa_cons (pe_gi T.c_NO_GROUP rfl) (pa_cons (pe_gi T.c_NO_GROUP rfl) pa_nil))) rfl)
      (pss_cons (ps_fld (pv 0) (pe_lst (pa_cons pe_int (pa_cons pe_int pa_nil))) rfl)
      (pss_one (ps_fld (pv 0) pe_int rfl)))))))), ?_⟩
    have l1 := len_put (f := "breaker") (v := num n) l0
    have l2 := len_put (f := "turn") (v := num n) l1
    have l3 := len_put (f := "phase") (v := V.int 0) l2
    have l4 := len_put (f := "in_hand") (v := V.int 1) l3
    refine ⟨_, rfl, _, rfl, a, CR, f.dx, _, rfl, h0, T.clR, T.nR_breaker, by omega, ?_⟩
    refine ⟨_, rfl, _, rfl, a, CR, f.dx, _, rfl, upd_same, T.clR, T.nR_turn, by omega, ?_⟩
    refine ⟨_, rfl, a, CR, f.dx, _, rfl, upd_same, T.clR, T.nR_phase, by omega, ?_⟩
    refine ⟨_, rfl, a, CR, f.dx, _, rfl, upd_same, T.clR, T.nR_in_hand, by omega, ?_⟩
    rw [upd_upd, upd_upd, upd_upd]
    refine ⟨_, rfl, a, CR, f.dx, _, num r.sort, rfl, upd_same, T.clR, T.nR_game, (lk_put (by decide +kernel)).trans ((lk_put (by decide +kernel)).trans ((lk_put (by decide +kernel)).trans ((lk_put (by decide +kernel)).trans g0))), rfl, _, rfl, ?_⟩
    rw [dint]
    refine ifTC ?_
    have em : rgV 1 (if decide ((r.sort : Int) = 8) = true then 16 else 10) = wh (Kg78.full r.sort) := by
      by_cases h : r.sort = 8
      · rw [if_pos (decide_eq_true (by omega)), h]
        exact rg16
      · rw [if_neg (by simp; omega)]
        exact rg10 h
    refine ⟨_, _, rfl, rfl, (by split <;> exact RgOk.of_le (by decide) (by decide) (by decide) (by decide)), fun p1 h1 => ?_⟩
    rw [em]
    obtain ⟨na1, n1⟩ := none_upd h1
    generalize hg4 : (putF "in_hand" (.int 1) (putF "phase" (.int 0) (putF "turn" (num n) (putF "breaker" (num n) fs)))) = g4 at l4 ⊢
    refine ⟨_, rfl, a, CR, f.dx, _, rfl, (upd_ne na1.symm).trans upd_same, T.clR, T.nR_balls, by omega, ?_⟩
    have l5 := len_put (f := "balls") (v := V.ref p1) l4
    refine ⟨(by show 2 ≤ sizeLine; decide), fun p2 h2 => ?_⟩
    obtain ⟨na2, h2⟩ := none_upd h2
    obtain ⟨n12, h2⟩ := none_upd h2
    obtain ⟨_, n2⟩ := none_upd h2
    refine ⟨_, rfl, a, CR, f.dx, _, rfl, (upd_ne na2.symm).trans upd_same, T.clR, T.nR_groups, by omega, ?_⟩
    have l6 := len_put (f := "groups") (v := V.ref p2) l5
    refine ⟨(by show 2 ≤ sizeLine; decide), fun p3 h3 => ?_⟩
    obtain ⟨na3, h3⟩ := none_upd h3
    obtain ⟨n23, h3⟩ := none_upd h3
    obtain ⟨_, h3⟩ := none_upd h3
    obtain ⟨n13, h3⟩ := none_upd h3
    obtain ⟨_, n3⟩ := none_upd h3
    refine ⟨_, rfl, a, CR, f.dx, _, rfl, (upd_ne na3.symm).trans upd_same, T.clR, T.nR_fouls, by omega, ?_⟩
    have l7 := len_put (f := "fouls") (v := V.ref p3) l6
    refine ⟨_, rfl, a, CR, f.dx, _, rfl, upd_same, T.clR, T.nR_choice_of_push, by omega, ?_⟩
    have e1 := e0 p1 p2 p3
    rw [hg4] at e1
    rw [e1]
    have naw : f.aw ≠ a := by
      rcases hi with hi | hi
      · exact ne_of hw hi (fun z => by cases z)
      · exact ne_of hw hi (fun z => by cases z)
    have w1 := ne_of_none hw n1
    have w2 := ne_of_none hw n2
    have w3 := ne_of_none hw n3
    have old : ∀ b o, H b = some o → b ≠ a → upd (upd (upd (upd (upd (upd (upd (upd H a (.ins CR f.dx g4)) p1 (.lst (wh (Kg78.full r.sort)))) a (.ins CR f.dx (putF "balls" (.ref p1) g4))) p2 (.lst [.int 0, .int 0])) a
        (.ins CR f.dx (putF "groups" (.ref p2) (putF "balls" (.ref p1) g4)))) p3 (.lst [.int 0, .int 0])) a (.ins CR f.dx (putF "fouls" (.ref p3) (putF "groups" (.ref p2) (putF "balls" (.ref p1) g4))))) a (.ins CR f.dx (rF (r.rackUp n) ⟨f.dx, f.aw, p1, p2, p3⟩)) b = some o := by
      intro b o e nb
      rw [upd_ne nb, upd_ne nb, upd_ne (ne_of_none e n3), upd_ne nb, upd_ne (ne_of_none e n2), upd_ne nb, upd_ne (ne_of_none e n1), upd_ne nb]
      exact e
    refine q _ ⟨f.dx, f.aw, p1, p2, p3⟩ ⟨upd_same, old _ _ hw naw, ?_, ?_, ?_, w1, w2, w3, n12.symm, n13.symm, n23.symm⟩ ⟨fun b o e m => old b o e fun z => m (by rw [z]; exact List.mem_cons_self), fun b m => ?_⟩
    · show upd _ a _ p1 = _
      rw [upd_ne na1, upd_ne na1, upd_ne n13.symm, upd_ne na1, upd_ne n12.symm, upd_ne na1, upd_same]
      rfl
    · show upd _ a _ p2 = _
      rw [upd_ne na2, upd_ne na2, upd_ne n23.symm, upd_ne na2, upd_same]
      rfl
    · show upd _ a _ p3 = _
      rw [upd_ne na3, upd_ne na3, upd_same]
      rfl
    · rcases List.mem_cons.mp m with z | m
      · exact .inl (by rw [z]; exact List.mem_cons_self)
      rcases List.mem_cons.mp m with z | m
      · exact .inl (by rw [z]; exact List.mem_cons_of_mem _ List.mem_cons_self)
      refine .inr ?_
      rcases List.mem_cons.mp m with z | m
      · rw [z]; exact n1
      rcases List.mem_cons.mp m with z | m
      · rw [z]; exact n2
      rcases List.mem_cons.mp m with z | m
      · rw [z]; exact n3
      · cases m
end
section
variable {P : Program} {w : World} {K : PySem.W.Frag} {mg : Str → Option Value} {base : Heap} {CS CR CF : Addr}
abbrev sMade : Stmt := inClass sRS 0
theorem scMade : FnScope ["self", "game", "goal", "by_turns", "breaker"] ["self", "game", "goal", "by_turns", "breaker"] (defScope sMade) := ⟨rfl, rfl, rfl, by decide +kernel, rfl, by decide +kernel, by decide +kernel⟩
def spMade (CR : Addr) : Sp := fun vs H Q _ => ∃ (a dx : Addr) (k n : Nat) (t : Bool) (w : Nat), vs = [.ref a, num k, num n, num (Kg78.truth t), num w] ∧ H a = some (.ins CR dx []) ∧
  ∀ H' f', RaceAt CR H' a f' (R.made k n t w) → Step H H' [a] (f'.on a) → Q .non H'
theorem ok_made (T : Txt K mg CS CR CF) (D : DefC K CR "RaceState.__init__" sMade) (cR : CalM P w K mg base CR "begin_rack" 1 ["self", "breaker"] (spRack CR)) :
    CalC P w K mg base CR 2 ["self", "game", "goal", "by_turns", "breaker"] (spMade CR) := by
  refine D.cal (fun f fd F => F.ok scMade (fun vs H Q E h => ?_) (fun cdv A outer s H vs Q E hr h => ?_)) (fun _ _ _ _ _ _ us hl => match us, hl with | [_, _, _, _, _], _ => rfl)
  · obtain ⟨a, dx, k, n, t, w, rfl, _⟩ := h
    rfl
  · obtain ⟨a, dx, k, n, t, w, rfl, hi, q⟩ := h
    refine ⟨_, pss_cons (ps_fld (pv 0) (pv 1) rfl) (pss_cons (ps_fld (pv 0) (pv 2) rfl) (pss_cons (ps_fld (pv 0) (pv 3) rfl) (pss_cons (ps_fld (pv 0) (pe_lst (pa_cons pe_int (pa_cons pe_int pa_nil))) rfl)
      (pss_cons (ps_fld (pv 0) pe_bl rfl) (pss_one (ps_expr (pe_cm cR T.clR hr (pv 0) (pa_cons (pv 4) pa_nil)))))))), ?_⟩
    refine ⟨_, rfl, _, rfl, a, CR, dx, _, rfl, hi, T.clR, T.nR_game, (by show 0 < 1000; decide), ?_⟩
    refine ⟨_, rfl, _, rfl, a, CR, dx, _, rfl, upd_same, T.clR, T.nR_goal, (by show 1 < 1000; decide), ?_⟩
    refine ⟨_, rfl, _, rfl, a, CR, dx, _, rfl, upd_same, T.clR, T.nR_by_turns, (by show 2 < 1000; decide), ?_⟩
    rw [upd_upd, upd_upd]
    refine ⟨(by show 2 ≤ sizeLine; decide), fun p hp => ?_⟩
    obtain ⟨na, n0⟩ := none_upd hp
    refine ⟨_, rfl, a, CR, dx, _, rfl, (upd_ne na.symm).trans upd_same, T.clR, T.nR_won, (by show 3 < 1000; decide), ?_⟩
    refine ⟨_, rfl, a, CR, dx, _, rfl, upd_same, T.clR, T.nR_over, (by show 4 < 1000; decide), ?_⟩
    rw [upd_upd]
    have e : putF "over" (.bl false) (putF "won" (.ref p) (putF "by_turns" (num (Kg78.truth t)) (putF "goal" (num n) (putF "game" (num k) [])))) = pF ⟨k, n, t, 0, 0, false, 0, false, Kg78.fresh k 0⟩ ⟨dx, p, 0, 0, 0⟩ := rfl
    rw [e]
    have hh : ∀ b o, H b = some o → b ≠ a → upd (upd (upd H a (.ins CR dx (putF "by_turns" (num (Kg78.truth t)) (putF "goal" (num n) (putF "game" (num k) []))))) p (.lst [.int 0, .int 0])) a (.ins CR dx (pF ⟨k, n, t, 0, 0, false, 0, false, Kg78.fresh k 0⟩ ⟨dx, p, 0, 0, 0⟩)) b = some o := by
      intro b o e nb
      rw [upd_ne nb, upd_ne (ne_of_none e n0), upd_ne nb]
      exact e
    refine ⟨_, rfl, a, dx, _, rfl, upd_same, rfl, _, rfl, a, ⟨dx, p, 0, 0, 0⟩, ⟨k, n, t, 0, 0, false, 0, false, Kg78.fresh k 0⟩, w, rfl, .inl upd_same, ?_, fun H' f' R1 s1 => ?_⟩
    · show upd _ a _ p = _
      rw [upd_ne na, upd_same]
      rfl
    · refine q H' f' R1 ⟨fun b o e m => ?_, fun b m => ?_⟩
      · have nb : b ≠ a := fun z => m (by rw [z]; exact List.mem_cons_self)
        refine s1.keep b o (hh b o e nb) fun z => ?_
        rcases List.mem_cons.mp z with z | z
        · exact nb z
        · rcases List.mem_cons.mp z with z | z
          · exact ne_of_none e n0 z
          · cases z
      · rcases s1.new b m with z | z
        · rcases List.mem_cons.mp z with z | z
          · exact .inl (by rw [z]; exact List.mem_cons_self)
          · rcases List.mem_cons.mp z with z | z
            · rw [z]; exact .inr n0
            · cases z
        · obtain ⟨_, z⟩ := none_upd z
          obtain ⟨_, z⟩ := none_upd z
          obtain ⟨_, z⟩ := none_upd z
          exact .inr z
/-! end_rack -/
def rGetL (K : PySem.W.Frag) : V → V → Hp → VK → Prop := fun x y H Q => ∃ (p : Addr) (xs : List V) (j : Nat) (v : V), x = .ref p ∧ y = num j ∧ SqL K H p xs ∧ xs[j]? = some v ∧ Q v H
theorem get_list {X : Cx} : PGet X (rGetL X.K) := by
  intro pins s σ H o i ov iv Q I ro ri h
  obtain ⟨p, xs, j, v, rfl, rfl, hs, hj, q⟩ := h
  obtain rfl : ov = Value.ref p := ro
  obtain ⟨t, rfl⟩ := ri
  obtain ⟨its, r, pl, hz⟩ := I.list hs
  obtain ⟨u, hu, ru⟩ := r.get hj
  have hl := r.length
  have hn := line63
  have hlt : j < xs.length := (List.getElem?_eq_some_iff.mp hj).1
  exact wpAny_getItem_list pl.isList (by omega) (by omega) (by simpa using hu) ⟨v, H, I, ru, q⟩
theorem ixN_two {n : Nat} {x y : V} (h : n ≤ 1) : ixN ([x, y] : List V).length (n : Int) = some n := by
  rcases Nat.le_one_iff_eq_zero_or_eq_one.mp h with rfl | rfl <;> rfl
abbrev sEnd : Stmt := inClass sRS 6
theorem scEnd : FnScope ["self", "winner"] ["self", "winner"] (defScope sEnd) := ⟨rfl, rfl, rfl, by decide +kernel, rfl, by decide +kernel, by decide +kernel⟩
def spEnd (CR : Addr) : Sp := fun vs H Q _ => ∃ (a : Addr) (f : Ft) (r : R) (n : Nat), vs = [.ref a, num n] ∧ RaceAt CR H a f r ∧ n ≤ 1 ∧ r.broke ≤ 1 ∧ ∀ H' f', RaceAt CR H' a f' (r.endRack n) → Step H H' (f.on a) (f'.on a) → Q (num (2 + n)) H'
theorem vcast {Q : VK} {u v : V} {H : Hp} (e : u = v) (h : Q v H) : Q u H := by
  subst e
  exact h
theorem atI_two {x y : V} {n : Nat} (h : n ≤ 1) : atI [x, y] (n : Int) = some (if n = 0 then x else y) := by
  rcases Nat.le_one_iff_eq_zero_or_eq_one.mp h with rfl | rfl <;> rfl
theorem get_two {x y : V} {n : Nat} (h : n ≤ 1) : ([x, y] : List V)[n]? = some (if n = 0 then x else y) := by
  rcases Nat.le_one_iff_eq_zero_or_eq_one.mp h with rfl | rfl <;> rfl
theorem num_if {c : Prop} [Decidable c] {x y : Nat} : (if c then num x else num y) = num (if c then x else y) := by split <;> rfl
theorem dnum (i j : Nat) : decide (num i = num j) = decide (i = j) := by
  rw [dint]
  by_cases h : i = j
  · subst h; simp
  · rw [decide_eq_false h, decide_eq_false (by omega)]
theorem truth1 (c : Bool) : decide (num (Kg78.truth c) = V.int 1) = c := by cases c <;> decide
theorem ok_end (T : Txt K mg CS CR CF) (D : DefM K CR "end_rack" "RaceState.end_rack" sEnd) (cR : CalM P w K mg base CR "begin_rack" 1 ["self", "breaker"] (spRack CR)) :
    CalM P w K mg base CR "end_rack" 2 ["self", "winner"] (spEnd CR) := by
  refine D.cal (fun f fd F => F.ok scEnd (fun vs H Q E h => ?_) (fun cdv A outer s H vs Q E hr h => ?_)) (fun _ _ _ _ _ _ us hl => match us, hl with | [_, _], _ => rfl)
  · obtain ⟨a, f, r, n, rfl, _⟩ := h
    rfl
  · obtain ⟨a, f, r, n, rfl, RA, hn, hb, q⟩ := h
    refine ⟨_, pss_cons (ps_augS (pe_fld (pv 0) rfl) (pv 1) get_list pe_int ip_add set_list)
      (pss_cons (ps_if (pt_cmpR op_eq (pe_ix ix_list (pe_fld (pv 0) rfl) (pv 1) (fun _ _ => rfl)) (pe_fld (pv 0) rfl) (nomark _)) (pss_one (ps_fld (pv 0) pe_bl rfl))
        (pss_one (ps_expr (pe_cm cR T.clR hr (pv 0) (pa_cons (pe_ifExp (pt_cmpR op_eq (pe_fld (pv 0) rfl) pe_int (nomark _)) (pe_op op_sub pe_int (pe_fld (pv 0) rfl)) (pv 1)) pa_nil)))))
      (pss_one (ps_ret (pe_op op_add (pe_gi T.c_ANSWER_WON_BY_FIRST_SIDE rfl) (pv 1))))), ?_⟩
    refine ⟨_, rfl, a, CR, f.dx, _, _, rfl, RA.ins, T.clR, T.nR_won, rl_won r f, _, rfl, f.aw, _, n, _, rfl, rfl, SqL.of RA.won, get_two hn, ?_⟩
    rw [num_if]
    refine ⟨_, _, rfl, rfl, f.aw, _, _, n, rfl, rfl, RA.won, ixN_two hn, ?_⟩
    have e : ([num r.a, num r.b] : List V).set n (.int (((if n = 0 then r.a else r.b : Nat) : Int) + 1)) = [num (r.won n).a, num (r.won n).b] := by
      rcases Nat.le_one_iff_eq_zero_or_eq_one.mp hn with rfl | rfl <;> rfl
    rw [e]
    have R1 : RaceAt CR (upd H f.aw (.lst [num (r.won n).a, num (r.won n).b])) a f (r.won n) := by
      have z := RA.setWon (x := (r.won n).a) (y := (r.won n).b)
      have e : r.won n = { r with a := (r.won n).a, b := (r.won n).b } := by
        unfold R.won
        split <;> rfl
      rw [e]
      exact z
    have s1 : Step H (upd H f.aw (.lst [num (r.won n).a, num (r.won n).b])) (f.on a) (f.on a) := .upd (List.mem_cons_of_mem _ List.mem_cons_self)
    generalize upd H f.aw (.lst [num (r.won n).a, num (r.won n).b]) = H1 at R1 s1
    refine ⟨_, rfl, a, CR, f.dx, _, _, rfl, R1.ins, T.clR, T.nR_won, rl_won _ f, _, rfl, f.aw, _, _, _, rfl, rfl, SqL.of R1.won, atI_two hn, ?_⟩
    rw [num_if]
    refine ⟨_, rfl, a, CR, f.dx, _, _, rfl, R1.ins, T.clR, T.nR_goal, rl_goal _ f, rfl, _, rfl, ?_⟩
    unfold R.endRack at q
    have eg : (r.won n).to = r.to := by unfold R.won; split <;> rfl
    have et : (r.won n).turns = r.turns := by unfold R.won; split <;> rfl
    have eb : (r.won n).broke = r.broke := by unfold R.won; split <;> rfl
    have e2 : (V.int (2 + (n : Int))) = num (2 + n) := by
      show V.int _ = V.int _
      exact congrArg V.int (by omega)
    rw [dnum, show (if n = 0 then (r.won n).a else (r.won n).b) = (r.won n).score n from rfl, eg]
    refine ifC (fun c => ?_) fun c => ?_
    · rw [if_pos (of_decide_eq_true c)] at q
      refine ⟨_, rfl, a, CR, f.dx, _, rfl, R1.ins, T.clR, T.nR_over, len_rF _ f, ?_⟩
      rw [rp_over]
      refine ⟨_, rfl, _, _, rfl, rfl, ?_⟩
      have z := q _ f (R1.fld (r' := { r.won n with over := true })) (s1.trans (.upd (f.self a)))
      exact vcast (Q := Q) e2 z
    · rw [if_neg (of_decide_eq_false c)] at q
      refine ⟨_, rfl, a, f.dx, _, rfl, R1.ins, rn_begin_rack _ f, _, rfl, a, CR, f.dx, _, _, rfl, R1.ins, T.clR, T.nR_by_turns, rl_by_turns _ f, rfl, _, rfl, ?_⟩
      rw [truth1, et]
      have sb : ∀ b, b ∈ [a, f.aw] → b ∈ f.on a := fun b m => by
        rcases List.mem_cons.mp m with z | z
        · rw [z]; exact f.self a
        · rcases List.mem_cons.mp z with z | z
          · rw [z]; exact List.mem_cons_of_mem _ List.mem_cons_self
          · cases z
      refine ifC (fun c2 => ?_) fun c2 => ?_
      · rw [if_pos c2] at q
        refine ⟨_, rfl, a, CR, f.dx, _, _, rfl, R1.ins, T.clR, T.nR_breaker, rl_breaker _ f, _, _, rfl, rfl, a, f, r.won n, 1 - r.broke, ?_, .inr R1.ins, R1.won, fun H2 f2 R2 s2 => ?_⟩
        · rw [eb]
          show [V.ref a, V.int (1 - (r.broke : Int))] = [V.ref a, V.int ((1 - r.broke : Nat) : Int)]
          rw [show (1 - (r.broke : Int)) = ((1 - r.broke : Nat) : Int) by omega]
        · exact ⟨_, rfl, _, _, rfl, rfl, vcast (Q := Q) e2 (q _ f2 R2 (s1.trans (s2.sub sb)))⟩
      · rw [if_neg (by rw [c2]; exact Bool.false_ne_true)] at q
        refine ⟨_, rfl, a, f, r.won n, n, rfl, .inr R1.ins, R1.won, fun H2 f2 R2 s2 => ?_⟩
        exact ⟨_, rfl, _, _, rfl, rfl, vcast (Q := Q) e2 (q _ f2 R2 (s1.trans (s2.sub sb)))⟩
end
section
variable {P : Program} {w : World} {K : PySem.W.Frag} {mg : Str → Option Value} {base : Heap} {CS CR CF : Addr}
abbrev sStand : Stmt := inClass sRS 7
theorem scStand : FnScope ["self"] ["self"] (defScope sStand) := ⟨rfl, rfl, rfl, by decide +kernel, rfl, by decide +kernel, by decide +kernel⟩
def spStand (CR : Addr) : Sp := fun vs H Q _ => ∃ (a : Addr) (f : Ft) (r : R), vs = [.ref a] ∧ RaceAt CR H a f r ∧ ∀ H' p, Same H H' → H p = none → H' p = some (.lst (r.stand.map V.int)) → Q (.ref p) H'
theorem same_upd2 {H : Hp} {p : Addr} {o : HO} (h : H p = none) : Same H (upd H p o) := same_upd h
theorem wh_len (l : List Nat) : (wh l).length = l.length := by
  show ((l.map _).map V.int).length = l.length
  rw [List.length_map, List.length_map]
theorem ok_stand (T : Txt K mg CS CR CF) (D : DefM K CR "standing" "RaceState.standing" sStand) : CalM P w K mg base CR "standing" 1 ["self"] (spStand CR) := by
  refine D.cal (fun f fd F => F.ok scStand (fun vs H Q E h => ?_) (fun cdv A outer s H vs Q E hr h => ?_)) (fun _ _ _ _ _ _ us hl => match us, hl with | [_], _ => rfl)
  · obtain ⟨a, f, r, rfl, _⟩ := h
    rfl
  · obtain ⟨a, f, r, rfl, RA, q⟩ := h
    refine ⟨_, pss_cons (ps_if (pt_val (pe_fld (pv 0) rfl)) (pss_one (ps_ret (pe_callTy call_list_of (by rfl) T.b_list boot_list (pa_cons (pe_fld (pv 0) rfl) pa_nil)))) pss_nil)
      (pss_one (ps_ret (pe_op op_cat (pe_fld (pv 0) rfl) (pe_lst (pa_cons (pe_fld (pv 0) rfl) (pa_cons (pe_fld (pv 0) rfl) (pa_cons (pe_fld (pv 0) rfl)
        (pa_cons (pe_callB call_len_seq (by rfl) T.b_len PySem.boot_len (pa_cons (pe_fld (pv 0) rfl) pa_nil)) pa_nil)))))))), ?_⟩
    refine ⟨_, rfl, a, CR, f.dx, _, _, rfl, RA.ins, T.clR, T.nR_over, rl_over r f, _, rfl, ?_⟩
    unfold R.stand at q
    refine ifC (fun c => ?_) fun c => ?_
    · rw [if_pos c] at q
      refine ⟨_, rfl, a, CR, f.dx, _, _, rfl, RA.ins, T.clR, T.nR_won, rl_won r f, f.aw, _, rfl, .inl (SqL.of RA.won), fun p hp => ?_⟩
      exact q _ p (same_upd hp) hp upd_same
    · rw [if_neg (by rw [c]; exact Bool.false_ne_true)] at q
      refine ⟨_, rfl, a, CR, f.dx, _, _, rfl, RA.ins, T.clR, T.nR_won, rl_won r f, _, rfl, a, CR, f.dx, _, _, rfl, RA.ins, T.clR, T.nR_turn, rl_turn r f, _, rfl, a, CR, f.dx, _, _, rfl, RA.ins, T.clR, T.nR_phase, rl_phase r f,
        _, rfl, a, CR, f.dx, _, _, rfl, RA.ins, T.clR, T.nR_in_hand, rl_in_hand r f, _, rfl, a, CR, f.dx, _, _, rfl, RA.ins, T.clR, T.nR_balls, rl_balls r f, f.ab, _, rfl, .inl (SqL.of RA.balls), (by show 4 ≤ sizeLine; decide), fun p hp => ?_⟩
      rw [wh_len]
      refine ⟨f.aw, p, _, _, rfl, rfl, (upd_ne (ne_of_none RA.won hp)).trans RA.won, upd_same, (by show 6 ≤ sizeLine; decide), fun u hu => ?_⟩
      obtain ⟨_, hu0⟩ := none_upd hu
      exact q _ u ((same_upd hp).trans (same_upd hu)) hu0 upd_same
abbrev sDet : Stmt := inClass sRS 8
theorem scDet : FnScope ["self"] ["self"] (defScope sDet) := ⟨rfl, rfl, rfl, by decide +kernel, rfl, by decide +kernel, by decide +kernel⟩
def spDet (CR : Addr) : Sp := fun vs H Q _ => ∃ (a : Addr) (f : Ft) (r : R), vs = [.ref a] ∧ RaceAt CR H a f r ∧ ∀ H' p, Same H H' → H p = none → H' p = some (.lst (r.details.map V.int)) → Q (.ref p) H'
theorem ok_det (T : Txt K mg CS CR CF) (D : DefM K CR "rack_details" "RaceState.rack_details" sDet) : CalM P w K mg base CR "rack_details" 1 ["self"] (spDet CR) := by
  refine D.cal (fun f fd F => F.ok scDet (fun vs H Q E h => ?_) (fun cdv A outer s H vs Q E hr h => ?_)) (fun _ _ _ _ _ _ us hl => match us, hl with | [_], _ => rfl)
  · obtain ⟨a, f, r, rfl, _⟩ := h
    rfl
  · obtain ⟨a, f, r, rfl, RA, q⟩ := h
    refine ⟨_, pss_one (ps_ret (pe_op op_cat (pe_op op_cat (pe_lst (pa_cons (pe_ix ix_list (pe_fld (pv 0) rfl) pe_int (fun _ _ => rfl)) pa_nil)) (pe_fld (pv 0) rfl)) (pe_lst (pa_cons (pe_fld (pv 0) rfl) (pa_cons (pe_fld (pv 0) rfl) pa_nil))))), ?_⟩
    refine ⟨_, rfl, a, CR, f.dx, _, _, rfl, RA.ins, T.clR, T.nR_groups, rl_groups r f, f.ag, _, _, _, rfl, rfl, SqL.of RA.groups, rfl, (by show 1 ≤ sizeLine; decide), fun p hp => ?_⟩
    have R1 := RA.same (same_upd (o := .lst [num (r.side 0)]) hp)
    refine ⟨_, rfl, a, CR, f.dx, _, _, rfl, R1.ins, T.clR, T.nR_fouls, rl_fouls r f, p, f.af, _, _, rfl, rfl, upd_same, R1.fouls, (by show 3 ≤ sizeLine; decide), fun u hu => ?_⟩
    have R2 := R1.same (same_upd (o := .lst ([num (r.side 0)] ++ [num r.rk.foulsA, num r.rk.foulsB])) hu)
    refine ⟨_, rfl, a, CR, f.dx, _, _, rfl, R2.ins, T.clR, T.nR_breaker, rl_breaker r f, _, rfl, a, CR, f.dx, _, _, rfl, R2.ins, T.clR, T.nR_choice_of_push, rl_choice_of_push r f, (by show 2 ≤ sizeLine; decide), fun v hv => ?_⟩
    refine ⟨u, v, _, _, rfl, rfl, (upd_ne (ne_of_none upd_same hv)).trans upd_same, upd_same, (by show 5 ≤ sizeLine; decide), fun z hz => ?_⟩
    obtain ⟨_, z1⟩ := none_upd hz
    obtain ⟨_, z2⟩ := none_upd z1
    obtain ⟨_, z3⟩ := none_upd z2
    exact q _ z ((((same_upd hp).trans (same_upd hu)).trans (same_upd hv)).trans (same_upd hz)) z3 upd_same
/-! take_off -/
abbrev sTake : Stmt := inClass sRS 2
abbrev nTake : List Str := ["self", "potted", "ball"]
theorem scTake : FnScope nTake ["self", "potted"] (defScope sTake) := ⟨rfl, rfl, rfl, by decide +kernel, rfl, by decide +kernel, by decide +kernel⟩
def spTake (CR : Addr) : Sp := fun vs H Q _ => ∃ (a d : Addr) (f : Ft) (r : R) (l : List Int), vs = [.ref a, .ref d] ∧ RaceAt CR H a f r ∧ H d = some (.lst (l.map V.int)) ∧ r.rk.balls.length ≤ 15 ∧
  ∀ H' f', RaceAt CR H' a f' (r.takeOff l) → Step H H' (f.on a) (f'.on a) → Q .non H'
theorem take_one {α : Type} : ∀ {l : List α} {i : Nat} {x : α}, l[i]? = some x → l.take (i + 1) = l.take i ++ [x]
  | [], i, x, h => by simp at h
  | a :: l, 0, x, h => by
    have e : a = x := Option.some.inj h
    subst e
    rfl
  | a :: l, i + 1, x, h => by
    have ih := take_one (l := l) (i := i) (x := x) h
    show a :: l.take (i + 1) = a :: l.take i ++ [x]
    rw [ih]
    rfl
theorem wh_at {l : List Nat} {i : Nat} {x : V} (h : (wh l)[i]? = some x) : ∃ n, l[i]? = some n ∧ x = num n := by
  rw [List.getElem?_map, Kg78.whole, List.getElem?_map] at h
  cases e : l[i]? with
  | none =>
    rw [e] at h
    cases h
  | some n =>
    rw [e] at h
    exact ⟨n, rfl, (Option.some.inj h).symm⟩
theorem wh_app (l m : List Nat) : wh (l ++ m) = wh l ++ wh m := by
  show ((l ++ m).map _).map V.int = _
  rw [List.map_append, List.map_append]
  rfl
theorem ok_take (T : Txt K mg CS CR CF) (D : DefM K CR "take_off" "RaceState.take_off" sTake) : CalM P w K mg base CR "take_off" 1 ["self", "potted"] (spTake CR) := by
  refine D.cal (fun f fd F => F.ok scTake (fun vs H Q E h => ?_) (fun cdv A outer s H vs Q E hr h => ?_)) (fun _ _ _ _ _ _ us hl => match us, hl with | [_, _], _ => rfl)
  · obtain ⟨a, d, f, r, l, rfl, _⟩ := h
    rfl
  · obtain ⟨a, d, f, r, l, rfl, RA, hd, hlen, q⟩ := h
    refine ⟨_, pss_one (ps_fld (pv 0) (pe_lc (own := [("ball", 2)]) (g := gName 2) (tt := tOr (tTest (tOp (rIn K true) (tVar 2) (tVar 1))) (tTest (tOp rEq (tVar 2) (tFld K (tVar 0) "game")))) rfl scTake.nd (pi_list (pe_fld (pv 0) rfl)) (blkOk_by (N := nTake) (sc := defScope sTake) (by decide +kernel)) (fun _ _ _ _ _ => pg_name (i := 2) scTake.nd rfl (Or.inl rfl))
      (fun _ _ _ _ _ => pts_one (PW.pt (pw_or (pt_cmpR op_notIn_seq (pv 2) (pv 1) (by rfl)) (pw_or1 (pt_cmpR op_eq (pv 2) (by exact (pe_fld (pv 0) rfl)) (nomark _)))))) (fun _ _ _ _ _ => pv 2)) rfl), ?_⟩
    refine ⟨_, rfl, a, CR, f.dx, _, _, rfl, RA.ins, T.clR, T.nR_balls, rl_balls r f, f.ab, rfl, ⟨_, SqL.of RA.balls⟩, fun p hp => ?_⟩
    refine lc_list (xs := wh r.rk.balls) (fun i H' => Same H H' ∧ H' p = some (.lst (wh ((r.rk.balls.take i).filter fun (b : Nat) => !l.contains (b : Int) || b == r.sort)))) ⟨same_upd hp, upd_same⟩ (fun i H' _ h => SqL.of (h.1 _ _ RA.balls)) ?_ ?_
    · rintro i x H' hx ⟨sm, hp'⟩
      obtain ⟨n, hn, rfl⟩ := wh_at hx
      refine ⟨rfl, ?_⟩
      refine ⟨_, rfl, _, rfl, d, _, rfl, .inl (SqL.of (sm _ _ hd)), rfl, flat_ints l, _, rfl, ?_⟩
      rw [if_pos rfl, in_ints]
      have hcut : (((r.rk.balls.take i).filter fun (b : Nat) => !l.contains (b : Int) || b == r.sort)).length ≤ 15 :=
        Nat.le_trans (List.length_filter_le _ _) (Nat.le_trans (by rw [List.length_take]; exact Nat.min_le_right _ _) hlen)
      have yes : (!l.contains (n : Int) || n == r.sort) = true → ∃ acc, H' p = some (.lst acc) ∧ acc.length < sizeLine ∧ Same H (upd H' p (.lst (acc ++ [num n]))) ∧
          upd H' p (.lst (acc ++ [num n])) p = some (.lst (wh ((r.rk.balls.take (i + 1)).filter fun (b : Nat) => !l.contains (b : Int) || b == r.sort))) := fun c => by
        refine ⟨_, hp', ?_, fun b o e => ?_, ?_⟩
        · rw [wh_len]
          exact small1000 (by omega)
        · rw [upd_ne (ne_of_none e hp)]
          exact sm b o e
        · rw [upd_same, take_one hn, List.filter_append, List.filter_cons, if_pos c, wh_app]
          rfl
      have no : (!l.contains (n : Int) || n == r.sort) = false → Same H H' ∧ H' p = some (.lst (wh ((r.rk.balls.take (i + 1)).filter fun (b : Nat) => !l.contains (b : Int) || b == r.sort))) := fun c => by
        refine ⟨sm, ?_⟩
        rw [hp', take_one hn, List.filter_append, List.filter_cons, if_neg (by rw [c]; exact Bool.false_ne_true), List.filter_nil, List.append_nil]
      refine ifC (fun c => ?_) fun c => ?_
      · exact iteT ⟨_, rfl, yes (by rw [c]; rfl)⟩
      · refine ⟨_, rfl, _, rfl, a, CR, f.dx, _, _, rfl, sm _ _ RA.ins, T.clR, T.nR_game, rl_game r f, rfl, _, rfl, ?_⟩
        rw [dnum]
        have e : (!l.contains (n : Int) || n == r.sort) = decide (n = r.sort) := by
          rw [c, Bool.false_or]
          rfl
        rw [e] at yes no
        refine ifC (fun c => ?_) fun c => ?_
        · exact ⟨_, rfl, yes c⟩
        · exact no c
    · rintro H' ⟨sm, hp'⟩
      rw [wh_len, List.take_length] at hp'
      have pa := ne_of_none RA.ins hp
      refine ⟨_, rfl, a, CR, f.dx, _, rfl, sm _ _ RA.ins, T.clR, T.nR_balls, len_rF r f, ?_⟩
      rw [rp_balls]
      have R1 := RA.same sm
      refine q _ { f with ab := p } ⟨upd_same, ?_, ?_, ?_, ?_, ne_of_none RA.won hp, R1.n2, R1.n3, (ne_of_none RA.groups hp).symm, (ne_of_none RA.fouls hp).symm, R1.n6⟩ ⟨fun b o e m => ?_, fun b m => ?_⟩
      · rw [upd_ne R1.aw]; exact R1.won
      · show upd H' a _ p = _
        rw [upd_ne pa.symm]
        exact hp'
      · rw [upd_ne R1.ag]; exact R1.groups
      · rw [upd_ne R1.af]; exact R1.fouls
      · rw [upd_ne (fun z => m (by rw [z]; exact f.self a))]
        exact sm b o e
      · by_cases hb : b = p
        · rw [hb]; exact .inr hp
        · refine .inl ?_
          simp only [Ft.on, List.mem_cons, List.not_mem_nil, or_false] at m ⊢
          rcases m with m | m | m | m | m
          · exact .inl m
          · exact .inr (.inl m)
          · exact absurd m hb
          · exact .inr (.inr (.inr (.inl m)))
          · exact .inr (.inr (.inr (.inr m)))
end
section
variable {P : Program} {w : World} {K : PySem.W.Frag} {mg : Str → Option Value} {base : Heap} {CS CR CF : Addr}
/-! ### eight-ball -/
abbrev sGrp : Stmt := top 20
theorem scGrp : FnScope ["ball"] ["ball"] (defScope sGrp) := ⟨rfl, rfl, rfl, by decide +kernel, rfl, by decide +kernel, by decide +kernel⟩
def spGrp : Sp := fun vs H Q _ => ∃ z : Int, vs = [.int z] ∧ Q (num (grp z)) H
theorem ok_grp (T : Txt K mg CS CR CF) (D : DefF K mg "group_of" sGrp) : CalF P w K mg base "group_of" 1 ["ball"] spGrp := by
  refine D.cal (fun f fd F => F.ok scGrp (fun vs H Q E h => ?_) (fun cdv A outer s H vs Q E hr h => ?_)) (fun _ _ _ _ _ _ us hl => match us, hl with | [_], _ => rfl)
  · obtain ⟨z, rfl, _⟩ := h
    rfl
  · obtain ⟨z, rfl, q⟩ := h
    refine ⟨_, pss_one (ps_ret (pe_ifExp (pt_cmpR op_lt (pv 0) (pe_gi T.c_EIGHT rfl) (nomark _)) (pe_gi T.c_LOW rfl) (pe_gi T.c_HIGH rfl))), ?_⟩
    refine ⟨_, rfl, _, _, rfl, rfl, _, rfl, ?_⟩
    unfold grp at q
    refine ifC (fun c => ?_) fun c => ?_
    · rw [if_pos (of_decide_eq_true c)] at q
      exact q
    · rw [if_neg (of_decide_eq_false c)] at q
      exact q
abbrev sR8 : Stmt := top 21
abbrev nR8 : List Str := ["race", "group", "left", "ball"]
theorem scR8 : FnScope nR8 ["race"] (defScope sR8) := ⟨rfl, rfl, rfl, by decide +kernel, rfl, by decide +kernel, by decide +kernel⟩
def spR8 (CR : Addr) : Sp := fun vs H Q _ => ∃ (a : Addr) (f : Ft) (r : R), vs = [.ref a] ∧ RaceAt CR H a f r ∧ r.rk.who ≤ 1 ∧ r.rk.balls.length ≤ 15 ∧ ∀ H' p, Same H H' → H p = none → H' p = some (.lst (wh r.right8)) → Q (.ref p) H'
theorem side_two (r : R) {n : Nat} (h : n ≤ 1) : (if n = 0 then num (r.side 0) else num (r.side 1)) = num (r.side n) := by
  rcases Nat.le_one_iff_eq_zero_or_eq_one.mp h with rfl | rfl <;> rfl
theorem dnz {z : Int} (i j : Nat) (h : z = (j : Int)) : decide (num i = V.int z) = decide (i = j) := by
  subst h
  exact dnum i j
theorem in_two (g x : Nat) : inV (num g) [V.int 0, num x] = (g == 0 || g == x) := by
  show (eqV (V.int 0) (V.int g) || (eqV (V.int x) (V.int g) || false)) = _
  show (((0 : Int) == (g : Int)) || (((x : Int) == (g : Int)) || false)) = _
  rw [Bool.or_false]
  have e1 : ((0 : Int) == (g : Int)) = (g == 0) := by
    rw [Bool.eq_iff_iff, beq_iff_eq, beq_iff_eq]
    omega
  have e2 : ((x : Int) == (g : Int)) = (g == x) := by
    rw [Bool.eq_iff_iff, beq_iff_eq, beq_iff_eq]
    omega
  rw [e1, e2]
theorem ok_r8 (T : Txt K mg CS CR CF) (D : DefF K mg "right_balls_of_eight" sR8) (cG : CalF P w K mg base "group_of" 1 ["ball"] spGrp) : CalF P w K mg base "right_balls_of_eight" 2 ["race"] (spR8 CR) := by
  refine D.cal (fun f fd F => F.ok scR8 (fun vs H Q E h => ?_) (fun cdv A outer s H vs Q E hr h => ?_)) (fun _ _ _ _ _ _ us hl => match us, hl with | [_], _ => rfl)
  · obtain ⟨a, f, r, rfl, _⟩ := h
    rfl
  · obtain ⟨a, f, r, rfl, RA, hw, hlen, q⟩ := h
    refine ⟨_, pss_cons (ps_if (pt_cmpR op_eq (pe_fld (pv 0) rfl) (pe_gi T.c_PHASE_BREAK rfl) (nomark _)) (pss_one (ps_ret (pe_callTy call_list_of (by rfl) T.b_list boot_list (pa_cons (pe_fld (pv 0) rfl) pa_nil)))) pss_nil)
      (pss_cons (ps_set (i := 1) scR8.nd rfl (Or.inr rfl) (pe_ix ix_list (pe_fld (pv 0) rfl) (pe_fld (pv 0) rfl) (fun _ _ => rfl)))
      (pss_cons (ps_setLc (i := 2) (own := [("ball", 3)]) (g := gName 3) (te := tVar 3)
        (tt := tAnd (tTest (tOp rNe (tVar 3) (tC (.int 8)))) (tTest (tOp (rIn K false) (tVar 1) (tTup (tCons (tC (.int 0)) (tCons (tCall spGrp [] E0 (tCons (tVar 3) tNil)) tNil))))))
        rfl scR8.nd rfl rfl (sw_true rfl rfl rfl (by decide +kernel)) (pi_list (pe_fld (pv 0) rfl)) (blkOk_by (N := nR8) (sc := defScope sR8) (by decide +kernel)) (fun _ _ _ _ _ => pg_name (i := 3) scR8.nd rfl (Or.inl rfl))
        (fun _ _ _ _ _ => pts_one (PW.pt (pw_and (pt_cmpR op_ne (pv 3) (pe_gi T.c_EIGHT rfl) (nomark _)) (pw_and1 (pt_cmpR op_in_seq (pv 1) (pe_tup (pa_cons (pe_gi T.c_NO_GROUP rfl) (pa_cons (pe_cf cG hr rfl (pa_cons (pv 3) pa_nil)) pa_nil))) (by rfl))))))
        (fun _ _ _ _ _ => pv 3))
      (pss_one (ps_ret (pe_ifExp (pt_cmpR op_gt (pe_callB call_len_seq (by rfl) T.b_len PySem.boot_len (pa_cons (pv 2) pa_nil)) pe_int (nomark _)) (pv 2) (pe_lst (pa_cons (pe_gi T.c_EIGHT rfl) pa_nil))))))), ?_⟩
    refine ⟨_, rfl, a, CR, f.dx, _, _, rfl, RA.ins, T.clR, T.nR_phase, rl_phase r f, rfl, _, rfl, ?_⟩
    rw [dnz (z := 0) _ 0 rfl]
    unfold R.right8 at q
    refine ifC (fun c => ?_) fun c => ?_
    · rw [if_pos (of_decide_eq_true c)] at q
      refine ⟨_, rfl, a, CR, f.dx, _, _, rfl, RA.ins, T.clR, T.nR_balls, rl_balls r f, f.ab, _, rfl, .inl (SqL.of RA.balls), fun p hp => ?_⟩
      exact q _ p (same_upd hp) hp upd_same
    · rw [if_neg (of_decide_eq_false c)] at q
      refine ⟨_, rfl, a, CR, f.dx, _, _, rfl, RA.ins, T.clR, T.nR_groups, rl_groups r f, _, rfl, a, CR, f.dx, _, _, rfl, RA.ins, T.clR, T.nR_turn, rl_turn r f, f.ag, _, _, _, rfl, rfl, SqL.of RA.groups, atI_two hw, ?_⟩
      rw [side_two r hw]
      refine ⟨_, rfl, a, CR, f.dx, _, _, rfl, RA.ins, T.clR, T.nR_balls, rl_balls r f, f.ab, rfl, ⟨_, SqL.of RA.balls⟩, fun p hp => ?_⟩
      have hp0 := hp
      refine lc_list (xs := wh r.rk.balls) (fun i H' => Same H H' ∧ H' p = some (.lst (wh ((r.rk.balls.take i).filter fun (b : Nat) => b != 8 && (r.side r.rk.who == 0 || r.side r.rk.who == grp (b : Int)))))) ⟨same_upd hp, upd_same⟩ (fun i H' _ h => SqL.of (h.1 _ _ RA.balls)) ?_ ?_
      · rintro i x H' hx ⟨sm, hp'⟩
        obtain ⟨n, hn, rfl⟩ := wh_at hx
        refine ⟨rfl, ?_⟩
        have hcut : (((r.rk.balls.take i).filter fun (b : Nat) => b != 8 && (r.side r.rk.who == 0 || r.side r.rk.who == grp (b : Int)))).length ≤ 15 :=
          Nat.le_trans (List.length_filter_le _ _) (Nat.le_trans (by rw [List.length_take]; exact Nat.min_le_right _ _) hlen)
        have yes : ∀ H2, Same H' H2 → (n != 8 && (r.side r.rk.who == 0 || r.side r.rk.who == grp (n : Int))) = true → ∃ acc, H2 p = some (.lst acc) ∧ acc.length < sizeLine ∧ Same H (upd H2 p (.lst (acc ++ [num n]))) ∧
            upd H2 p (.lst (acc ++ [num n])) p = some (.lst (wh ((r.rk.balls.take (i + 1)).filter fun (b : Nat) => b != 8 && (r.side r.rk.who == 0 || r.side r.rk.who == grp (b : Int))))) := fun H2 s2 c => by
          refine ⟨_, s2 _ _ hp', ?_, fun b o e => ?_, ?_⟩
          · rw [wh_len]
            exact small1000 (by omega)
          · rw [upd_ne (ne_of_none e hp)]
            exact s2 _ _ (sm b o e)
          · rw [upd_same, take_one hn, List.filter_append, List.filter_cons, if_pos c, wh_app]
            rfl
        have no : ∀ H2, Same H' H2 → (n != 8 && (r.side r.rk.who == 0 || r.side r.rk.who == grp (n : Int))) = false → Same H H2 ∧ H2 p = some (.lst (wh ((r.rk.balls.take (i + 1)).filter fun (b : Nat) => b != 8 && (r.side r.rk.who == 0 || r.side r.rk.who == grp (b : Int))))) := fun H2 s2 c => by
          refine ⟨sm.trans s2, ?_⟩
          rw [s2 _ _ hp', take_one hn, List.filter_append, List.filter_cons, if_neg (by rw [c]; exact Bool.false_ne_true), List.filter_nil, List.append_nil]
        refine ⟨_, rfl, rfl, _, rfl, ?_⟩
        rw [dnz (z := 8) _ 8 rfl]
        have e8 : (n != 8) = !decide (n = 8) := rfl
        refine ifC (fun c => ?_) fun c => ?_
        · refine ⟨_, rfl, _, rfl, _, rfl, (by show 2 ≤ sizeLine; decide), fun t ht => ?_⟩
          refine ⟨t, _, rfl, .inr (SqT.of upd_same), rfl, rfl, _, rfl, ?_⟩
          rw [if_neg Bool.false_ne_true, in_two]
          rw [e8, c, Bool.true_and] at yes no
          refine ifC (fun c => ?_) fun c => ?_
          · exact ⟨_, rfl, yes _ (same_upd ht) c⟩
          · exact no _ (same_upd ht) c
        · rw [e8, c, Bool.false_and] at no
          exact iteF (no _ (.refl _) rfl)
      · rintro H' ⟨sm, hp'⟩
        rw [wh_len, List.take_length] at hp'
        refine ⟨_, rfl, p, _, rfl, .inl (SqL.of hp'), _, _, rfl, rfl, _, rfl, ?_⟩
        rw [wh_len]
        have e : decide ((0 : Int) < (r.left.length : Nat)) = !r.left.isEmpty := by
          cases r.left with
          | nil => rfl
          | cons x l => exact decide_eq_true (by rw [List.length_cons]; omega)
        have e2 : ((r.rk.balls.filter fun (b : Nat) => b != 8 && (r.side r.rk.who == 0 || r.side r.rk.who == grp (b : Int)))) = r.left := rfl
        rw [e2] at hp' ⊢
        rw [e]
        refine ifC (fun c => ?_) fun c => ?_
        · rw [if_neg (by rw [Bool.not_eq_true']  at c; rw [c]; exact Bool.false_ne_true)] at q
          exact ⟨_, rfl, q _ p sm hp0 hp'⟩
        · rw [if_pos (by rw [Bool.not_eq_false'] at c; exact c)] at q
          exact ⟨(by show 1 ≤ sizeLine; decide), fun u hu => q _ u (sm.trans (same_upd hu)) (sm.free hu) upd_same⟩
end
section
variable {P : Program} {w : World} {K : PySem.W.Frag} {mg : Str → Option Value} {base : Heap} {CS CR CF : Addr}
abbrev sGive : Stmt := top 22
theorem scGive : FnScope ["race", "side", "group"] ["race", "side", "group"] (defScope sGive) := ⟨rfl, rfl, rfl, by decide +kernel, rfl, by decide +kernel, by decide +kernel⟩
def spGive (CR : Addr) : Sp := fun vs H Q _ => ∃ (a : Addr) (f : Ft) (r : R) (n g : Nat), vs = [.ref a, num n, num g] ∧ RaceAt CR H a f r ∧ n ≤ 1 ∧ (g = 1 ∨ g = 2) ∧ ∀ H', RaceAt CR H' a f (r.give n g) → Step H H' (f.on a) (f.on a) → Q .non H'
theorem Ft.mag (f : Ft) (a : Addr) : f.ag ∈ f.on a := List.mem_cons_of_mem _ (List.mem_cons_of_mem _ (List.mem_cons_of_mem _ List.mem_cons_self))
theorem Ft.maf (f : Ft) (a : Addr) : f.af ∈ f.on a := List.mem_cons_of_mem _ (List.mem_cons_of_mem _ (List.mem_cons_of_mem _ (List.mem_cons_of_mem _ List.mem_cons_self)))
theorem ifTC2 {c : Bool} {x y : Int} {σ : L2.St} {H : Hp} {Q : VK} (h : ∀ z, z = (if c = true then x else y) → Q (.int z) H) : if c = true then tC (.int x) σ H Q else tC (.int y) σ H Q := by
  cases c with
  | true => exact iteT (h _ rfl)
  | false => exact iteF (h _ rfl)
theorem ok_give (T : Txt K mg CS CR CF) (D : DefF K mg "give_group" sGive) : CalF P w K mg base "give_group" 1 ["race", "side", "group"] (spGive CR) := by
  refine D.cal (fun f fd F => F.ok scGive (fun vs H Q E h => ?_) (fun cdv A outer s H vs Q E hr h => ?_)) (fun _ _ _ _ _ _ us hl => match us, hl with | [_, _, _], _ => rfl)
  · obtain ⟨a, f, r, n, g, rfl, _⟩ := h
    rfl
  · obtain ⟨a, f, r, n, g, rfl, RA, hn, hg, q⟩ := h
    refine ⟨_, pss_cons (ps_asg (pv 2) (pg_sub (pe_fld (pv 0) rfl) (pv 1) set_list)) (pss_one (ps_asg (pe_ifExp (pt_cmpR op_eq (pv 2) (pe_gi T.c_HIGH rfl) (nomark _)) (pe_gi T.c_LOW rfl) (pe_gi T.c_HIGH rfl)) (pg_sub (pe_fld (pv 0) rfl) (pe_op op_sub pe_int (pv 1)) set_list))), ?_⟩
    refine ⟨_, rfl, _, rfl, a, CR, f.dx, _, _, rfl, RA.ins, T.clR, T.nR_groups, rl_groups r f, _, rfl, f.ag, _, _, n, rfl, rfl, RA.groups, ixN_two hn, ?_⟩
    refine ⟨_, rfl, rfl, _, rfl, ?_⟩
    rw [dnz (z := 2) _ 2 rfl]
    refine ifTC2 fun z hz => ?_
    have na := RA.ag
    refine ⟨_, rfl, a, CR, f.dx, _, _, rfl, (upd_ne na.symm).trans RA.ins, T.clR, T.nR_groups, rl_groups r f, _, rfl, _, _, rfl, rfl, f.ag, _, (1 : Int) - (n : Int), 1 - n, rfl, rfl, upd_same, ?_, ?_⟩
    · show ixN _ (1 - (n : Int)) = _
      rcases Nat.le_one_iff_eq_zero_or_eq_one.mp hn with rfl | rfl <;> rfl
    · rw [upd_upd]
      have e : ((([num (r.side 0), num (r.side 1)] : List V).set n (num g)).set (1 - n) (.int z)) = [num ((r.give n g).side 0), num ((r.give n g).side 1)] := by
        rcases Nat.le_one_iff_eq_zero_or_eq_one.mp hn with rfl | rfl
        · rcases hg with rfl | rfl
          · subst hz; rfl
          · subst hz; rfl
        · rcases hg with rfl | rfl
          · subst hz; rfl
          · subst hz; rfl
      rw [e]
      exact q _ (RA.setGroups rfl rfl) (.upd (f.mag a))
abbrev sGB : Stmt := top 24
theorem scGB : FnScope ["race", "shot"] ["race", "shot"] (defScope sGB) := ⟨rfl, rfl, rfl, by decide +kernel, rfl, by decide +kernel, by decide +kernel⟩
def spGB (CS CR : Addr) : Sp := fun vs H Q _ => ∃ (a b p : Addr) (f : Ft) (r : R) (x : SI), vs = [.ref a, .ref b] ∧ RaceAt CR H a f r ∧ ShotAt CS H b p x ∧ r.rk.who ≤ 1 ∧ ∀ H', RaceAt CR H' a f (r.goBreak x) → Step H H' (f.on a) (f.on a) → Q .non H'
theorem lenpos (l : List Int) : decide ((0 : Int) < (((l.map V.int).length : Nat) : Int)) = !l.isEmpty := by
  cases l with
  | nil => rfl
  | cons a r => exact decide_eq_true (by rw [List.length_map, List.length_cons]; omega)
theorem ok_gb (T : Txt K mg CS CR CF) (D : DefF K mg "go_on_behind_break" sGB) (cW : CalF P w K mg base "is_weak_break" 1 ["shot"] (spWeak CS)) (cL : CalM P w K mg base CR "let_other_choose" 2 ["self", "of_push"] (spLet CR))
    (cP : CalM P w K mg base CR "play_on" 1 ["self", "phase"] (spPlay CR)) (cT : CalM P w K mg base CR "pass_turn" 1 ["self", "phase", "in_hand"] (spPass CR)) : CalF P w K mg base "go_on_behind_break" 3 ["race", "shot"] (spGB CS CR) := by
  refine D.cal (fun f fd F => F.ok scGB (fun vs H Q E h => ?_) (fun cdv A outer s H vs Q E hr h => ?_)) (fun _ _ _ _ _ _ us hl => match us, hl with | [_, _], _ => rfl)
  · obtain ⟨a, b, p, f, r, x, rfl, _⟩ := h
    rfl
  · obtain ⟨a, b, p, f, r, x, rfl, RA, SA, hw, q⟩ := h
    have hr1 := hr.mono (show 1 ≤ 2 by decide)
    refine ⟨_, pss_one (ps_if (pt_val (pe_cf cW hr1 rfl (pa_cons (pv 1) pa_nil))) (pss_one (ps_expr (pe_cm cL T.clR hr (pv 0) (pa_cons pe_int pa_nil))))
      (pss_one (ps_if (pt_cmpR op_gt (pe_callB call_len_seq (by rfl) T.b_len PySem.boot_len (pa_cons (pe_fld (pv 1) rfl) pa_nil)) pe_int (nomark _)) (pss_one (ps_expr (pe_cm cP T.clR hr1 (pv 0) (pa_cons (pe_gi T.c_PHASE_PLAY rfl) pa_nil))))
        (pss_one (ps_expr (pe_cm cT T.clR hr1 (pv 0) (pa_cons (pe_gi T.c_PHASE_PLAY rfl) (pa_cons pe_int pa_nil)))))))), ?_⟩
    refine ⟨_, rfl, b, p, x, rfl, SA, _, rfl, ?_⟩
    unfold R.goBreak at q
    refine ifC (fun c => ?_) fun c => ?_
    · rw [if_pos c] at q
      exact ⟨_, rfl, a, f.dx, _, rfl, RA.ins, rn_let_other_choose r f, a, f, r, false, rfl, RA, hw, q⟩
    · rw [if_neg (by rw [c]; exact Bool.false_ne_true)] at q
      obtain ⟨⟨dx, hb⟩, hp⟩ := SA
      refine ⟨_, rfl, b, CS, dx, _, _, rfl, hb, T.clS, T.nS_potted, sl_potted x p, p, _, rfl, .inl (SqL.of hp), _, _, rfl, rfl, _, rfl, ?_⟩
      rw [lenpos]
      refine ifC (fun c => ?_) fun c => ?_
      · rw [if_neg (by rw [Bool.not_eq_true'] at c; rw [c]; exact Bool.false_ne_true)] at q
        exact ⟨_, rfl, a, f.dx, _, rfl, RA.ins, rn_play_on r f, a, f, r, 2, rfl, RA, q⟩
      · rw [if_pos (by rw [Bool.not_eq_false'] at c; exact c)] at q
        exact ⟨_, rfl, a, f.dx, _, rfl, RA.ins, rn_pass_turn r f, a, f, r, 2, false, rfl, RA, hw, q⟩
abbrev sGP : Stmt := top 25
abbrev nGP : List Str := ["race", "shot", "side", "called_is_potted"]
theorem scGP : FnScope nGP ["race", "shot"] (defScope sGP) := ⟨rfl, rfl, rfl, by decide +kernel, rfl, by decide +kernel, by decide +kernel⟩
def spGP (CS CR : Addr) : Sp := fun vs H Q _ => ∃ (a b p : Addr) (f : Ft) (r : R) (x : SI), vs = [.ref a, .ref b] ∧ RaceAt CR H a f r ∧ ShotAt CS H b p x ∧ b ∉ f.on a ∧ p ∉ f.on a ∧ r.rk.who ≤ 1 ∧
  ∀ H', RaceAt CR H' a f (r.goPlay x) → Step H H' (f.on a) (f.on a) → Q .non H'
def tGP (K : PySem.W.Frag) (CR : Addr) : TS := tIfS (tAnd (tB (tVar 3)) (tTest (tOp rEq (tOp (rIxL K) (tFld K (tVar 0) "groups") (tVar 2)) (tCall spGrp [] E0 (tCons (tFld K (tVar 1) "called") tNil)))))
  (tDrop (tMeth CR "play_on" (spPlay CR) [] E0 (tVar 0) (tCons (tC (.int 2)) tNil))) (tDrop (tMeth CR "pass_turn" (spPass CR) [] E0 (tVar 0) (tCons (tC (.int 2)) (tCons (tC (.int 0)) tNil))))
theorem grp12 (z : Int) : grp z = 1 ∨ grp z = 2 := by unfold grp; split <;> simp
theorem ok_gp (T : Txt K mg CS CR CF) (D : DefF K mg "go_on_in_play" sGP) (cG : CalF P w K mg base "group_of" 1 ["ball"] spGrp) (cV : CalF P w K mg base "give_group" 1 ["race", "side", "group"] (spGive CR))
    (cP : CalM P w K mg base CR "play_on" 1 ["self", "phase"] (spPlay CR)) (cT : CalM P w K mg base CR "pass_turn" 1 ["self", "phase", "in_hand"] (spPass CR)) : CalF P w K mg base "go_on_in_play" 2 ["race", "shot"] (spGP CS CR) := by
  refine D.cal (fun f fd F => F.ok scGP (fun vs H Q E h => ?_) (fun cdv A outer s H vs Q E hr h => ?_)) (fun _ _ _ _ _ _ us hl => match us, hl with | [_, _], _ => rfl)
  · obtain ⟨a, b, p, f, r, x, rfl, _⟩ := h
    rfl
  · obtain ⟨a, b, p, f, r, x, rfl, RA, SA, nb, np, hw, q⟩ := h
    refine ⟨_, pss_cons (ps_set (i := 2) scGP.nd rfl (Or.inl rfl) (pe_fld (pv 0) rfl)) (pss_cons (ps_set (i := 3) scGP.nd rfl (Or.inl rfl) (pe_cmpR op_in_seq (pe_fld (pv 1) rfl) (pe_fld (pv 1) rfl) (by rfl)))
      (pss_cons (ps_if (PW.pt (pw_and (pt_val (pv 3)) (pw_and1 (pt_cmpR op_eq (pe_ix ix_list (pe_fld (pv 0) rfl) (pv 2) (fun _ _ => rfl)) (pe_gi T.c_NO_GROUP rfl) (nomark _)))))
        (pss_one (ps_expr (pe_cf cV hr rfl (pa_cons (pv 0) (pa_cons (pv 2) (pa_cons (pe_cf cG hr rfl (pa_cons (pe_fld (pv 1) rfl) pa_nil)) pa_nil)))))) pss_nil)
      (pss_one (ps_if (PW.pt (pw_and (pt_val (pv 3)) (pw_and1 (pt_cmpR op_eq (pe_ix ix_list (pe_fld (pv 0) rfl) (pv 2) (fun _ _ => rfl)) (pe_cf cG hr rfl (pa_cons (pe_fld (pv 1) rfl) pa_nil)) (nomark _)))))
        (pss_one (ps_expr (pe_cm cP T.clR hr (pv 0) (pa_cons (pe_gi T.c_PHASE_PLAY rfl) pa_nil))))
        (pss_one (ps_expr (pe_cm cT T.clR hr (pv 0) (pa_cons (pe_gi T.c_PHASE_PLAY rfl) (pa_cons pe_int pa_nil))))))))), ?_⟩
    have SA0 := SA
    obtain ⟨⟨dx, hb⟩, hp⟩ := SA
    refine ⟨_, rfl, a, CR, f.dx, _, _, rfl, RA.ins, T.clR, T.nR_turn, rl_turn r f, ?_⟩
    refine ⟨_, rfl, b, CS, dx, _, _, rfl, hb, T.clS, T.nS_called, sl_called x p, _, rfl, b, CS, dx, _, _, rfl, hb, T.clS, T.nS_potted, sl_potted x p, p, _, rfl, .inl (SqL.of hp), rfl, flat_ints _, ?_⟩
    rw [if_neg Bool.false_ne_true, in_ints]
    -- what is done behind the groups
    have tail : ∀ (H1 : Hp) (r1 : R), r1 = r.given x → r1.rk.who ≤ 1 → r1.rk.who = r.rk.who → RaceAt CR H1 a f r1 → Step H H1 (f.on a) (f.on a) →
        tGP K CR { nx := fun _ H' => Q .non H', rt := Q } [some (.ref a), some (.ref b), some (num r.rk.who), some (.bl (x.potted.contains x.called))] H1 := by
      intro H1 r1 e1 hw1 e2 R1 s1
      obtain ⟨⟨⟨dx1, hb1⟩, hp1⟩, _, _⟩ := SA0.step s1 nb np
      unfold R.goPlay at q
      rw [← e1] at q
      refine ⟨_, rfl, _, rfl, ?_⟩
      refine ifC (fun c => ?_) fun c => ?_
      · refine ⟨_, rfl, a, CR, f.dx, _, _, rfl, R1.ins, T.clR, T.nR_groups, rl_groups r1 f, _, rfl, f.ag, _, _, _, rfl, rfl, SqL.of R1.groups, atI_two hw, ?_⟩
        rw [side_two r1 hw]
        refine ⟨_, rfl, b, CS, dx1, _, _, rfl, hb1, T.clS, T.nS_called, sl_called x p, _, rfl, rfl, _, rfl, ?_⟩
        rw [dnum]
        refine ifC (fun c2 => ?_) fun c2 => ?_
        · rw [if_pos ⟨c, of_decide_eq_true c2⟩] at q
          exact ⟨_, rfl, a, f.dx, _, rfl, R1.ins, rn_play_on r1 f, a, f, r1, 2, rfl, R1, fun H2 R2 s2 => q H2 R2 (s1.trans s2)⟩
        · rw [if_neg (fun z => of_decide_eq_false c2 z.2)] at q
          exact ⟨_, rfl, a, f.dx, _, rfl, R1.ins, rn_pass_turn r1 f, a, f, r1, 2, false, rfl, R1, hw1, fun H2 R2 s2 => q H2 R2 (s1.trans s2)⟩
      · rw [if_neg (fun z => by rw [c] at z; exact Bool.false_ne_true z.1)] at q
        exact iteF ⟨_, rfl, a, f.dx, _, rfl, R1.ins, rn_pass_turn r1 f, a, f, r1, 2, false, rfl, R1, hw1, fun H2 R2 s2 => q H2 R2 (s1.trans s2)⟩
    refine ⟨_, rfl, _, rfl, ?_⟩
    refine ifC (fun c => ?_) fun c => ?_
    · refine ⟨_, rfl, a, CR, f.dx, _, _, rfl, RA.ins, T.clR, T.nR_groups, rl_groups r f, _, rfl, f.ag, _, _, _, rfl, rfl, SqL.of RA.groups, atI_two hw, ?_⟩
      rw [side_two r hw]
      refine ⟨rfl, _, rfl, ?_⟩
      rw [dnz (z := 0) _ 0 rfl]
      refine ifC (fun c2 => ?_) fun c2 => ?_
      · refine ⟨_, rfl, _, rfl, _, rfl, b, CS, dx, _, _, rfl, hb, T.clS, T.nS_called, sl_called x p, _, rfl, a, f, r, r.rk.who, grp x.called, rfl, RA, hw, grp12 _, fun H1 R1 s1 => ?_⟩
        exact tail H1 (r.give r.rk.who (grp x.called)) (by unfold R.given; rw [if_pos ⟨c, of_decide_eq_true c2⟩]) hw rfl R1 s1
      · exact tail H r (by unfold R.given; rw [if_neg (fun z => of_decide_eq_false c2 z.2)]) hw rfl RA .refl
    · exact iteF (tail H r (by unfold R.given; rw [if_neg (fun z => by rw [c] at z; exact Bool.false_ne_true z.1)]) hw rfl RA .refl)
end
section
variable {P : Program} {w : World} {K : PySem.W.Frag} {mg : Str → Option Value} {base : Heap} {CS CR CF : Addr}
theorem dp_ints {H : Hp} : ∀ l : List Int, DpAll K H (l.map V.int) (l.map PyData.int)
  | [] => .nil
  | _ :: r => .cons (.int _) (dp_ints r)
theorem shaped_ints (l : List Int) : SeqAt.shaped (.list (l.map PyData.int)) = true := by
  show (PyData.canLay0 (.list (l.map .int)) && decide (PyData.depth (.list (l.map .int)) ≤ 64)) = true
  rw [Bool.and_eq_true]
  refine ⟨?_, decide_eq_true ?_⟩
  · simp only [PyData.canLay0, canLayAll_ints]
  · simp only [PyData.depth, depthAll_ints]
    decide
theorem eqv_ints : ∀ l m : List Int, PyData.eqvAll (l.map PyData.int) (m.map PyData.int) = decide (l = m)
  | [], [] => rfl
  | [], b :: m => by simp [PyData.eqvAll]
  | a :: l, [] => by simp [PyData.eqvAll]
  | a :: l, b :: m => by
    show (PyData.eqv (.int a) (.int b) && PyData.eqvAll (l.map PyData.int) (m.map PyData.int)) = _
    rw [eqv_ints l m]
    show ((a == b) && decide (l = m)) = _
    by_cases h : a = b
    · subst h
      simp
    · simp [h]
theorem whole_eight (l : List Nat) : decide (Kg78.whole l = [8]) = decide (l = [8]) := by
  have : (Kg78.whole l = [8]) ↔ l = [8] := by
    constructor
    · intro h
      match l, h with
      | [], h => cases h
      | [x], h =>
        have e : (x : Int) = 8 := (List.cons.inj h).1
        have : x = 8 := by omega
        rw [this]
      | x :: y :: r, h => exact absurd (List.cons.inj h).2 (by simp)
    · intro h
      rw [h]
      rfl
  exact decide_eq_decide.mpr this
abbrev sS8 : Stmt := top 23
abbrev nS8 : List Str := ["race", "shot", "right", "foul", "fair"]
theorem scS8 : FnScope nS8 ["race", "shot"] (defScope sS8) := ⟨rfl, rfl, rfl, by decide +kernel, rfl, by decide +kernel, by decide +kernel⟩
def spS8 (CS CR : Addr) : Sp := fun vs H Q _ => ∃ (a b p : Addr) (f : Ft) (r : R) (x : SI), vs = [.ref a, .ref b] ∧ RaceAt CR H a f r ∧ ShotAt CS H b p x ∧ b ∉ f.on a ∧ p ∉ f.on a ∧ r.rk.who ≤ 1 ∧ r.broke ≤ 1 ∧ r.rk.balls.length ≤ 15 ∧
  ∀ H' f', RaceAt CR H' a f' (r.shot8 x).1 → Step H H' (f.on a) (f'.on a) → Q (num (r.shot8 x).2) H'
def tE8 (K : PySem.W.Frag) (CR : Addr) : TS := tRet (tMeth CR "end_rack" (spEnd CR) [] E0 (tVar 0) (tCons (tIf (tB (tVar 4)) (tFld K (tVar 0) "turn") (tOp (rI0 fun i j => .int (i - j)) (tC (.int 1)) (tFld K (tVar 0) "turn"))) tNil))
def tG8 (K : PySem.W.Frag) (CS CR : Addr) : TS := tSeq (tDrop (tMeth CR "take_off" (spTake CR) [] E0 (tVar 0) (tCons (tFld K (tVar 1) "potted") tNil)))
  (tSeq (tIfS (tB (tVar 3)) (tSeq (tDrop (tMeth CR "pass_turn" (spPass CR) [] E0 (tVar 0) (tCons (tC (.int 2)) (tCons (tC (.int 1)) tNil)))) (tRet (tC (.int 1)))) tNext)
  (tSeq (tIfS (tTest (tOp rEq (tFld K (tVar 0) "phase") (tC (.int 0)))) (tDrop (tCall (spGB CS CR) [] E0 (tCons (tVar 0) (tCons (tVar 1) tNil)))) (tDrop (tCall (spGP CS CR) [] E0 (tCons (tVar 0) (tCons (tVar 1) tNil)))))
  (tRet (tC (.int 0)))))
theorem ok_s8 (T : Txt K mg CS CR CF) (D : DefF K mg "take_shot_of_eight" sS8) (cR : CalF P w K mg base "right_balls_of_eight" 2 ["race"] (spR8 CR)) (cF : CalF P w K mg base "is_common_foul" 1 ["shot", "right"] (spFoul CS))
    (cE : CalM P w K mg base CR "end_rack" 2 ["self", "winner"] (spEnd CR)) (cK : CalM P w K mg base CR "take_off" 1 ["self", "potted"] (spTake CR)) (cT : CalM P w K mg base CR "pass_turn" 1 ["self", "phase", "in_hand"] (spPass CR))
    (cB : CalF P w K mg base "go_on_behind_break" 3 ["race", "shot"] (spGB CS CR)) (cP : CalF P w K mg base "go_on_in_play" 2 ["race", "shot"] (spGP CS CR)) : CalF P w K mg base "take_shot_of_eight" 4 ["race", "shot"] (spS8 CS CR) := by
  refine D.cal (fun f fd F => F.ok scS8 (fun vs H Q E h => ?_) (fun cdv A outer s H vs Q E hr h => ?_)) (fun _ _ _ _ _ _ us hl => match us, hl with | [_, _], _ => rfl)
  · obtain ⟨a, b, p, f, r, x, rfl, _⟩ := h
    rfl
  · obtain ⟨a, b, p, f, r, x, rfl, RA, SA, nb, np, hw, hbr, hlen, q⟩ := h
    have hr1 := hr.mono (show 1 ≤ 3 by decide)
    have hr2 := hr.mono (show 2 ≤ 3 by decide)
    have hu := hr.units
    refine ⟨_, pss_cons (ps_set (i := 2) scS8.nd rfl (Or.inl rfl) (pe_cf cR hr2 rfl (pa_cons (pv 0) pa_nil)))
      (pss_cons (ps_set (i := 3) scS8.nd rfl (Or.inl rfl) (pe_cf cF hr1 rfl (pa_cons (pv 1) (pa_cons (pv 2) pa_nil))))
      (pss_cons (ps_if (PW.pt (pw_and (pt_cmpR op_ne (pe_fld (pv 0) rfl) (pe_gi T.c_PHASE_BREAK rfl) (nomark _)) (pw_and1 (pt_cmpR op_in_seq (pe_gi T.c_EIGHT rfl) (pe_fld (pv 1) rfl) (by rfl)))))
        (pss_cons (ps_set (i := 4) scS8.nd rfl (Or.inl rfl) (pe_and (pe_not (pv 3)) (pe_and (pe_cmpR (op_eqD hu) (pv 2) (pe_lst (pa_cons (pe_gi T.c_EIGHT rfl) pa_nil)) (nomark _)) (pe_one (pe_cmpR op_eq (pe_fld (pv 1) rfl) (pe_gi T.c_EIGHT rfl) (nomark _))))))
          (pss_one (ps_ret (pe_cm cE T.clR hr2 (pv 0) (pa_cons (pe_ifExp (pt_val (pv 4)) (pe_fld (pv 0) rfl) (pe_op op_sub pe_int (pe_fld (pv 0) rfl))) pa_nil))))) pss_nil)
      (pss_cons (ps_expr (pe_cm cK T.clR hr1 (pv 0) (pa_cons (pe_fld (pv 1) rfl) pa_nil)))
      (pss_cons (ps_if (pt_val (pv 3)) (pss_cons (ps_expr (pe_cm cT T.clR hr1 (pv 0) (pa_cons (pe_gi T.c_PHASE_PLAY rfl) (pa_cons pe_int pa_nil)))) (pss_one (ps_ret (pe_gi T.c_ANSWER_FOUL rfl)))) pss_nil)
      (pss_cons (ps_if (pt_cmpR op_eq (pe_fld (pv 0) rfl) (pe_gi T.c_PHASE_BREAK rfl) (nomark _)) (pss_one (ps_expr (pe_cf cB hr rfl (pa_cons (pv 0) (pa_cons (pv 1) pa_nil))))) (pss_one (ps_expr (pe_cf cP hr2 rfl (pa_cons (pv 0) (pa_cons (pv 1) pa_nil))))))
      (pss_one (ps_ret (pe_gi T.c_ANSWER_FAIR rfl)))))))), ?_⟩
    refine ⟨_, rfl, a, f, r, rfl, RA, hw, hlen, fun H1 d s1 hd0 hd => ?_⟩
    have R1 := RA.same s1
    have S1 := SA.same s1
    refine ⟨_, rfl, _, rfl, b, p, d, x, Kg78.whole r.right8, rfl, S1, hd, ?_⟩
    obtain ⟨⟨dx, hb⟩, hp⟩ := S1
    unfold R.shot8 at q
    -- the rack is over
    have fin : ∀ (H2 : Hp) (c : Bool), Same H1 H2 → (c = true ↔ (foulC x (Kg78.whole r.right8) = false ∧ r.right8 = [8] ∧ x.called = 8)) → (∀ H' f', RaceAt CR H' a f' (r.endRack (r.winner8 x)) → Step H H' (f.on a) (f'.on a) → Q (num (2 + r.winner8 x)) H') →
        tE8 K CR { nx := fun _ H' => Q .non H', rt := Q } [some (.ref a), some (.ref b), some (.ref d), some (.bl (foulC x (Kg78.whole r.right8))), some (.bl c)] H2 := by
      intro H2 c s2 hc q
      have R2 := R1.same s2
      have s02 : Step H H2 (f.on a) (f.on a) := .of_same (s1.trans s2)
      refine ⟨_, rfl, a, f.dx, _, rfl, R2.ins, rn_end_rack r f, _, rfl, _, rfl, ?_⟩
      refine ifC (fun k => ?_) fun k => ?_
      · refine ⟨_, rfl, a, CR, f.dx, _, _, rfl, R2.ins, T.clR, T.nR_turn, rl_turn r f, ?_⟩
        have e : r.winner8 x = r.rk.who := by unfold R.winner8; rw [if_pos (hc.mp k)]
        rw [e] at q
        exact ⟨a, f, r, r.rk.who, rfl, R2, hw, hbr, fun H' f' R' s' => q H' f' R' (s02.trans s')⟩
      · refine ⟨_, rfl, a, CR, f.dx, _, _, rfl, R2.ins, T.clR, T.nR_turn, rl_turn r f, _, _, rfl, rfl, ?_⟩
        have e : r.winner8 x = 1 - r.rk.who := by unfold R.winner8; rw [if_neg (fun z => by rw [hc.mpr z] at k; cases k)]
        rw [e] at q
        refine ⟨a, f, r, 1 - r.rk.who, ?_, R2, by omega, hbr, fun H' f' R' s' => q H' f' R' (s02.trans s')⟩
        show [V.ref a, V.int (1 - (r.rk.who : Int))] = [V.ref a, V.int ((1 - r.rk.who : Nat) : Int)]
        rw [show (1 - (r.rk.who : Int)) = ((1 - r.rk.who : Nat) : Int) by omega]
    -- it goes on
    have goes : ¬ (r.rk.phase ≠ 0 ∧ x.potted.contains 8 = true) →
        tG8 K CS CR { nx := fun _ H' => Q .non H', rt := Q } [some (.ref a), some (.ref b), some (.ref d), some (.bl (foulC x (Kg78.whole r.right8))), none] H1 := by
      intro hno
      rw [if_neg hno] at q
      refine ⟨_, rfl, a, f.dx, _, rfl, R1.ins, rn_take_off r f, _, rfl, b, CS, dx, _, _, rfl, hb, T.clS, T.nS_potted, sl_potted x p, a, p, f, r, x.potted, rfl, R1, hp, hlen, fun H2 f2 R2 s2 => ?_⟩
      have s02 : Step H H2 (f.on a) (f2.on a) := (Step.of_same s1).trans s2
      obtain ⟨SA2, nb2, np2⟩ := SA.step s02 nb np
      refine ⟨_, rfl, _, rfl, ?_⟩
      refine ifC (fun c => ?_) fun c => ?_
      · rw [if_pos c] at q
        refine ⟨_, rfl, a, f2.dx, _, rfl, R2.ins, rn_pass_turn _ f2, a, f2, r.takeOff x.potted, 2, true, rfl, R2, hw, fun H3 R3 s3 => ?_⟩
        exact q H3 f2 R3 (s02.trans s3)
      · rw [if_neg (by rw [c]; exact Bool.false_ne_true)] at q
        refine ⟨_, rfl, a, CR, f2.dx, _, _, rfl, R2.ins, T.clR, T.nR_phase, rl_phase _ f2, rfl, _, rfl, ?_⟩
        rw [dnz (z := 0) _ 0 rfl]
        refine ifC (fun c => ?_) fun c => ?_
        · rw [if_pos (show r.rk.phase = 0 from of_decide_eq_true c)] at q
          exact ⟨_, rfl, _, rfl, a, b, p, f2, r.takeOff x.potted, x, rfl, R2, SA2, hw, fun H3 R3 s3 => q H3 f2 R3 (s02.trans s3)⟩
        · rw [if_neg (show ¬ r.rk.phase = 0 from of_decide_eq_false c)] at q
          exact ⟨_, rfl, _, rfl, a, b, p, f2, r.takeOff x.potted, x, rfl, R2, SA2, nb2, np2, hw, fun H3 R3 s3 => q H3 f2 R3 (s02.trans s3)⟩
    refine ⟨_, rfl, a, CR, f.dx, _, _, rfl, R1.ins, T.clR, T.nR_phase, rl_phase r f, rfl, _, rfl, ?_⟩
    rw [dnz (z := 0) _ 0 rfl]
    refine ifC (fun c => ?_) fun c => ?_
    · refine ⟨_, rfl, b, CS, dx, _, _, rfl, hb, T.clS, T.nS_potted, sl_potted x p, p, _, rfl, .inl (SqL.of hp), rfl, flat_ints _, _, rfl, ?_⟩
      rw [if_neg Bool.false_ne_true, in_ints]
      have hph : r.rk.phase ≠ 0 := fun z => by
        rw [z] at c
        cases c
      refine ifC (fun c2 => ?_) fun c2 => ?_
      · rw [if_pos ⟨hph, c2⟩] at q
        refine ⟨_, rfl, _, rfl, _, rfl, ?_⟩
        refine ifC (fun c3 => ?_) fun c3 => ?_
        · rw [Bool.not_eq_true'] at c3
          refine ⟨_, rfl, (by show 1 ≤ sizeLine; decide), fun t ht => ?_⟩
          refine ⟨_, _, .lst (SqL.of (same_upd ht _ _ hd)) (dp_ints _), .lst (SqL.of upd_same) (.cons (.int 8) .nil), shaped_ints _, rfl, _, rfl, ?_⟩
          rw [show PyData.eqv (PyData.list ((Kg78.whole r.right8).map PyData.int)) (PyData.list [PyData.int 8]) = decide (r.right8 = [8]) from (eqv_ints _ [8]).trans (whole_eight _)]
          refine ifC (fun c4 => ?_) fun c4 => ?_
          · refine ⟨_, rfl, b, CS, dx, _, _, rfl, same_upd ht _ _ hb, T.clS, T.nS_called, sl_called x p, rfl, ?_⟩
            rw [dint]
            exact fin _ _ (same_upd ht) ⟨fun z => ⟨c3, of_decide_eq_true c4, of_decide_eq_true z⟩, fun z => decide_eq_true z.2.2⟩ q
          · exact fin _ _ (same_upd ht) ⟨fun z => (by cases z), fun z => absurd z.2.1 (of_decide_eq_false c4)⟩ q
        · rw [Bool.not_eq_false'] at c3
          exact fin _ _ (.refl _) ⟨fun z => (by cases z), fun z => by rw [z.1] at c3; cases c3⟩ q
      · exact goes (fun z => by rw [c2] at z; exact Bool.false_ne_true z.2)
    · exact goes (fun z => z.1 (by simpa using c))
end
section
variable {P : Program} {w : World} {K : PySem.W.Frag} {mg : Str → Option Value} {base : Heap} {CS CR CF : Addr}
/-! ### nine-ball -/
theorem low_from : ∀ (l : List Nat) (m : Nat), (∀ b ∈ l, 1 ≤ b) → 1 ≤ m → ((l.foldl (fun m b => if m = 0 ∨ b < m then b else m) m = m ∨ l.foldl (fun m b => if m = 0 ∨ b < m then b else m) m ∈ l) ∧
    l.foldl (fun m b => if m = 0 ∨ b < m then b else m) m ≤ m ∧ ∀ b ∈ l, l.foldl (fun m b => if m = 0 ∨ b < m then b else m) m ≤ b)
  | [], m, _, _ => ⟨.inl rfl, Nat.le_refl _, fun b h => by cases h⟩
  | a :: l, m, h, hm => by
    have ha := h a List.mem_cons_self
    have hl : ∀ b ∈ l, 1 ≤ b := fun b q => h b (List.mem_cons_of_mem _ q)
    rw [List.foldl_cons]
    by_cases c : m = 0 ∨ a < m
    · rw [if_pos c]
      obtain ⟨h1, h2, h3⟩ := low_from l a hl ha
      refine ⟨?_, by omega, fun b q => ?_⟩
      · rcases h1 with h1 | h1
        · exact .inr (by rw [h1]; exact List.mem_cons_self)
        · exact .inr (List.mem_cons_of_mem _ h1)
      · rcases List.mem_cons.mp q with z | z
        · rw [z]; exact h2
        · exact h3 b z
    · rw [if_neg c]
      obtain ⟨h1, h2, h3⟩ := low_from l m hl hm
      refine ⟨?_, h2, fun b q => ?_⟩
      · rcases h1 with h1 | h1
        · exact .inl h1
        · exact .inr (List.mem_cons_of_mem _ h1)
      · rcases List.mem_cons.mp q with z | z
        · rw [z]; omega
        · exact h3 b z
theorem low_is {l : List Nat} (h : ∀ b ∈ l, 1 ≤ b) (ne : l ≠ []) : Kg78.lowest l ∈ l ∧ ∀ b ∈ l, Kg78.lowest l ≤ b := by
  match l, ne with
  | a :: l, _ =>
    have ha := h a List.mem_cons_self
    obtain ⟨h1, h2, h3⟩ := low_from l a (fun b q => h b (List.mem_cons_of_mem _ q)) ha
    unfold Kg78.lowest
    rw [List.foldl_cons, if_pos (.inl rfl)]
    refine ⟨?_, fun b q => ?_⟩
    · rcases h1 with h1 | h1
      · rw [h1]; exact List.mem_cons_self
      · exact List.mem_cons_of_mem _ h1
    · rcases List.mem_cons.mp q with z | z
      · rw [z]; exact h2
      · exact h3 b z
theorem low_eq {l : List Nat} (h : ∀ b ∈ l, 1 ≤ b) (ne : l ≠ []) {m : Int} (h1 : m ∈ Kg78.whole l) (h2 : ∀ y ∈ Kg78.whole l, m ≤ y) : V.int m = num (Kg78.lowest l) := by
  obtain ⟨q1, q2⟩ := low_is h ne
  obtain ⟨k, hk, e⟩ := List.mem_map.mp h1
  have z := h2 (Kg78.lowest l : Int) (List.mem_map.mpr ⟨_, q1, rfl⟩)
  have z2 := q2 k hk
  exact congrArg V.int (by omega)
structure Bl (l : List Nat) : Prop where
  len : l.length ≤ 15
  ne : l ≠ []
  pos : ∀ b ∈ l, 1 ≤ b
abbrev sR9 : Stmt := top 28
theorem scR9 : FnScope ["race"] ["race"] (defScope sR9) := ⟨rfl, rfl, rfl, by decide +kernel, rfl, by decide +kernel, by decide +kernel⟩
def spR9 (CR : Addr) : Sp := fun vs H Q _ => ∃ (a : Addr) (f : Ft) (r : R), vs = [.ref a] ∧ RaceAt CR H a f r ∧ Bl r.rk.balls ∧ ∀ H' p, Same H H' → H p = none → H' p = some (.lst (wh r.right9)) → Q (.ref p) H'
theorem ok_r9 (T : Txt K mg CS CR CF) (D : DefF K mg "right_balls_of_nine" sR9) : CalF P w K mg base "right_balls_of_nine" 1 ["race"] (spR9 CR) := by
  refine D.cal (fun f fd F => F.ok scR9 (fun vs H Q E h => ?_) (fun cdv A outer s H vs Q E hr h => ?_)) (fun _ _ _ _ _ _ us hl => match us, hl with | [_], _ => rfl)
  · obtain ⟨a, f, r, rfl, _⟩ := h
    rfl
  · obtain ⟨a, f, r, rfl, RA, hB, q⟩ := h
    refine ⟨_, pss_one (ps_ret (pe_lst (pa_cons (pe_callB (cr_min rfl) (by rfl) T.b_min boot_min (pa_cons (pe_fld (pv 0) rfl) pa_nil)) pa_nil))), ?_⟩
    refine ⟨_, rfl, a, CR, f.dx, _, _, rfl, RA.ins, T.clR, T.nR_balls, rl_balls r f, f.ab, _, rfl, SqL.of RA.balls, ?_, fun m h1 h2 => ⟨(by show 1 ≤ sizeLine; decide), fun p hp => q _ p (same_upd hp) hp ?_⟩⟩
    · rw [Kg78.whole, List.length_map]
      exact List.length_pos_iff.mpr hB.ne
    · rw [upd_same, low_eq hB.pos hB.ne h1 h2]
      rfl
abbrev sF9 : Stmt := top 29
theorem scF9 : FnScope ["race", "shot"] ["race", "shot"] (defScope sF9) := ⟨rfl, rfl, rfl, by decide +kernel, rfl, by decide +kernel, by decide +kernel⟩
def spF9 (CS CR : Addr) : Sp := fun vs H Q _ => ∃ (a b p : Addr) (f : Ft) (r : R) (x : SI), vs = [.ref a, .ref b] ∧ RaceAt CR H a f r ∧ ShotAt CS H b p x ∧ Bl r.rk.balls ∧ ∀ H', Same H H' → Q (.bl (r.foul9 x)) H'
theorem ok_f9 (T : Txt K mg CS CR CF) (D : DefF K mg "is_foul_of_nine" sF9) (cW : CalF P w K mg base "is_weak_break" 1 ["shot"] (spWeak CS)) (cF : CalF P w K mg base "is_common_foul" 1 ["shot", "right"] (spFoul CS))
    (cR : CalF P w K mg base "right_balls_of_nine" 1 ["race"] (spR9 CR)) : CalF P w K mg base "is_foul_of_nine" 2 ["race", "shot"] (spF9 CS CR) := by
  refine D.cal (fun f fd F => F.ok scF9 (fun vs H Q E h => ?_) (fun cdv A outer s H vs Q E hr h => ?_)) (fun _ _ _ _ _ _ us hl => match us, hl with | [_, _], _ => rfl)
  · obtain ⟨a, b, p, f, r, x, rfl, _⟩ := h
    rfl
  · obtain ⟨a, b, p, f, r, x, rfl, RA, SA, hB, q⟩ := h
    refine ⟨_, pss_cons (ps_if (pt_cmpR op_eq (pe_fld (pv 1) rfl) pe_int (nomark _)) (pss_one (ps_ret (pe_cmpR op_eq (pe_fld (pv 1) rfl) pe_int (nomark _)))) pss_nil)
      (pss_cons (ps_if (PW.pt (pw_and (pt_cmpR op_eq (pe_fld (pv 0) rfl) (pe_gi T.c_PHASE_BREAK rfl) (nomark _)) (pw_and1 (pt_val (pe_cf cW hr rfl (pa_cons (pv 1) pa_nil)))))) (pss_one (ps_ret pe_bl)) pss_nil)
      (pss_one (ps_ret (pe_cf cF hr rfl (pa_cons (pv 1) (pa_cons (pe_cf cR hr rfl (pa_cons (pv 0) pa_nil)) pa_nil)))))), ?_⟩
    have SA0 := SA
    obtain ⟨⟨dx, hb⟩, hp⟩ := SA
    unfold R.foul9 at q
    refine ⟨_, rfl, b, CS, dx, _, _, rfl, hb, T.clS, T.nS_push, sl_push x p, rfl, _, rfl, ?_⟩
    rw [dint]
    refine ifC (fun c => ?_) fun c => ?_
    · rw [if_pos (of_decide_eq_true c)] at q
      refine ⟨_, rfl, b, CS, dx, _, _, rfl, hb, T.clS, T.nS_lost, sl_lost x p, rfl, ?_⟩
      rw [dint]
      exact q H (.refl H)
    · rw [if_neg (of_decide_eq_false c)] at q
      have last : ∀ H1, ¬ (r.rk.phase = 0 ∧ weak x = true) → Same H H1 → tRet (tCall (spFoul CS) [] E0 (tCons (tVar 1) (tCons (tCall (spR9 CR) [] E0 (tCons (tVar 0) tNil)) tNil))) { nx := fun _ H' => Q .non H', rt := Q } [some (.ref a), some (.ref b)] H1 := by
        intro H1 hno s1
        rw [if_neg hno] at q
        refine ⟨_, rfl, _, rfl, a, f, r, rfl, RA.same s1, hB, fun H2 d s2 _ hd => ?_⟩
        exact ⟨b, p, d, x, Kg78.whole r.right9, rfl, (SA0.same s1).same s2, hd, q H2 (s1.trans s2)⟩
      refine ⟨_, rfl, a, CR, f.dx, _, _, rfl, RA.ins, T.clR, T.nR_phase, rl_phase r f, rfl, _, rfl, ?_⟩
      rw [dnz (z := 0) _ 0 rfl]
      refine ifC (fun c => ?_) fun c => ?_
      · refine ⟨_, rfl, b, p, x, rfl, SA0, _, rfl, ?_⟩
        refine ifC (fun c2 => ?_) fun c2 => ?_
        · rw [if_pos ⟨of_decide_eq_true c, c2⟩] at q
          exact q H (.refl H)
        · exact last H (fun z => by rw [c2] at z; exact Bool.false_ne_true z.2) (.refl H)
      · exact last H (fun z => of_decide_eq_false c z.1) (.refl H)
abbrev sPB : Stmt := top 32
theorem scPB : FnScope ["race"] ["race"] (defScope sPB) := ⟨rfl, rfl, rfl, by decide +kernel, rfl, by decide +kernel, by decide +kernel⟩
def spPB (CR : Addr) : Sp := fun vs H Q _ => ∃ (a : Addr) (f : Ft) (r : R), vs = [.ref a] ∧ RaceAt CR H a f r ∧ Q (num r.behind) H
theorem ok_pb (T : Txt K mg CS CR CF) (D : DefF K mg "phase_behind" sPB) : CalF P w K mg base "phase_behind" 1 ["race"] (spPB CR) := by
  refine D.cal (fun f fd F => F.ok scPB (fun vs H Q E h => ?_) (fun cdv A outer s H vs Q E hr h => ?_)) (fun _ _ _ _ _ _ us hl => match us, hl with | [_], _ => rfl)
  · obtain ⟨a, f, r, rfl, _⟩ := h
    rfl
  · obtain ⟨a, f, r, rfl, RA, q⟩ := h
    refine ⟨_, pss_one (ps_ret (pe_ifExp (pt_cmpR op_eq (pe_fld (pv 0) rfl) (pe_gi T.c_PHASE_BREAK rfl) (nomark _)) (pe_gi T.c_PHASE_BEHIND_BREAK rfl) (pe_gi T.c_PHASE_PLAY rfl))), ?_⟩
    refine ⟨_, rfl, a, CR, f.dx, _, _, rfl, RA.ins, T.clR, T.nR_phase, rl_phase r f, rfl, _, rfl, ?_⟩
    rw [dnz (z := 0) _ 0 rfl]
    unfold R.behind at q
    refine ifC (fun c => ?_) fun c => ?_
    · rw [if_pos (of_decide_eq_true c)] at q
      exact q
    · rw [if_neg (of_decide_eq_false c)] at q
      exact q
theorem setFouls_eq (r : R) {n : Nat} (v : Nat) (h : n ≤ 1) : r.setFouls n v = { r with rk := { r.rk with foulsA := if n = 0 then v else r.rk.foulsA, foulsB := if n = 0 then r.rk.foulsB else v } } := by
  rcases Nat.le_one_iff_eq_zero_or_eq_one.mp h with rfl | rfl <;> rfl
theorem fouls_two (r : R) {n : Nat} (h : n ≤ 1) : (if n = 0 then num r.rk.foulsA else num r.rk.foulsB) = num (r.fouls n) := by
  rcases Nat.le_one_iff_eq_zero_or_eq_one.mp h with rfl | rfl <;> rfl
theorem fouls_set (r : R) {n : Nat} (v : Nat) (h : n ≤ 1) : (r.setFouls n v).fouls n = v := by
  rcases Nat.le_one_iff_eq_zero_or_eq_one.mp h with rfl | rfl <;> rfl
theorem RaceAt.foul {C : Addr} {H : Hp} {a : Addr} {f : Ft} {r : R} (h : RaceAt C H a f r) {n : Nat} (v : Nat) (hn : n ≤ 1) : RaceAt C (upd H f.af (.lst (([num r.rk.foulsA, num r.rk.foulsB] : List V).set n (num v)))) a f (r.setFouls n v) := by
  have e : (([num r.rk.foulsA, num r.rk.foulsB] : List V).set n (num v)) = [num (if n = 0 then v else r.rk.foulsA), num (if n = 0 then r.rk.foulsB else v)] := by
    rcases Nat.le_one_iff_eq_zero_or_eq_one.mp hn with rfl | rfl <;> rfl
  rw [e, setFouls_eq r v hn]
  exact h.setFouls
abbrev sGF : Stmt := top 31
theorem scGF : FnScope ["race", "side"] ["race"] (defScope sGF) := ⟨rfl, rfl, rfl, by decide +kernel, rfl, by decide +kernel, by decide +kernel⟩
def spGF (CR : Addr) : Sp := fun vs H Q _ => ∃ (a : Addr) (f : Ft) (r : R), vs = [.ref a] ∧ RaceAt CR H a f r ∧ r.rk.who ≤ 1 ∧ r.broke ≤ 1 ∧ ∀ H' f', RaceAt CR H' a f' r.goFoul.1 → Step H H' (f.on a) (f'.on a) → Q (num r.goFoul.2) H'
theorem ok_gf (T : Txt K mg CS CR CF) (D : DefF K mg "go_on_behind_foul" sGF) (cE : CalM P w K mg base CR "end_rack" 2 ["self", "winner"] (spEnd CR)) (cT : CalM P w K mg base CR "pass_turn" 1 ["self", "phase", "in_hand"] (spPass CR))
    (cB : CalF P w K mg base "phase_behind" 1 ["race"] (spPB CR)) : CalF P w K mg base "go_on_behind_foul" 3 ["race"] (spGF CR) := by
  refine D.cal (fun f fd F => F.ok scGF (fun vs H Q E h => ?_) (fun cdv A outer s H vs Q E hr h => ?_)) (fun _ _ _ _ _ _ us hl => match us, hl with | [_], _ => rfl)
  · obtain ⟨a, f, r, rfl, _⟩ := h
    rfl
  · obtain ⟨a, f, r, rfl, RA, hw, hbr, q⟩ := h
    have hr1 := hr.mono (show 1 ≤ 2 by decide)
    refine ⟨_, pss_cons (ps_set (i := 1) scGF.nd rfl (Or.inl rfl) (pe_fld (pv 0) rfl)) (pss_cons (ps_augS (pe_fld (pv 0) rfl) (pv 1) get_list pe_int ip_add set_list)
      (pss_cons (ps_if (pt_cmpR op_eq (pe_ix ix_list (pe_fld (pv 0) rfl) (pv 1) (fun _ _ => rfl)) pe_int (nomark _)) (pss_one (ps_ret (pe_cm cE T.clR hr (pv 0) (pa_cons (pe_op op_sub pe_int (pv 1)) pa_nil)))) pss_nil)
      (pss_cons (ps_expr (pe_cm cT T.clR hr1 (pv 0) (pa_cons (pe_cf cB hr1 rfl (pa_cons (pv 0) pa_nil)) (pa_cons pe_int pa_nil)))) (pss_one (ps_ret (pe_gi T.c_ANSWER_FOUL rfl)))))), ?_⟩
    refine ⟨_, rfl, a, CR, f.dx, _, _, rfl, RA.ins, T.clR, T.nR_turn, rl_turn r f, ?_⟩
    refine ⟨_, rfl, a, CR, f.dx, _, _, rfl, RA.ins, T.clR, T.nR_fouls, rl_fouls r f, _, rfl, f.af, _, r.rk.who, _, rfl, rfl, SqL.of RA.fouls, get_two hw, ?_⟩
    rw [fouls_two r hw]
    refine ⟨_, _, rfl, rfl, f.af, _, _, r.rk.who, rfl, rfl, RA.fouls, ixN_two hw, ?_⟩
    have R1 := RA.foul (r.fouls r.rk.who + 1) hw
    have s1 : Step H (upd H f.af (.lst (([num r.rk.foulsA, num r.rk.foulsB] : List V).set r.rk.who (num (r.fouls r.rk.who + 1))))) (f.on a) (f.on a) := .upd (f.maf a)
    have e1 : V.int (((r.fouls r.rk.who : Nat) : Int) + 1) = num (r.fouls r.rk.who + 1) := rfl
    rw [e1]
    have ew : (r.setFouls r.rk.who (r.fouls r.rk.who + 1)).rk.who = r.rk.who := by rw [setFouls_eq r _ hw]
    have eb : (r.setFouls r.rk.who (r.fouls r.rk.who + 1)).broke = r.broke := rfl
    have ep : (r.setFouls r.rk.who (r.fouls r.rk.who + 1)).behind = r.behind := by rw [setFouls_eq r _ hw]; rfl
    generalize upd H f.af (.lst (([num r.rk.foulsA, num r.rk.foulsB] : List V).set r.rk.who (num (r.fouls r.rk.who + 1)))) = H1 at R1 s1 ⊢
    refine ⟨_, rfl, a, CR, f.dx, _, _, rfl, R1.ins, T.clR, T.nR_fouls, rl_fouls _ f, _, rfl, f.af, _, _, _, rfl, rfl, SqL.of R1.fouls, atI_two hw, ?_⟩
    rw [fouls_two _ hw, fouls_set r _ hw]
    refine ⟨rfl, _, rfl, ?_⟩
    rw [dnz (z := 3) _ 3 rfl]
    unfold R.goFoul at q
    refine ifC (fun c => ?_) fun c => ?_
    · rw [if_pos (of_decide_eq_true c)] at q
      refine ⟨_, rfl, a, f.dx, _, rfl, R1.ins, rn_end_rack _ f, _, rfl, _, _, rfl, rfl, a, f, _, 1 - r.rk.who, ?_, R1, by omega, by rw [eb]; exact hbr, fun H' f' R' s' => q H' f' R' (s1.trans s')⟩
      show [V.ref a, V.int (1 - (r.rk.who : Int))] = [V.ref a, V.int ((1 - r.rk.who : Nat) : Int)]
      rw [show (1 - (r.rk.who : Int)) = ((1 - r.rk.who : Nat) : Int) by omega]
    · rw [if_neg (of_decide_eq_false c)] at q
      refine ⟨_, rfl, a, f.dx, _, rfl, R1.ins, rn_pass_turn _ f, _, rfl, a, f, _, rfl, R1, a, f, _, _, true, rfl, R1, by rw [ew]; exact hw, fun H' R' s' => ?_⟩
      rw [ep] at R'
      exact q H' f R' (s1.trans s')
end
section
variable {P : Program} {w : World} {K : PySem.W.Frag} {mg : Str → Option Value} {base : Heap} {CS CR CF : Addr}
abbrev sS9 : Stmt := top 30
theorem scS9 : FnScope ["race", "shot", "foul"] ["race", "shot"] (defScope sS9) := ⟨rfl, rfl, rfl, by decide +kernel, rfl, by decide +kernel, by decide +kernel⟩
def spS9 (CS CR : Addr) : Sp := fun vs H Q _ => ∃ (a b p : Addr) (f : Ft) (r : R) (x : SI), vs = [.ref a, .ref b] ∧ RaceAt CR H a f r ∧ ShotAt CS H b p x ∧ b ∉ f.on a ∧ p ∉ f.on a ∧ r.rk.who ≤ 1 ∧ r.broke ≤ 1 ∧ Bl r.rk.balls ∧
  ∀ H' f', RaceAt CR H' a f' (r.shot9 x).1 → Step H H' (f.on a) (f'.on a) → Q (num (r.shot9 x).2) H'
theorem ok_s9 (T : Txt K mg CS CR CF) (D : DefF K mg "take_shot_of_nine" sS9) (cF : CalF P w K mg base "is_foul_of_nine" 2 ["race", "shot"] (spF9 CS CR)) (cG : CalF P w K mg base "go_on_behind_foul" 3 ["race"] (spGF CR))
    (cE : CalM P w K mg base CR "end_rack" 2 ["self", "winner"] (spEnd CR)) (cK : CalM P w K mg base CR "take_off" 1 ["self", "potted"] (spTake CR)) (cT : CalM P w K mg base CR "pass_turn" 1 ["self", "phase", "in_hand"] (spPass CR))
    (cP : CalM P w K mg base CR "play_on" 1 ["self", "phase"] (spPlay CR)) (cL : CalM P w K mg base CR "let_other_choose" 2 ["self", "of_push"] (spLet CR)) (cB : CalF P w K mg base "phase_behind" 1 ["race"] (spPB CR)) :
    CalF P w K mg base "take_shot_of_nine" 4 ["race", "shot"] (spS9 CS CR) := by
  refine D.cal (fun f fd F => F.ok scS9 (fun vs H Q E h => ?_) (fun cdv A outer s H vs Q E hr h => ?_)) (fun _ _ _ _ _ _ us hl => match us, hl with | [_, _], _ => rfl)
  · obtain ⟨a, b, p, f, r, x, rfl, _⟩ := h
    rfl
  · obtain ⟨a, b, p, f, r, x, rfl, RA, SA, nb, np, hw, hbr, hB, q⟩ := h
    have hr1 := hr.mono (show 1 ≤ 3 by decide)
    have hr2 := hr.mono (show 2 ≤ 3 by decide)
    refine ⟨_, pss_cons (ps_set (i := 2) scS9.nd rfl (Or.inl rfl) (pe_cf cF hr2 rfl (pa_cons (pv 0) (pa_cons (pv 1) pa_nil))))
      (pss_cons (ps_expr (pe_cm cK T.clR hr1 (pv 0) (pa_cons (pe_fld (pv 1) rfl) pa_nil)))
      (pss_cons (ps_if (pt_val (pv 2)) (pss_one (ps_ret (pe_cf cG hr rfl (pa_cons (pv 0) pa_nil)))) pss_nil)
      (pss_cons (ps_if (pt_cmpR op_eq (pe_fld (pv 1) rfl) pe_int (nomark _)) (pss_cons (ps_expr (pe_cm cL T.clR hr2 (pv 0) (pa_cons pe_int pa_nil))) (pss_one (ps_ret (pe_gi T.c_ANSWER_FAIR rfl)))) pss_nil)
      (pss_cons (ps_asg pe_int (pg_sub (pe_fld (pv 0) rfl) (pe_fld (pv 0) rfl) set_list))
      (pss_cons (ps_if (pt_cmpR op_in_seq (pe_gi T.c_NINE rfl) (pe_fld (pv 1) rfl) (by rfl)) (pss_one (ps_ret (pe_cm cE T.clR hr2 (pv 0) (pa_cons (pe_fld (pv 0) rfl) pa_nil)))) pss_nil)
      (pss_cons (ps_if (pt_cmpR op_gt (pe_callB call_len_seq (by rfl) T.b_len PySem.boot_len (pa_cons (pe_fld (pv 1) rfl) pa_nil)) pe_int (nomark _))
        (pss_one (ps_expr (pe_cm cP T.clR hr1 (pv 0) (pa_cons (pe_cf cB hr1 rfl (pa_cons (pv 0) pa_nil)) pa_nil))))
        (pss_one (ps_expr (pe_cm cT T.clR hr1 (pv 0) (pa_cons (pe_cf cB hr1 rfl (pa_cons (pv 0) pa_nil)) (pa_cons pe_int pa_nil))))))
      (pss_one (ps_ret (pe_gi T.c_ANSWER_FAIR rfl))))))))), ?_⟩
    refine ⟨_, rfl, _, rfl, a, b, p, f, r, x, rfl, RA, SA, hB, fun H1 s1 => ?_⟩
    have R1 := RA.same s1
    obtain ⟨⟨dx, hb⟩, hp⟩ := SA.same s1
    refine ⟨_, rfl, a, f.dx, _, rfl, R1.ins, rn_take_off r f, _, rfl, b, CS, dx, _, _, rfl, hb, T.clS, T.nS_potted, sl_potted x p, a, p, f, r, x.potted, rfl, R1, hp, hB.len, fun H2 f2 R2 s2 => ?_⟩
    have s02 : Step H H2 (f.on a) (f2.on a) := (Step.of_same s1).trans s2
    obtain ⟨SA2, nb2, np2⟩ := SA.step s02 nb np
    have SA20 := SA2
    obtain ⟨⟨dx2, hb2⟩, hp2⟩ := SA2
    unfold R.shot9 at q
    refine ⟨_, rfl, _, rfl, ?_⟩
    refine ifC (fun c => ?_) fun c => ?_
    · rw [if_pos c] at q
      exact ⟨_, rfl, a, f2, r.takeOff x.potted, rfl, R2, hw, hbr, fun H' f' R' s' => q H' f' R' (s02.trans s')⟩
    rw [if_neg (by rw [c]; exact Bool.false_ne_true)] at q
    refine ⟨_, rfl, b, CS, dx2, _, _, rfl, hb2, T.clS, T.nS_push, sl_push x p, rfl, _, rfl, ?_⟩
    rw [dint]
    refine ifC (fun c => ?_) fun c => ?_
    · rw [if_pos (of_decide_eq_true c)] at q
      exact ⟨_, rfl, a, f2.dx, _, rfl, R2.ins, rn_let_other_choose _ f2, a, f2, r.takeOff x.potted, true, rfl, R2, hw, fun H' R' s' => q H' f2 R' (s02.trans s')⟩
    rw [if_neg (of_decide_eq_false c)] at q
    generalize r.takeOff x.potted = r2, (show (r.takeOff x.potted).rk.who ≤ 1 from hw) = hw2, (show (r.takeOff x.potted).broke ≤ 1 from hbr) = hbr2 at R2 q
    refine ⟨_, rfl, a, CR, f2.dx, _, _, rfl, R2.ins, T.clR, T.nR_fouls, rl_fouls _ f2, _, rfl, a, CR, f2.dx, _, _, rfl, R2.ins, T.clR, T.nR_turn, rl_turn _ f2, f2.af, _, _, r2.rk.who, rfl, rfl, R2.fouls, ixN_two hw2, ?_⟩
    have R3 := R2.foul 0 hw2
    have s3 : Step H2 (upd H2 f2.af (.lst (([num r2.rk.foulsA, num r2.rk.foulsB] : List V).set r2.rk.who (num 0)))) (f2.on a) (f2.on a) := .upd (f2.maf a)
    have ew : (r2.setFouls r2.rk.who 0).rk.who = r2.rk.who := by rw [setFouls_eq r2 _ hw2]
    have eb : (r2.setFouls r2.rk.who 0).broke = r2.broke := rfl
    have ep : (r2.setFouls r2.rk.who 0).behind = r2.behind := by rw [setFouls_eq r2 _ hw2]; rfl
    show (tSeq _ _ : TS) _ _ (upd H2 f2.af (.lst (([num r2.rk.foulsA, num r2.rk.foulsB] : List V).set r2.rk.who (num 0))))
    generalize upd H2 f2.af (.lst (([num r2.rk.foulsA, num r2.rk.foulsB] : List V).set r2.rk.who (num 0))) = H3 at R3 s3 ⊢
    have s03 := s02.trans s3
    obtain ⟨⟨⟨dx3, hb3⟩, hp3⟩, _, _⟩ := SA20.step s3 nb2 np2
    unfold R.fair9 at q
    refine ⟨_, rfl, b, CS, dx3, _, _, rfl, hb3, T.clS, T.nS_potted, sl_potted x p, p, _, rfl, .inl (SqL.of hp3), rfl, flat_ints _, _, rfl, ?_⟩
    rw [if_neg Bool.false_ne_true, in_ints]
    refine ifC (fun c => ?_) fun c => ?_
    · rw [if_pos c] at q
      refine ⟨_, rfl, a, f2.dx, _, rfl, R3.ins, rn_end_rack _ f2, _, rfl, a, CR, f2.dx, _, _, rfl, R3.ins, T.clR, T.nR_turn, rl_turn _ f2, a, f2, _, r2.rk.who, ?_, R3, hw2, by rw [eb]; exact hbr2, fun H' f' R' s' => q H' f' R' (s03.trans s')⟩
      rw [ew]
      rfl
    rw [if_neg (by rw [c]; exact Bool.false_ne_true)] at q
    refine ⟨_, rfl, b, CS, dx3, _, _, rfl, hb3, T.clS, T.nS_potted, sl_potted x p, p, _, rfl, .inl (SqL.of hp3), _, _, rfl, rfl, _, rfl, ?_⟩
    rw [lenpos]
    refine ifC (fun c => ?_) fun c => ?_
    · rw [if_neg (by rw [Bool.not_eq_true'] at c; rw [c]; exact Bool.false_ne_true)] at q
      refine ⟨_, rfl, a, f2.dx, _, rfl, R3.ins, rn_play_on _ f2, _, rfl, a, f2, _, rfl, R3, a, f2, _, _, rfl, R3, fun H' R' s' => ?_⟩
      rw [ep] at R'
      exact q H' f2 R' (s03.trans s')
    · rw [if_pos (by rw [Bool.not_eq_false'] at c; exact c)] at q
      refine ⟨_, rfl, a, f2.dx, _, rfl, R3.ins, rn_pass_turn _ f2, _, rfl, a, f2, _, rfl, R3, a, f2, _, _, false, rfl, R3, by rw [ew]; exact hw2, fun H' R' s' => ?_⟩
      rw [ep] at R'
      exact q H' f2 R' (s03.trans s')
end
section
variable {P : Program} {w : World} {K : PySem.W.Frag} {mg : Str → Option Value} {base : Heap} {CS CR CF : Addr}
/-! ### refusals -/
theorem in_pair (k a b : Int) : inV (.int k) [V.int a, V.int b] = (decide (k = a) || decide (k = b)) := by
  show (eqV (V.int a) (V.int k) || (eqV (V.int b) (V.int k) || false)) = _
  show ((a == k) || ((b == k) || false)) = _
  rw [Bool.or_false]
  have e : ∀ x : Int, (x == k) = decide (k = x) := fun x => by
    rw [Bool.eq_iff_iff, beq_iff_eq, decide_eq_true_eq]
    exact eq_comm
  rw [e, e]
abbrev sRB : Stmt := top 34
theorem scRB : FnScope ["game", "racks", "turns", "breaker"] ["game", "racks", "turns", "breaker"] (defScope sRB) := ⟨rfl, rfl, rfl, by decide +kernel, rfl, by decide +kernel, by decide +kernel⟩
def spRB : Sp := fun vs H Q _ => ∃ k n t w : Int, vs = [.int k, .int n, .int t, .int w] ∧ ∀ H', Same H H' → Q (.int (refBegin k n t w)) H'
theorem ok_rb (T : Txt K mg CS CR CF) (D : DefF K mg "begin_refusal" sRB) : CalF P w K mg base "begin_refusal" 1 ["game", "racks", "turns", "breaker"] spRB := by
  refine D.cal (fun f fd F => F.ok scRB (fun vs H Q E h => ?_) (fun cdv A outer s H vs Q E hr h => ?_)) (fun _ _ _ _ _ _ us hl => match us, hl with | [_, _, _, _], _ => rfl)
  · obtain ⟨k, n, t, w, rfl, _⟩ := h
    rfl
  · obtain ⟨k, n, t, w, rfl, q⟩ := h
    refine ⟨_, pss_cons (ps_if (PW.pt (pw_or (pt_cmpR op_notIn_seq (pv 0) (pe_tup (pa_cons (pe_gi T.c_EIGHT_BALL rfl) (pa_cons (pe_gi T.c_NINE_BALL rfl) pa_nil))) (by rfl)) (pw_or1 (pt_not (pt_chain op_le op_le pe_int (pv 1) pe_int))))) (pss_one (ps_ret (pe_un un_neg pe_int))) pss_nil)
      (pss_cons (ps_if (PW.pt (pw_or (pt_cmpR op_notIn_seq (pv 2) (pe_tup (pa_cons pe_int (pa_cons pe_int pa_nil))) (by rfl)) (pw_or1 (pt_cmpR op_notIn_seq (pv 3) (pe_tup (pa_cons pe_int (pa_cons pe_int pa_nil))) (by rfl))))) (pss_one (ps_ret (pe_un un_neg pe_int))) pss_nil)
      (pss_one (ps_ret pe_int))), ?_⟩
    have last : ∀ H1, Same H H1 → (!(decide (k = 8) || decide (k = 9)) || !(decide (1 ≤ n) && decide (n ≤ 30))) = false →
        tSeq (tIfS (tOr (tTest (tOp (rIn K true) (tVar 2) (tTup (tCons (tC (.int 0)) (tCons (tC (.int 1)) tNil))))) (tTest (tOp (rIn K true) (tVar 3) (tTup (tCons (tC (.int 0)) (tCons (tC (.int 1)) tNil)))))) (tRet (tUn (rU fun i => .int (-i)) (tC (.int 1)))) tNext)
          (tRet (tC (.int 0))) { nx := fun _ H' => Q .non H', rt := Q } [some (.int k), some (.int n), some (.int t), some (.int w)] H1 := by
      intro H1 s1 h1
      unfold refBegin at q
      rw [h1, if_neg Bool.false_ne_true] at q
      refine ⟨_, rfl, (by show 2 ≤ sizeLine; decide), fun p hp => ?_⟩
      refine ⟨p, _, rfl, .inr (SqT.of upd_same), rfl, rfl, _, rfl, ?_⟩
      rw [if_pos rfl, in_pair]
      refine ifC (fun c => ?_) fun c => ?_
      · unfold bad01 at q
        rw [c, Bool.true_or, if_pos rfl] at q
        exact iteT ⟨_, rfl, q _ (s1.trans (same_upd hp))⟩
      · refine ⟨_, rfl, (by show 2 ≤ sizeLine; decide), fun p2 hp2 => ?_⟩
        refine ⟨p2, _, rfl, .inr (SqT.of upd_same), rfl, rfl, _, rfl, ?_⟩
        rw [if_pos rfl, in_pair]
        refine ifC (fun c2 => ?_) fun c2 => ?_
        · unfold bad01 at q
          rw [c2, Bool.or_true, if_pos rfl] at q
          exact ⟨_, rfl, q _ ((s1.trans (same_upd hp)).trans (same_upd hp2))⟩
        · unfold bad01 at q
          rw [c, c2, Bool.or_false, if_neg Bool.false_ne_true] at q
          exact q _ ((s1.trans (same_upd hp)).trans (same_upd hp2))
    refine ⟨_, rfl, (by show 2 ≤ sizeLine; decide), fun p hp => ?_⟩
    refine ⟨p, _, rfl, .inr (SqT.of upd_same), rfl, rfl, _, rfl, ?_⟩
    rw [if_pos rfl, in_pair]
    refine ifC (fun c => ?_) fun c => ?_
    · unfold refBegin at q
      rw [c, Bool.true_or, if_pos rfl] at q
      exact iteT ⟨_, rfl, q _ (same_upd hp)⟩
    · refine ⟨_, rfl, _, _, rfl, rfl, _, rfl, ?_⟩
      refine ifC (fun c2 => ?_) fun c2 => ?_
      · refine ⟨_, _, rfl, rfl, _, rfl, ?_⟩
        refine ifC (fun c3 => ?_) fun c3 => ?_
        · unfold refBegin at q
          rw [Bool.not_eq_true'] at c3
          rw [c, Bool.false_or, c3, Bool.and_false, if_pos (by rfl)] at q
          exact ⟨_, rfl, q _ (same_upd hp)⟩
        · exact last _ (same_upd hp) (by rw [Bool.not_eq_false'] at c3; rw [c, c2, c3]; rfl)
      · unfold refBegin at q
        rw [c, Bool.false_or, c2, Bool.false_and, if_pos (by rfl)] at q
        exact ⟨_, rfl, iteT ⟨_, rfl, q _ (same_upd hp)⟩⟩
inductive RcV (CR : Addr) (H : Hp) : V → Option R → Prop where
  | none : RcV CR H .non none
  | some (a : Addr) (f : Ft) (r : R) (h : RaceAt CR H a f r) : RcV CR H (.ref a) (some r)
theorem RcV.same {CR : Addr} {H H' : Hp} {v : V} {o : Option R} (h : RcV CR H v o) (s : Same H H') : RcV CR H' v o := by
  cases h with
  | none => exact .none
  | some a f r h => exact .some a f r (h.same s)
abbrev sGo : Stmt := top 38
theorem scGo : FnScope ["race"] ["race"] (defScope sGo) := ⟨rfl, rfl, rfl, by decide +kernel, rfl, by decide +kernel, by decide +kernel⟩
def spGo (CR : Addr) : Sp := fun vs H Q _ => ∃ (v : V) (o : Option R), vs = [v] ∧ RcV CR H v o ∧ Q (.bl (goes o)) H
theorem ok_go (T : Txt K mg CS CR CF) (D : DefF K mg "goes_on" sGo) : CalF P w K mg base "goes_on" 1 ["race"] (spGo CR) := by
  refine D.cal (fun f fd F => F.ok scGo (fun vs H Q E h => ?_) (fun cdv A outer s H vs Q E hr h => ?_)) (fun _ _ _ _ _ _ us hl => match us, hl with | [_], _ => rfl)
  · obtain ⟨v, o, rfl, _⟩ := h
    rfl
  · obtain ⟨v, o, rfl, hv, q⟩ := h
    refine ⟨_, pss_one (ps_ret (pe_and (pe_cmpR op_notN (pv 0) pe_non (nomark _)) (pe_one (pe_not (pe_fld (pv 0) rfl))))), ?_⟩
    cases hv with
    | none => exact ⟨_, rfl, rfl, _, rfl, q⟩
    | some a f r h => exact ⟨_, rfl, rfl, _, rfl, iteT ⟨_, rfl, a, CR, f.dx, _, _, rfl, h.ins, T.clR, T.nR_over, rl_over r f, _, rfl, q⟩⟩
abbrev sLk : Stmt := top 37
theorem scLk : FnScope ["race"] ["race"] (defScope sLk) := ⟨rfl, rfl, rfl, by decide +kernel, rfl, by decide +kernel, by decide +kernel⟩
def spLk (CR : Addr) : Sp := fun vs H Q _ => ∃ (v : V) (o : Option R), vs = [v] ∧ RcV CR H v o ∧ Q (.int (refLook o)) H
theorem ok_lk (T : Txt K mg CS CR CF) (D : DefF K mg "look_refusal" sLk) (cG : CalF P w K mg base "goes_on" 1 ["race"] (spGo CR)) : CalF P w K mg base "look_refusal" 2 ["race"] (spLk CR) := by
  refine D.cal (fun f fd F => F.ok scLk (fun vs H Q E h => ?_) (fun cdv A outer s H vs Q E hr h => ?_)) (fun _ _ _ _ _ _ us hl => match us, hl with | [_], _ => rfl)
  · obtain ⟨v, o, rfl, _⟩ := h
    rfl
  · obtain ⟨v, o, rfl, hv, q⟩ := h
    refine ⟨_, pss_one (ps_ret (pe_ifExp (pt_val (pe_cf cG hr rfl (pa_cons (pv 0) pa_nil))) pe_int (pe_un un_neg pe_int))), ?_⟩
    refine ⟨_, rfl, v, o, rfl, hv, _, rfl, ?_⟩
    unfold refLook at q
    refine ifC (fun c => ?_) fun c => ?_
    · rw [if_pos c] at q
      exact q
    · rw [if_neg (by rw [c]; exact Bool.false_ne_true)] at q
      exact ⟨_, rfl, q⟩
abbrev sCh : Stmt := top 36
theorem scCh : FnScope ["race", "chosen"] ["race", "chosen"] (defScope sCh) := ⟨rfl, rfl, rfl, by decide +kernel, rfl, by decide +kernel, by decide +kernel⟩
def spCh (CR : Addr) : Sp := fun vs H Q _ => ∃ (v : V) (o : Option R) (n : Int), vs = [v, .int n] ∧ RcV CR H v o ∧ ∀ H', Same H H' → Q (.int (refChoose o n)) H'
theorem ok_ch (T : Txt K mg CS CR CF) (D : DefF K mg "choose_refusal" sCh) (cG : CalF P w K mg base "goes_on" 1 ["race"] (spGo CR)) : CalF P w K mg base "choose_refusal" 2 ["race", "chosen"] (spCh CR) := by
  refine D.cal (fun f fd F => F.ok scCh (fun vs H Q E h => ?_) (fun cdv A outer s H vs Q E hr h => ?_)) (fun _ _ _ _ _ _ us hl => match us, hl with | [_, _], _ => rfl)
  · obtain ⟨v, o, n, rfl, _⟩ := h
    rfl
  · obtain ⟨v, o, n, rfl, hv, q⟩ := h
    refine ⟨_, pss_cons (ps_if (pt_cmpR op_notIn_seq (pv 1) (pe_tup (pa_cons pe_int (pa_cons pe_int pa_nil))) (by rfl)) (pss_one (ps_ret (pe_un un_neg pe_int))) pss_nil)
      (pss_cons (ps_if (pt_not (pt_val (pe_cf cG hr rfl (pa_cons (pv 0) pa_nil)))) (pss_one (ps_ret (pe_un un_neg pe_int))) pss_nil)
      (pss_cons (ps_if (pt_cmpR op_ne (pe_fld (pv 0) rfl) (pe_gi T.c_PHASE_CHOICE rfl) (nomark _)) (pss_one (ps_ret (pe_un un_neg pe_int))) pss_nil)
      (pss_one (ps_ret pe_int)))), ?_⟩
    refine ⟨_, rfl, (by show 2 ≤ sizeLine; decide), fun p hp => ?_⟩
    refine ⟨p, _, rfl, .inr (SqT.of upd_same), rfl, rfl, _, rfl, ?_⟩
    rw [if_pos rfl, in_pair]
    have q := q _ (same_upd (o := .tup [.int 0, .int 1]) hp)
    have hv := hv.same (same_upd (o := .tup [.int 0, .int 1]) hp)
    refine ifC (fun c => ?_) fun c => ?_
    · rw [show refChoose o n = -1 from if_pos c] at q
      exact ⟨_, rfl, q⟩
    · have c0 : ¬ bad01 n = true := by unfold bad01; rw [c]; exact Bool.false_ne_true
      refine ⟨_, rfl, v, o, rfl, hv, _, rfl, ?_⟩
      cases hv with
      | none =>
        rw [show refChoose none n = -2 from if_neg c0] at q
        exact iteT ⟨_, rfl, q⟩
      | some a f r h =>
        rw [show refChoose (some r) n = (if r.over = true then -2 else if r.rk.phase = 3 then 0 else -3) from if_neg c0] at q
        refine ifC (fun c => ?_) fun c => ?_
        · have c' : r.over = true := by simpa [goes] using c
          rw [if_pos c'] at q
          exact ⟨_, rfl, q⟩
        · have c' : ¬ r.over = true := by simpa [goes] using c
          rw [if_neg c'] at q
          refine ⟨_, rfl, a, CR, f.dx, _, _, rfl, h.ins, T.clR, T.nR_phase, rl_phase r f, rfl, _, rfl, ?_⟩
          rw [dnz (z := 3) _ 3 rfl]
          refine ifC (fun c => ?_) fun c => ?_
          · rw [if_neg (by simpa using c)] at q
            exact ⟨_, rfl, q⟩
          · rw [if_pos (by simpa using c)] at q
            exact q
abbrev sMB : Stmt := top 41
theorem scMB : FnScope ["race", "shot"] ["race", "shot"] (defScope sMB) := ⟨rfl, rfl, rfl, by decide +kernel, rfl, by decide +kernel, by decide +kernel⟩
def spMB (CS CR : Addr) : Sp := fun vs H Q _ => ∃ (a b p : Addr) (f : Ft) (r : R) (x : SI), vs = [.ref a, .ref b] ∧ RaceAt CR H a f r ∧ ShotAt CS H b p x ∧ Q (.bl (r.mayBe x)) H
theorem ok_mb (T : Txt K mg CS CR CF) (D : DefF K mg "may_happen" sMB) : CalF P w K mg base "may_happen" 1 ["race", "shot"] (spMB CS CR) := by
  refine D.cal (fun f fd F => F.ok scMB (fun vs H Q E h => ?_) (fun cdv A outer s H vs Q E hr h => ?_)) (fun _ _ _ _ _ _ us hl => match us, hl with | [_, _], _ => rfl)
  · obtain ⟨a, b, p, f, r, x, rfl, _⟩ := h
    rfl
  · obtain ⟨a, b, p, f, r, x, rfl, RA, ⟨⟨dx, hb⟩, hp⟩, q⟩ := h
    refine ⟨_, pss_cons (ps_if (PW.pt (pw_and (pt_cmpR op_eq (pe_fld (pv 1) rfl) pe_int (nomark _)) (pw_and1 (pt_cmpR op_ne (pe_fld (pv 0) rfl) (pe_gi T.c_PHASE_BEHIND_BREAK rfl) (nomark _))))) (pss_one (ps_ret pe_bl)) pss_nil)
      (pss_one (ps_ret (pe_or (pe_cmpR op_ne (pe_fld (pv 1) rfl) pe_int (nomark _)) (pe_one (pe_and (pe_cmpR op_eq (pe_fld (pv 1) rfl) pe_int (nomark _)) (pe_one (pe_cmpR op_eq (pe_callB call_len_seq (by rfl) T.b_len PySem.boot_len (pa_cons (pe_fld (pv 1) rfl) pa_nil)) pe_int (nomark _)))))))), ?_⟩
    have last : (decide (x.push = 1) && !decide (r.rk.phase = 1)) = false → tRet (tOrV (tOp rNe (tFld K (tVar 1) "first") (tC (.int 0))) (tAndV (tOp rEq (tFld K (tVar 1) "cushions") (tC (.int 0))) (tOp rEq (tCB (fun xs H Q => ∃ p ys, xs = [.ref p] ∧ (SqL K H p ys ∨ SqT K H p ys) ∧ Q (.int ys.length) H) (tCons (tFld K (tVar 1) "potted") tNil)) (tC (.int 0)))))
        { nx := fun _ H' => Q .non H', rt := Q } [some (.ref a), some (.ref b)] H := by
      intro h1
      unfold R.mayBe at q
      rw [h1] at q
      refine ⟨_, rfl, b, CS, dx, _, _, rfl, hb, T.clS, T.nS_first, sl_first x p, rfl, _, rfl, ?_⟩
      rw [dint]
      refine ifC (fun c => ?_) fun c => ?_
      · rw [c] at q
        exact q
      · rw [c] at q
        refine ⟨_, rfl, b, CS, dx, _, _, rfl, hb, T.clS, T.nS_cushions, sl_cushions x p, rfl, _, rfl, ?_⟩
        rw [dint]
        refine ifC (fun c => ?_) fun c => ?_
        · rw [c] at q
          refine ⟨_, rfl, b, CS, dx, _, _, rfl, hb, T.clS, T.nS_potted, sl_potted x p, p, _, rfl, .inl (SqL.of hp), rfl, ?_⟩
          rw [len0]
          exact q
        · rw [c] at q
          exact q
    refine ⟨_, rfl, b, CS, dx, _, _, rfl, hb, T.clS, T.nS_push, sl_push x p, rfl, _, rfl, ?_⟩
    rw [dint]
    refine ifC (fun c => ?_) fun c => ?_
    · refine ⟨_, rfl, a, CR, f.dx, _, _, rfl, RA.ins, T.clR, T.nR_phase, rl_phase r f, rfl, _, rfl, ?_⟩
      rw [dnz (z := 1) _ 1 rfl]
      refine ifC (fun c2 => ?_) fun c2 => ?_
      · unfold R.mayBe at q
        rw [c, c2] at q
        exact q
      · exact last (by rw [c2, Bool.and_false])
    · exact last (by rw [c, Bool.false_and])
end
section
variable {P : Program} {w : World} {K : PySem.W.Frag} {mg : Str → Option Value} {base : Heap} {CS CR CF : Addr}
abbrev sNu : Stmt := top 39
abbrev nNu : List Str := ["shot", "number", "ball"]
theorem scNu : FnScope nNu ["shot"] (defScope sNu) := ⟨rfl, rfl, rfl, by decide +kernel, rfl, by decide +kernel, by decide +kernel⟩
def spNu (CS : Addr) : Sp := fun vs H Q _ => ∃ (b p : Addr) (x : SI), vs = [.ref b] ∧ ShotAt CS H b p x ∧ x.potted.length ≤ 16 ∧ ∀ H', Same H H' → Q (.bl (numbersOk x)) H'
def wi15 (z : Int) : Bool := decide (1 ≤ z) && decide (z ≤ 15)
theorem bl_at {g : Int → Bool} {l : List Int} {i : Nat} {x : V} (h : (l.map V.int)[i]? = some x) : ∃ z, l[i]? = some z ∧ x = .int z := by
  rw [List.getElem?_map] at h
  cases e : l[i]? with
  | none =>
    rw [e] at h
    cases h
  | some n =>
    rw [e] at h
    exact ⟨n, rfl, (Option.some.inj h).symm⟩
theorem all_id (g : Int → Bool) (l : List Int) : (l.map g).all id = l.all g := by
  rw [List.all_map]
  rfl
theorem num_eq (x : SI) : numbersOk x = (([x.first, x.called, x.cushions] : List Int).all in15 && (!(bad01 x.lost || bad01 x.push) && x.potted.all wi15)) := by
  unfold numbersOk
  simp only [List.all_cons, List.all_nil, Bool.and_true]
  rfl
theorem tYes_run {σ : L2.St} {H : Hp} {Q : Bool → Hp → Prop} (h : Q true H) : tYes σ H Q := h
theorem ok_nu (T : Txt K mg CS CR CF) (D : DefF K mg "has_right_numbers" sNu) : CalF P w K mg base "has_right_numbers" 1 ["shot"] (spNu CS) := by
  refine D.cal (fun f fd F => F.ok scNu (fun vs H Q E h => ?_) (fun cdv A outer s H vs Q E hr h => ?_)) (fun _ _ _ _ _ _ us hl => match us, hl with | [_], _ => rfl)
  · obtain ⟨b, p, x, rfl, _⟩ := h
    rfl
  · obtain ⟨b, p, x, rfl, SA, hlen, q⟩ := h
    refine ⟨_, pss_cons (ps_for PassesOwn.never rfl (pi_tup (pe_tup (pa_cons (pe_fld (pv 0) rfl) (pa_cons (pe_fld (pv 0) rfl) (pa_cons (pe_fld (pv 0) rfl) pa_nil))))) (pg_name (i := 1) scNu.nd rfl (Or.inl rfl))
        (pss_one (ps_if (pt_not (pt_chain op_le op_le pe_int (pv 1) pe_int)) (pss_one (ps_ret pe_bl)) pss_nil)))
      (pss_cons (ps_if (PW.pt (pw_or (pt_cmpR op_notIn_seq (pe_fld (pv 0) rfl) (pe_tup (pa_cons pe_int (pa_cons pe_int pa_nil))) (by rfl)) (pw_or1 (pt_cmpR op_notIn_seq (pe_fld (pv 0) rfl) (pe_tup (pa_cons pe_int (pa_cons pe_int pa_nil))) (by rfl))))) (pss_one (ps_ret pe_bl)) pss_nil)
      (pss_one (ps_ret (pe_callB (cr_all rfl) (by rfl) T.b_all boot_all (pa_cons (pe_lc (own := [("ball", 2)]) (g := gName 2) (tt := tYes) (te := tChain (rI0 fun i j => .bl (decide (i ≤ j))) (rI0 fun i j => .bl (decide (i ≤ j))) (tC (.int 1)) (tVar 2) (tC (.int 15)))
        rfl scNu.nd (pi_list (pe_fld (pv 0) rfl)) (blkOk_by (N := nNu) (sc := defScope sNu) (by decide +kernel)) (fun _ _ _ _ _ => pg_name (i := 2) scNu.nd rfl (Or.inl rfl)) (fun _ _ _ _ _ => pts_nil) (fun _ _ _ _ _ => pe_chain op_le op_le pe_int (pv 2) pe_int)) pa_nil))))), ?_⟩
    have SA0 := SA
    obtain ⟨⟨dx, hb⟩, hp⟩ := SA
    rw [num_eq] at q
    refine ⟨_, rfl, b, CS, dx, _, _, rfl, hb, T.clS, T.nS_first, sl_first x p, _, rfl, b, CS, dx, _, _, rfl, hb, T.clS, T.nS_called, sl_called x p, _, rfl, b, CS, dx, _, _, rfl, hb, T.clS, T.nS_cushions, sl_cushions x p, (by show 3 ≤ sizeLine; decide), fun t ht => ?_⟩
    have s1 := same_upd (o := .tup [V.int x.first, .int x.called, .int x.cushions]) ht
    refine ⟨t, rfl, ⟨_, SqT.of upd_same⟩, for_tup (K := K) (a := t) (xs := ([x.first, x.called, x.cushions] : List Int).map V.int)
      (fun i σ H' => ∃ v : Option V, σ = [some (.ref b), v, none] ∧ Same H H' ∧ H' t = some (.tup (([x.first, x.called, x.cushions] : List Int).map V.int)) ∧ (([x.first, x.called, x.cushions] : List Int).take i).all in15 = true)
      ⟨none, rfl, s1, upd_same, rfl⟩ (fun i σ H' _ ⟨_, _, _, h, _⟩ => SqT.of h) ?_ ?_⟩
    · rintro i y σ H' hi ⟨v, rfl, sm, ht', hall⟩
      obtain ⟨z, hz, rfl⟩ := bl_at (g := in15) hi
      have bad : in15 z = false → Q (.bl false) H' := fun c => by
        have e : ([x.first, x.called, x.cushions] : List Int).all in15 = false := by
          rw [List.all_eq_false]
          exact ⟨z, List.mem_of_getElem? hz, by rw [c]; exact Bool.false_ne_true⟩
        rw [e, Bool.false_and] at q
        exact q H' sm
      have good : in15 z = true → (([x.first, x.called, x.cushions] : List Int).take (i + 1)).all in15 = true := fun c => by
        rw [take_one hz, List.all_append, hall]
        simp only [List.all_cons, List.all_nil, c, Bool.and_self]
      refine ⟨_, rfl, _, _, rfl, rfl, _, rfl, ?_⟩
      refine ifC (fun c => ?_) fun c => ?_
      · refine ⟨_, _, rfl, rfl, _, rfl, ?_⟩
        refine ifC (fun c2 => ?_) fun c2 => ?_
        · exact bad (by unfold in15; rw [Bool.not_eq_true'] at c2; rw [c2, Bool.and_false])
        · exact ⟨_, rfl, sm, ht', good (by unfold in15; rw [Bool.not_eq_false'] at c2; rw [c, c2]; rfl)⟩
      · exact ⟨_, rfl, iteT (bad (by unfold in15; rw [c, Bool.false_and]))⟩
    · rintro σ H1 ⟨v, rfl, sm, _, hall⟩
      rw [List.length_map, List.take_length] at hall
      rw [hall, Bool.true_and] at q
      have last : ∀ H2, Same H H2 → (bad01 x.lost || bad01 x.push) = false → ∃ t : TS, t = tRet (tCB (rAll K) (tCons (tLc (iList K (tFld K (tVar 0) "potted")) (gName 2) tYes (tChain (rI0 fun i j => .bl (decide (i ≤ j))) (rI0 fun i j => .bl (decide (i ≤ j))) (tC (.int 1)) (tVar 2) (tC (.int 15))) [2]) tNil)) ∧
          t { nx := fun _ H' => Q .non H', rt := Q } [some (.ref b), v, none] H2 := by
        intro H2 s2 h2
        rw [h2, Bool.not_false, Bool.true_and] at q
        refine ⟨_, rfl, ?_⟩
        refine ⟨_, rfl, b, CS, dx, _, _, rfl, s2 _ _ hb, T.clS, T.nS_potted, sl_potted x p, p, rfl, ⟨_, SqL.of (s2 _ _ hp)⟩, fun d hd => ?_⟩
        refine lc_list (xs := x.potted.map V.int) (fun i H' => Same H2 H' ∧ H' d = some (.lst (((x.potted.take i).map wi15).map V.bl))) ⟨same_upd hd, upd_same⟩ (fun i H' _ h => SqL.of (h.1 _ _ (s2 _ _ hp))) ?_ ?_
        · rintro i y H' hi ⟨sm', hd'⟩
          obtain ⟨z, hz, rfl⟩ := bl_at (g := in15) hi
          have sz : (((x.potted.take i).map wi15).map V.bl).length < sizeLine := by
            rw [List.length_map, List.length_map, List.length_take]
            exact small1000 (Nat.le_trans (Nat.min_le_right _ _) (by omega))
          have put : ∀ c, c = wi15 z → ∃ acc, H' d = some (.lst acc) ∧ acc.length < sizeLine ∧ Same H2 (upd H' d (.lst (acc ++ [.bl c]))) ∧ upd H' d (.lst (acc ++ [.bl c])) d = some (.lst (((x.potted.take (i + 1)).map wi15).map V.bl)) := fun c hc => by
            refine ⟨_, hd', sz, fun a o e => by rw [upd_ne (ne_of_none e hd)]; exact sm' _ _ e, ?_⟩
            rw [upd_same, take_one hz, List.map_append, List.map_append, hc]
            rfl
          refine ⟨rfl, ?_⟩
          refine tYes_run ?_
          rw [if_pos rfl]
          refine ⟨_, rfl, _, _, rfl, rfl, _, rfl, ?_⟩
          refine ifC (fun c => ?_) fun c => ?_
          · exact ⟨_, _, rfl, rfl, put _ (by unfold wi15; rw [c, Bool.true_and])⟩
          · exact put _ (by unfold wi15; rw [c, Bool.false_and])
        · rintro H' ⟨sm', hd'⟩
          rw [List.length_map, List.take_length] at hd'
          refine ⟨d, _, rfl, SqL.of hd', ?_⟩
          rw [all_id]
          exact q _ (s2.trans sm')
      refine ⟨_, rfl, b, CS, dx, _, _, rfl, sm _ _ hb, T.clS, T.nS_lost, sl_lost x p, (by show 2 ≤ sizeLine; decide), fun t2 ht2 => ?_⟩
      have sm2 := sm.trans (same_upd (o := .tup [.int 0, .int 1]) ht2)
      refine ⟨t2, _, rfl, .inr (SqT.of upd_same), rfl, rfl, _, rfl, ?_⟩
      rw [if_pos rfl, in_pair]
      refine ifC (fun c => ?_) fun c => ?_
      · rw [show bad01 x.lost = true from c, Bool.true_or, Bool.not_true, Bool.false_and] at q
        exact iteT (q _ sm2)
      · refine ⟨_, rfl, b, CS, dx, _, _, rfl, sm2 _ _ hb, T.clS, T.nS_push, sl_push x p, (by show 2 ≤ sizeLine; decide), fun t3 ht3 => ?_⟩
        have sm3 := sm2.trans (same_upd (o := .tup [.int 0, .int 1]) ht3)
        refine ⟨t3, _, rfl, .inr (SqT.of upd_same), rfl, rfl, _, rfl, ?_⟩
        rw [if_pos rfl, in_pair]
        refine ifC (fun c2 => ?_) fun c2 => ?_
        · rw [show bad01 x.push = true from c2, Bool.or_true, Bool.not_true, Bool.false_and] at q
          exact q _ sm3
        · obtain ⟨t, et, ht⟩ := last _ sm3 (by rw [show bad01 x.lost = false from c, show bad01 x.push = false from c2]; rfl)
          subst et
          exact ht
end
section
variable {P : Program} {w : World} {K : PySem.W.Frag} {mg : Str → Option Value} {base : Heap} {CS CR CF : Addr}
abbrev sFt : Stmt := top 40
abbrev nFt : List Str := ["race", "shot", "ball"]
theorem scFt : FnScope nFt ["race", "shot"] (defScope sFt) := ⟨rfl, rfl, rfl, by decide +kernel, rfl, by decide +kernel, by decide +kernel⟩
def spFt (CS CR : Addr) : Sp := fun vs H Q _ => ∃ (a b p : Addr) (f : Ft) (r : R) (x : SI), vs = [.ref a, .ref b] ∧ RaceAt CR H a f r ∧ ShotAt CS H b p x ∧ x.potted.length ≤ 16 ∧ ∀ H', Same H H' → Q (.bl (r.fits x)) H'
def R.zero (r : R) (z : Int) : Bool := decide (z = 0) || r.has z
theorem fits_eq (r : R) (x : SI) : r.fits x = (([x.first, x.called] : List Int).all r.zero && x.potted.all fun z => r.has z && decide (x.potted.count z = 1)) := by
  unfold R.fits
  simp only [List.all_cons, List.all_nil, Bool.and_true, Bool.and_assoc]
  rfl
theorem ok_ft (T : Txt K mg CS CR CF) (D : DefF K mg "fits_table" sFt) : CalF P w K mg base "fits_table" 1 ["race", "shot"] (spFt CS CR) := by
  refine D.cal (fun f fd F => F.ok scFt (fun vs H Q E h => ?_) (fun cdv A outer s H vs Q E hr h => ?_)) (fun _ _ _ _ _ _ us hl => match us, hl with | [_, _], _ => rfl)
  · obtain ⟨a, b, p, f, r, x, rfl, _⟩ := h
    rfl
  · obtain ⟨a, b, p, f, r, x, rfl, RA, SA, hlen, q⟩ := h
    refine ⟨_, pss_cons (ps_for PassesOwn.never rfl (pi_tup (pe_tup (pa_cons (pe_fld (pv 1) rfl) (pa_cons (pe_fld (pv 1) rfl) pa_nil)))) (pg_name (i := 2) scFt.nd rfl (Or.inl rfl))
        (pss_one (ps_if (PW.pt (pw_and (pt_cmpR op_ne (pv 2) pe_int (nomark _)) (pw_and1 (pt_cmpR op_notIn_seq (pv 2) (pe_fld (pv 0) rfl) (by rfl))))) (pss_one (ps_ret pe_bl)) pss_nil)))
      (pss_one (ps_ret (pe_callB (cr_all rfl) (by rfl) T.b_all boot_all (pa_cons (pe_lc (own := [("ball", 2)]) (g := gName 2) (tt := tYes)
          (te := tAndV (tOp (rIn K false) (tVar 2) (tFld K (tVar 0) "balls")) (tOp rEq (tBM K "list" (rCntI K) (tFld K (tVar 1) "potted") (tCons (tVar 2) tNil)) (tC (.int 1))))
        rfl scFt.nd (pi_list (pe_fld (pv 1) rfl)) (blkOk_by (N := nFt) (sc := defScope sFt) (by decide +kernel)) (fun _ _ _ _ _ => pg_name (i := 2) scFt.nd rfl (Or.inl rfl)) (fun _ _ _ _ _ => pts_nil)
        (fun _ _ _ _ _ => pe_and (pe_cmpR op_in_seq (pv 2) (by exact (pe_fld (pv 0) rfl)) (by rfl)) (pe_one (pe_cmpR op_eq (pe_bm PySem.F.plainAttrs_list PySem.F.slot_list_count PySem.F.type_list_count mt_lcount (by exact (pe_fld (pv 1) rfl)) (by exact (pa_cons (pv 2) pa_nil))) pe_int (nomark _))))) pa_nil)))), ?_⟩
    obtain ⟨⟨dx, hb⟩, hp⟩ := SA
    rw [fits_eq] at q
    refine ⟨_, rfl, b, CS, dx, _, _, rfl, hb, T.clS, T.nS_first, sl_first x p, _, rfl, b, CS, dx, _, _, rfl, hb, T.clS, T.nS_called, sl_called x p, (by show 2 ≤ sizeLine; decide), fun t ht => ?_⟩
    have s1 := same_upd (o := .tup [V.int x.first, .int x.called]) ht
    refine ⟨t, rfl, ⟨_, SqT.of upd_same⟩, for_tup (K := K) (a := t) (xs := ([x.first, x.called] : List Int).map V.int)
      (fun i σ H' => ∃ v : Option V, σ = [some (.ref a), some (.ref b), v] ∧ Same H H' ∧ H' t = some (.tup (([x.first, x.called] : List Int).map V.int)) ∧ (([x.first, x.called] : List Int).take i).all r.zero = true)
      ⟨none, rfl, s1, upd_same, rfl⟩ (fun i σ H' _ ⟨_, _, _, h, _⟩ => SqT.of h) ?_ ?_⟩
    · rintro i y σ H' hi ⟨v, rfl, sm, ht', hall⟩
      obtain ⟨z, hz, rfl⟩ := bl_at (g := in15) hi
      have bad : r.zero z = false → Q (.bl false) H' := fun c => by
        have e : ([x.first, x.called] : List Int).all r.zero = false := by
          rw [List.all_eq_false]
          exact ⟨z, List.mem_of_getElem? hz, by rw [c]; exact Bool.false_ne_true⟩
        rw [e, Bool.false_and] at q
        exact q H' sm
      have good : r.zero z = true → (([x.first, x.called] : List Int).take (i + 1)).all r.zero = true := fun c => by
        rw [take_one hz, List.all_append, hall]
        simp only [List.all_cons, List.all_nil, c, Bool.and_self]
      refine ⟨_, rfl, rfl, _, rfl, ?_⟩
      rw [dint]
      refine ifC (fun c => ?_) fun c => ?_
      · refine ⟨_, rfl, _, rfl, a, CR, f.dx, _, _, rfl, sm _ _ RA.ins, T.clR, T.nR_balls, rl_balls r f, f.ab, _, rfl, .inl (SqL.of (sm _ _ RA.balls)), rfl, flat_ints _, _, rfl, ?_⟩
        rw [if_pos rfl, in_ints]
        rw [Bool.not_eq_true'] at c
        refine ifC (fun c2 => ?_) fun c2 => ?_
        · rw [Bool.not_eq_true'] at c2
          exact bad (by unfold R.zero R.has; rw [c, c2]; rfl)
        · rw [Bool.not_eq_false'] at c2
          exact ⟨_, rfl, sm, ht', good (by unfold R.zero R.has; rw [c2, Bool.or_true])⟩
      · rw [Bool.not_eq_false'] at c
        exact iteF ⟨_, rfl, sm, ht', good (by unfold R.zero; rw [c, Bool.true_or])⟩
    · rintro σ H1 ⟨v, rfl, sm, _, hall⟩
      rw [List.length_map, List.take_length] at hall
      rw [hall, Bool.true_and] at q
      refine ⟨_, rfl, b, CS, dx, _, _, rfl, sm _ _ hb, T.clS, T.nS_potted, sl_potted x p, p, rfl, ⟨_, SqL.of (sm _ _ hp)⟩, fun d hd => ?_⟩
      refine lc_list (xs := x.potted.map V.int) (fun i H' => Same H1 H' ∧ H' d = some (.lst (((x.potted.take i).map fun z => r.has z && decide (x.potted.count z = 1)).map V.bl))) ⟨same_upd hd, upd_same⟩ (fun i H' _ h => SqL.of (h.1 _ _ (sm _ _ hp))) ?_ ?_
      · rintro i y H' hi ⟨sm', hd'⟩
        obtain ⟨z, hz, rfl⟩ := bl_at (g := in15) hi
        have sz : (((x.potted.take i).map fun z => r.has z && decide (x.potted.count z = 1)).map V.bl).length < sizeLine := by
          rw [List.length_map, List.length_map, List.length_take]
          exact small1000 (Nat.le_trans (Nat.min_le_right _ _) (by omega))
        have put : ∀ c, c = (r.has z && decide (x.potted.count z = 1)) → ∃ acc, H' d = some (.lst acc) ∧ acc.length < sizeLine ∧ Same H1 (upd H' d (.lst (acc ++ [.bl c]))) ∧
            upd H' d (.lst (acc ++ [.bl c])) d = some (.lst (((x.potted.take (i + 1)).map fun z => r.has z && decide (x.potted.count z = 1)).map V.bl)) := fun c hc => by
          refine ⟨_, hd', sz, fun a o e => by rw [upd_ne (ne_of_none e hd)]; exact sm' _ _ e, ?_⟩
          rw [upd_same, take_one hz, List.map_append, List.map_append, hc]
          rfl
        have s2 := sm.trans sm'
        refine ⟨rfl, ?_⟩
        refine tYes_run ?_
        rw [if_pos rfl]
        refine ⟨_, rfl, _, rfl, a, CR, f.dx, _, _, rfl, s2 _ _ RA.ins, T.clR, T.nR_balls, rl_balls r f, f.ab, _, rfl, .inl (SqL.of (s2 _ _ RA.balls)), rfl, flat_ints _, _, rfl, ?_⟩
        rw [if_neg Bool.false_ne_true, in_ints]
        refine ifC (fun c => ?_) fun c => ?_
        · refine ⟨_, rfl, b, CS, dx, _, _, rfl, s2 _ _ hb, T.clS, T.nS_potted, sl_potted x p, .inl ⟨rfl, _, SqL.of (s2 _ _ hp)⟩, _, rfl, p, x.potted, z, rfl, rfl, SqL.of (s2 _ _ hp), rfl, ?_⟩
          refine put _ ?_
          rw [show r.has z = true from c, Bool.true_and]
          exact dnz (z := 1) _ 1 rfl
        · exact put _ (by rw [show r.has z = false from c, Bool.false_and])
      · rintro H' ⟨sm', hd'⟩
        rw [List.length_map, List.take_length] at hd'
        refine ⟨d, _, rfl, SqL.of hd', ?_⟩
        rw [all_id]
        exact q _ (sm.trans sm')
abbrev sSR : Stmt := top 35
theorem scSR : FnScope ["race", "shot"] ["race", "shot"] (defScope sSR) := ⟨rfl, rfl, rfl, by decide +kernel, rfl, by decide +kernel, by decide +kernel⟩
def spSR (CS CR : Addr) : Sp := fun vs H Q _ => ∃ (v : V) (o : Option R) (b p : Addr) (x : SI), vs = [v, .ref b] ∧ RcV CR H v o ∧ ShotAt CS H b p x ∧ x.potted.length ≤ 16 ∧ ∀ H', Same H H' → Q (.int (refShot o x)) H'
theorem ok_sr (T : Txt K mg CS CR CF) (D : DefF K mg "shot_refusal" sSR) (cN : CalF P w K mg base "has_right_numbers" 1 ["shot"] (spNu CS)) (cG : CalF P w K mg base "goes_on" 1 ["race"] (spGo CR)) (cF : CalF P w K mg base "fits_table" 1 ["race", "shot"] (spFt CS CR))
    (cM : CalF P w K mg base "may_happen" 1 ["race", "shot"] (spMB CS CR)) : CalF P w K mg base "shot_refusal" 2 ["race", "shot"] (spSR CS CR) := by
  refine D.cal (fun f fd F => F.ok scSR (fun vs H Q E h => ?_) (fun cdv A outer s H vs Q E hr h => ?_)) (fun _ _ _ _ _ _ us hl => match us, hl with | [_, _], _ => rfl)
  · obtain ⟨v, o, b, p, x, rfl, _⟩ := h
    rfl
  · obtain ⟨v, o, b, p, x, rfl, hv, SA, hlen, q⟩ := h
    refine ⟨_, pss_cons (ps_if (pt_not (pt_val (pe_cf cN hr rfl (pa_cons (pv 1) pa_nil)))) (pss_one (ps_ret (pe_un un_neg pe_int))) pss_nil)
      (pss_cons (ps_if (pt_not (pt_val (pe_cf cG hr rfl (pa_cons (pv 0) pa_nil)))) (pss_one (ps_ret (pe_un un_neg pe_int))) pss_nil)
      (pss_cons (ps_if (pt_cmpR op_eq (pe_fld (pv 0) rfl) (pe_gi T.c_PHASE_CHOICE rfl) (nomark _)) (pss_one (ps_ret (pe_un un_neg pe_int))) pss_nil)
      (pss_cons (ps_if (pt_not (pt_val (pe_cf cF hr rfl (pa_cons (pv 0) (pa_cons (pv 1) pa_nil))))) (pss_one (ps_ret (pe_un un_neg pe_int))) pss_nil)
      (pss_cons (ps_if (pt_not (pt_val (pe_cf cM hr rfl (pa_cons (pv 0) (pa_cons (pv 1) pa_nil))))) (pss_one (ps_ret (pe_un un_neg pe_int))) pss_nil)
      (pss_one (ps_ret pe_int)))))), ?_⟩
    refine ⟨_, rfl, b, p, x, rfl, SA, hlen, fun H1 s1 => ?_⟩
    refine ⟨_, rfl, ?_⟩
    refine ifC (fun c => ?_) fun c => ?_
    · rw [Bool.not_eq_true'] at c
      rw [show refShot o x = -1 from if_pos c] at q
      exact ⟨_, rfl, q H1 s1⟩
    rw [Bool.not_eq_false'] at c
    have c0 : ¬ numbersOk x = false := fun z => by rw [c] at z; cases z
    have hv1 := hv.same s1
    have SA1 := SA.same s1
    refine ⟨_, rfl, v, o, rfl, hv1, _, rfl, ?_⟩
    cases hv1 with
    | none =>
      rw [show refShot none x = -2 from if_neg c0] at q
      exact iteT ⟨_, rfl, q H1 s1⟩
    | some a f r h =>
      rw [show refShot (some r) x = (if r.over = true then -2 else if r.rk.phase = 3 then -3 else if r.fits x = false then -4 else if r.mayBe x = false then -5 else 0) from if_neg c0] at q
      refine ifC (fun c => ?_) fun c => ?_
      · have c' : r.over = true := by simpa [goes] using c
        rw [if_pos c'] at q
        exact ⟨_, rfl, q H1 s1⟩
      have c' : ¬ r.over = true := by simpa [goes] using c
      rw [if_neg c'] at q
      refine ⟨_, rfl, a, CR, f.dx, _, _, rfl, h.ins, T.clR, T.nR_phase, rl_phase r f, rfl, _, rfl, ?_⟩
      rw [dnz (z := 3) _ 3 rfl]
      refine ifC (fun c => ?_) fun c => ?_
      · rw [if_pos (of_decide_eq_true c)] at q
        exact ⟨_, rfl, q H1 s1⟩
      rw [if_neg (of_decide_eq_false c)] at q
      refine ⟨_, rfl, _, rfl, a, b, p, f, r, x, rfl, h, SA1, hlen, fun H2 s2 => ?_⟩
      have s02 := s1.trans s2
      refine ⟨_, rfl, ?_⟩
      refine ifC (fun c => ?_) fun c => ?_
      · rw [Bool.not_eq_true'] at c
        rw [if_pos c] at q
        exact ⟨_, rfl, q H2 s02⟩
      rw [Bool.not_eq_false'] at c
      rw [if_neg (fun z => by rw [c] at z; cases z)] at q
      refine ⟨_, rfl, _, rfl, a, b, p, f, r, x, rfl, h.same s2, SA1.same s2, ?_⟩
      refine ⟨_, rfl, ?_⟩
      refine ifC (fun c => ?_) fun c => ?_
      · rw [Bool.not_eq_true'] at c
        rw [if_pos c] at q
        exact ⟨_, rfl, q H2 s02⟩
      rw [Bool.not_eq_false'] at c
      rw [if_neg (fun z => by rw [c] at z; cases z)] at q
      exact q H2 s02
end
section
variable {P : Program} {w : World} {K : PySem.W.Frag} {mg : Str → Option Value} {base : Heap} {CS CR CF : Addr}
/-! ### race.py -/
abbrev sSh : Stmt := inClass (top 1) 0
abbrev nSh : List Str := ["self", "first", "cushions", "lost", "called", "push", "potted"]
theorem scSh : FnScope nSh nSh (defScope sSh) := ⟨rfl, rfl, rfl, by decide +kernel, rfl, by decide +kernel, by decide +kernel⟩
def spSh (CS : Addr) : Sp := fun vs H Q _ => ∃ (b dx p : Addr) (x : SI), vs = [.ref b, .int x.first, .int x.cushions, .int x.lost, .int x.called, .int x.push, .ref p] ∧ H b = some (.ins CS dx []) ∧ H p = some (.lst (x.potted.map V.int)) ∧
  ∀ H', ShotAt CS H' b p x → (∀ c o, H c = some o → c ≠ b → H' c = some o) → Q .non H'
theorem ok_sh (T : Txt K mg CS CR CF) (D : DefC K CS "Shot.__init__" sSh) : CalC P w K mg base CS 1 nSh (spSh CS) := by
  refine D.cal (fun f fd F => F.ok scSh (fun vs H Q E h => ?_) (fun cdv A outer s H vs Q E hr h => ?_)) (fun _ _ _ _ _ _ us hl => match us, hl with | [_, _, _, _, _, _, _], _ => rfl)
  · obtain ⟨b, dx, p, x, rfl, _⟩ := h
    rfl
  · obtain ⟨b, dx, p, x, rfl, hb, hp, q⟩ := h
    refine ⟨_, pss_cons (ps_fld (pv 0) (pv 1) rfl) (pss_cons (ps_fld (pv 0) (pv 2) rfl) (pss_cons (ps_fld (pv 0) (pv 3) rfl) (pss_cons (ps_fld (pv 0) (pv 4) rfl) (pss_cons (ps_fld (pv 0) (pv 5) rfl) (pss_one (ps_fld (pv 0) (pv 6) rfl)))))), ?_⟩
    refine ⟨_, rfl, _, rfl, b, CS, dx, _, rfl, hb, T.clS, T.nS_first, (by show 0 < 1000; decide), ?_⟩
    refine ⟨_, rfl, _, rfl, b, CS, dx, _, rfl, upd_same, T.clS, T.nS_cushions, (by show 1 < 1000; decide), ?_⟩
    refine ⟨_, rfl, _, rfl, b, CS, dx, _, rfl, upd_same, T.clS, T.nS_lost, (by show 2 < 1000; decide), ?_⟩
    refine ⟨_, rfl, _, rfl, b, CS, dx, _, rfl, upd_same, T.clS, T.nS_called, (by show 3 < 1000; decide), ?_⟩
    refine ⟨_, rfl, _, rfl, b, CS, dx, _, rfl, upd_same, T.clS, T.nS_push, (by show 4 < 1000; decide), ?_⟩
    refine ⟨_, rfl, _, rfl, b, CS, dx, _, rfl, upd_same, T.clS, T.nS_potted, (by show 5 < 1000; decide), ?_⟩
    rw [upd_upd, upd_upd, upd_upd, upd_upd, upd_upd]
    have e : putF "potted" (.ref p) (putF "push" (.int x.push) (putF "called" (.int x.called) (putF "lost" (.int x.lost) (putF "cushions" (.int x.cushions) (putF "first" (.int x.first) []))))) = sF x p := rfl
    rw [e]
    exact q _ ⟨⟨dx, upd_same⟩, (upd_ne (ne_of hp hb (fun z => by cases z))).trans hp⟩ fun c o h n => (upd_ne n).trans h
abbrev sCo : Stmt := top 52
theorem scCo : FnScope ["balls"] ["balls"] (defScope sCo) := ⟨rfl, rfl, rfl, by decide +kernel, rfl, by decide +kernel, by decide +kernel⟩
def spCo : Sp := fun vs H Q _ => ∃ (d : Addr) (l : List Nat), vs = [.ref d] ∧ H d = some (.lst (wh l)) ∧ l.length ≤ 15 ∧ ∀ H' p, Same H H' → H p = none → H' p = some (.lst ((counted l).map V.int)) → Q (.ref p) H'
theorem ok_co (T : Txt K mg CS CR CF) (D : DefF K mg "counted" sCo) : CalF P w K mg base "counted" 1 ["balls"] spCo := by
  refine D.cal (fun f fd F => F.ok scCo (fun vs H Q E h => ?_) (fun cdv A outer s H vs Q E hr h => ?_)) (fun _ _ _ _ _ _ us hl => match us, hl with | [_], _ => rfl)
  · obtain ⟨d, l, rfl, _⟩ := h
    rfl
  · obtain ⟨d, l, rfl, hd, hl, q⟩ := h
    refine ⟨_, pss_one (ps_ret (pe_op op_cat (pe_lst (pa_cons (pe_callB call_len_seq (by rfl) T.b_len PySem.boot_len (pa_cons (pv 0) pa_nil)) pa_nil)) (pv 0))), ?_⟩
    refine ⟨_, rfl, d, _, rfl, .inl (SqL.of hd), (by show 1 ≤ sizeLine; decide), fun p hp => ?_⟩
    rw [wh_len]
    refine ⟨_, rfl, p, d, _, _, rfl, rfl, upd_same, same_upd hp _ _ hd, ?_, fun u hu => ?_⟩
    · rw [wh_len]
      exact Nat.le_of_lt (small1000 (by show 1 + l.length ≤ 1000; omega))
    · exact q _ u ((same_upd hp).trans (same_upd hu)) ((same_upd hp).free hu) upd_same
abbrev sRi : Stmt := top 51
theorem scRi : FnScope ["race"] ["race"] (defScope sRi) := ⟨rfl, rfl, rfl, by decide +kernel, rfl, by decide +kernel, by decide +kernel⟩
def spRi (CR : Addr) : Sp := fun vs H Q _ => ∃ (a : Addr) (f : Ft) (r : R), vs = [.ref a] ∧ RaceAt CR H a f r ∧ r.rk.who ≤ 1 ∧ Bl r.rk.balls ∧ ∀ H' p, Same H H' → H p = none → H' p = some (.lst (wh r.right)) → Q (.ref p) H'
theorem ok_ri (T : Txt K mg CS CR CF) (D : DefF K mg "right_balls" sRi) (c8 : CalF P w K mg base "right_balls_of_eight" 2 ["race"] (spR8 CR)) (c9 : CalF P w K mg base "right_balls_of_nine" 1 ["race"] (spR9 CR)) :
    CalF P w K mg base "right_balls" 3 ["race"] (spRi CR) := by
  refine D.cal (fun f fd F => F.ok scRi (fun vs H Q E h => ?_) (fun cdv A outer s H vs Q E hr h => ?_)) (fun _ _ _ _ _ _ us hl => match us, hl with | [_], _ => rfl)
  · obtain ⟨a, f, r, rfl, _⟩ := h
    rfl
  · obtain ⟨a, f, r, rfl, RA, hw, hB, q⟩ := h
    refine ⟨_, pss_cons (ps_if (pt_cmpR op_eq (pe_fld (pv 0) rfl) (pe_gi T.c_EIGHT_BALL rfl) (nomark _)) (pss_one (ps_ret (pe_cf c8 hr rfl (pa_cons (pv 0) pa_nil)))) pss_nil)
      (pss_one (ps_ret (pe_cf c9 (hr.mono (by decide)) rfl (pa_cons (pv 0) pa_nil)))), ?_⟩
    refine ⟨_, rfl, a, CR, f.dx, _, _, rfl, RA.ins, T.clR, T.nR_game, rl_game r f, rfl, _, rfl, ?_⟩
    rw [dnz (z := 8) _ 8 rfl]
    unfold R.right at q
    refine ifC (fun c => ?_) fun c => ?_
    · rw [if_pos (of_decide_eq_true c)] at q
      exact ⟨_, rfl, a, f, r, rfl, RA, hw, hB.len, q⟩
    · rw [if_neg (of_decide_eq_false c)] at q
      exact ⟨_, rfl, a, f, r, rfl, RA, hB, q⟩
abbrev sCC : Stmt := top 50
theorem scCC : FnScope ["race", "chosen", "of_push"] ["race", "chosen"] (defScope sCC) := ⟨rfl, rfl, rfl, by decide +kernel, rfl, by decide +kernel, by decide +kernel⟩
def spCC (CR : Addr) : Sp := fun vs H Q _ => ∃ (a : Addr) (f : Ft) (r : R) (n : Int), vs = [.ref a, .int n] ∧ RaceAt CR H a f r ∧ r.rk.who ≤ 1 ∧ ∀ H' f', RaceAt CR H' a f' (r.chosen n) → Step H H' (f.on a) (f'.on a) → Q .non H'
theorem two_on (f : Ft) (a : Addr) : ∀ b, b ∈ [a, f.aw] → b ∈ f.on a := fun b m => by
  rcases List.mem_cons.mp m with z | z
  · rw [z]; exact f.self a
  · rcases List.mem_cons.mp z with z | z
    · rw [z]; exact List.mem_cons_of_mem _ List.mem_cons_self
    · cases z
theorem ok_cc (T : Txt K mg CS CR CF) (D : DefF K mg "carry_out_choice" sCC) (cP : CalM P w K mg base CR "play_on" 1 ["self", "phase"] (spPlay CR)) (cT : CalM P w K mg base CR "pass_turn" 1 ["self", "phase", "in_hand"] (spPass CR))
    (cR : CalM P w K mg base CR "begin_rack" 1 ["self", "breaker"] (spRack CR)) : CalF P w K mg base "carry_out_choice" 2 ["race", "chosen"] (spCC CR) := by
  refine D.cal (fun f fd F => F.ok scCC (fun vs H Q E h => ?_) (fun cdv A outer s H vs Q E hr h => ?_)) (fun _ _ _ _ _ _ us hl => match us, hl with | [_, _], _ => rfl)
  · obtain ⟨a, f, r, n, rfl, _⟩ := h
    rfl
  · obtain ⟨a, f, r, n, rfl, RA, hw, q⟩ := h
    refine ⟨_, pss_cons (ps_set (i := 2) scCC.nd rfl (Or.inl rfl) (pe_fld (pv 0) rfl)) (pss_cons (ps_fld (pv 0) pe_int rfl)
      (pss_one (ps_if (pt_cmpR op_eq (pv 1) pe_int (nomark _)) (pss_one (ps_expr (pe_cm cP T.clR hr (pv 0) (pa_cons (pe_gi T.c_PHASE_PLAY rfl) pa_nil))))
        (pss_one (ps_if (pt_cmpR op_eq (pv 2) pe_int (nomark _)) (pss_one (ps_expr (pe_cm cT T.clR hr (pv 0) (pa_cons (pe_gi T.c_PHASE_PLAY rfl) (pa_cons pe_int pa_nil)))))
          (pss_one (ps_expr (pe_cm cR T.clR hr (pv 0) (pa_cons (pe_fld (pv 0) rfl) pa_nil))))))))), ?_⟩
    refine ⟨_, rfl, a, CR, f.dx, _, _, rfl, RA.ins, T.clR, T.nR_choice_of_push, rl_choice_of_push r f, ?_⟩
    refine ⟨_, rfl, a, CR, f.dx, _, rfl, RA.ins, T.clR, T.nR_choice_of_push, len_rF r f, ?_⟩
    rw [rp_push r f (z := 0) false rfl]
    have R1 := RA.fld (r' := { r with push := false })
    have s1 : Step H (upd H a (.ins CR f.dx (rF { r with push := false } f))) (f.on a) (f.on a) := .upd (f.self a)
    unfold R.chosen at q
    refine ⟨_, rfl, rfl, _, rfl, ?_⟩
    rw [dint]
    refine ifC (fun c => ?_) fun c => ?_
    · rw [if_pos (of_decide_eq_true c)] at q
      exact ⟨_, rfl, a, f.dx, _, rfl, R1.ins, rn_play_on _ f, a, f, _, 2, rfl, R1, fun H' R' s' => q H' f R' (s1.trans s')⟩
    · rw [if_neg (of_decide_eq_false c)] at q
      refine ⟨_, rfl, (by cases r.push <;> rfl), _, rfl, ?_⟩
      rw [truth1]
      refine ifC (fun c2 => ?_) fun c2 => ?_
      · rw [if_pos c2] at q
        exact ⟨_, rfl, a, f.dx, _, rfl, R1.ins, rn_pass_turn _ f, a, f, _, 2, false, rfl, R1, hw, fun H' R' s' => q H' f R' (s1.trans s')⟩
      · rw [if_neg (by rw [c2]; exact Bool.false_ne_true)] at q
        exact ⟨_, rfl, a, f.dx, _, rfl, R1.ins, rn_begin_rack _ f, _, rfl, a, CR, f.dx, _, _, rfl, R1.ins, T.clR, T.nR_turn, rl_turn _ f, a, f, _, r.rk.who, rfl, .inr R1.ins, R1.won, fun H' f' R' s' => q H' f' R' (s1.trans (s'.sub (two_on f a)))⟩
/-! the referee -/
theorem ref_ins {H : Hp} {a : Addr} {S : List Addr} {o : Option R} (h : RefAt CF CR H a S o) : ∃ dx v, H a = some (.ins CF dx (fF v)) ∧ RcV CR H v o := by
  cases h with
  | none dx e => exact ⟨dx, _, e, .none⟩
  | some dx b f r e q => exact ⟨dx, _, e, .some b f r q⟩
theorem ref_same {H H' : Hp} {a : Addr} {S : List Addr} {o : Option R} (h : RefAt CF CR H a S o) (s : Same H H') : RefAt CF CR H' a S o := by
  cases h with
  | none dx e => exact .none dx (s _ _ e)
  | some dx b f r e q => exact .some dx b f r (s _ _ e) (q.same s)
/-- what a call of the referee answers, and leaves -/
def Ans (CF CR : Addr) (H : Hp) (a : Addr) (S : List Addr) (o' : Option R) (out : List Int) (Q : VK) : Prop :=
  ∀ H' S' p, RefAt CF CR H' a S' o' → Step H H' S S' → (∀ b u, H b = some u → b ∉ S → b ≠ p) → H' p = some (.lst (out.map V.int)) → Q (.ref p) H'
theorem Ans.still {H H1 : Hp} {a : Addr} {S : List Addr} {o : Option R} {out : List Int} {Q : VK} (q : Ans CF CR H a S o out Q) (h : RefAt CF CR H a S o) (s : Same H H1) {p : Addr} (hp : H1 p = none) {vs : List V} (e : vs = out.map V.int) : Q (.ref p) (upd H1 p (.lst vs)) := by
  subst e
  exact q _ S p (ref_same h (s.trans (same_upd hp))) (.of_same (s.trans (same_upd hp))) (fun b u e _ => ne_of_none e (s.free hp)) upd_same
abbrev sRF : Stmt := top 49
abbrev sFI : Stmt := inClass sRF 0
theorem scFI : FnScope ["self"] ["self"] (defScope sFI) := ⟨rfl, rfl, rfl, by decide +kernel, rfl, by decide +kernel, by decide +kernel⟩
def spFI (CF : Addr) : Sp := fun vs H Q _ => ∃ (a dx : Addr), vs = [.ref a] ∧ H a = some (.ins CF dx []) ∧ Q .non (upd H a (.ins CF dx (fF .non)))
theorem ok_fi (T : Txt K mg CS CR CF) (D : DefC K CF "Referee.__init__" sFI) : CalC P w K mg base CF 1 ["self"] (spFI CF) := by
  refine D.cal (fun f fd F => F.ok scFI (fun vs H Q E h => ?_) (fun cdv A outer s H vs Q E hr h => ?_)) (fun _ _ _ _ _ _ us hl => match us, hl with | [_], _ => rfl)
  · obtain ⟨a, dx, rfl, _⟩ := h
    rfl
  · obtain ⟨a, dx, rfl, hb, q⟩ := h
    refine ⟨_, pss_one (ps_fld (pv 0) pe_non rfl), ?_⟩
    exact ⟨_, rfl, a, CF, dx, _, rfl, hb, T.clF, T.nF_race, (by show 0 < 1000; decide), q⟩
theorem refBegin_ok {k n t w : Int} (h : refBegin k n t w = 0) : (k = 8 ∨ k = 9) ∧ (1 ≤ n ∧ n ≤ 30) ∧ (t = 0 ∨ t = 1) ∧ (w = 0 ∨ w = 1) := by
  unfold refBegin bad01 at h
  by_cases h1 : (!(decide (k = 8) || decide (k = 9)) || !(decide (1 ≤ n) && decide (n ≤ 30))) = true
  · rw [if_pos h1] at h
    omega
  · rw [if_neg h1] at h
    by_cases h2 : ((!(decide (t = 0) || decide (t = 1))) || !(decide (w = 0) || decide (w = 1))) = true
    · rw [if_pos h2] at h
      omega
    · simp at h1 h2
      omega
abbrev sBe : Stmt := inClass sRF 1
abbrev nBe : List Str := ["self", "game", "racks", "turns", "breaker", "refusal"]
theorem scBe : FnScope nBe ["self", "game", "racks", "turns", "breaker"] (defScope sBe) := ⟨rfl, rfl, rfl, by decide +kernel, rfl, by decide +kernel, by decide +kernel⟩
def spBe (CF CR : Addr) : Sp := fun vs H Q _ => ∃ (a : Addr) (S : List Addr) (o : Option R) (k n t w : Int), vs = [.ref a, .int k, .int n, .int t, .int w] ∧ RefAt CF CR H a S o ∧ Ans CF CR H a S (step o (.begin_ k n t w)).1 (step o (.begin_ k n t w)).2 Q
theorem ref_mem {H : Hp} {a : Addr} {S : List Addr} {o : Option R} (h : RefAt CF CR H a S o) : a ∈ S := by cases h <;> exact List.mem_cons_self
theorem RaceAt.other {C : Addr} {H : Hp} {a c : Addr} {f : Ft} {r : R} {u : HO} (h : RaceAt C H a f r) (n : c ∉ f.on a) : RaceAt C (upd H c u) a f r := by
  have m : ∀ b, b ∈ f.on a → b ≠ c := fun b q z => n (z ▸ q)
  refine ⟨(upd_ne (m _ (f.self a))).trans h.ins, (upd_ne (m _ ?_)).trans h.won, (upd_ne (m _ ?_)).trans h.balls, (upd_ne (m _ (f.mag a))).trans h.groups, (upd_ne (m _ (f.maf a))).trans h.fouls, h.n1, h.n2, h.n3, h.n4, h.n5, h.n6⟩
  · exact List.mem_cons_of_mem _ List.mem_cons_self
  · exact List.mem_cons_of_mem _ (List.mem_cons_of_mem _ List.mem_cons_self)
theorem ok_be (T : Txt K mg CS CR CF) (D : DefM K CF "begin" "Referee.begin" sBe) (cB : CalF P w K mg base "begin_refusal" 1 ["game", "racks", "turns", "breaker"] spRB)
    (cM : CalC P w K mg base CR 2 ["self", "game", "goal", "by_turns", "breaker"] (spMade CR)) : CalM P w K mg base CF "begin" 4 ["self", "game", "racks", "turns", "breaker"] (spBe CF CR) := by
  refine D.cal (fun f fd F => F.ok scBe (fun vs H Q E h => ?_) (fun cdv A outer s H vs Q E hr h => ?_)) (fun _ _ _ _ _ _ us hl => match us, hl with | [_, _, _, _, _], _ => rfl)
  · obtain ⟨a, S, o, k, n, t, w, rfl, _⟩ := h
    rfl
  · obtain ⟨a, S, o, k, n, t, w, rfl, FA, q⟩ := h
    refine ⟨_, pss_cons (ps_set (i := 5) scBe.nd rfl (Or.inl rfl) (pe_cf cB (hr.mono (by decide)) rfl (pa_cons (pv 1) (pa_cons (pv 2) (pa_cons (pv 3) (pa_cons (pv 4) pa_nil))))))
      (pss_cons (ps_if (pt_cmpR op_eq (pv 5) pe_int (nomark _)) (pss_one (ps_fld (pv 0) (pe_cc cM hr rfl T.gR (pa_cons (pv 1) (pa_cons (pv 2) (pa_cons (pv 3) (pa_cons (pv 4) pa_nil))))) rfl)) pss_nil)
      (pss_one (ps_ret (pe_lst (pa_cons (pv 5) pa_nil))))), ?_⟩
    refine ⟨_, rfl, _, rfl, _, rfl, _, rfl, k, n, t, w, rfl, fun H1 s1 => ?_⟩
    refine ⟨_, rfl, rfl, _, rfl, ?_⟩
    rw [dint]
    refine ifC (fun c => ?_) fun c => ?_
    · have c0 := of_decide_eq_true c
      have q : Ans CF CR H a S (some (R.made k.toNat n.toNat (t == 1) w.toNat)) [refBegin k n t w] Q := by
        have e : step o (.begin_ k n t w) = (some (R.made k.toNat n.toNat (t == 1) w.toNat), [refBegin k n t w]) := by
          unfold step
          dsimp only
          rw [if_pos c0]
        rw [e] at q
        exact q
      obtain ⟨ek, en, et, ew⟩ : k = (k.toNat : Int) ∧ n = (n.toNat : Int) ∧ t = ((Kg78.truth (t == 1) : Nat) : Int) ∧ w = (w.toNat : Int) := by
        obtain ⟨h1, h2, h3, h4⟩ := refBegin_ok c0
        refine ⟨by omega, by omega, ?_, by omega⟩
        rcases h3 with rfl | rfl <;> rfl
      have e4 : [V.int k, V.int n, V.int t, V.int w] = [num k.toNat, num n.toNat, num (Kg78.truth (t == 1)), num w.toNat] := by
        show [V.int k, V.int n, V.int t, V.int w] = [V.int _, V.int _, V.int _, V.int _]
        rw [← ek, ← en, ← et, ← ew]
      obtain ⟨dr, v, hi, _⟩ := ref_ins FA
      refine ⟨_, rfl, _, rfl, _, rfl, _, rfl, fun x dx nx nd ne => ?_⟩
      have s2 : Same H (upd (upd H1 dx (.own x)) x (.ins CR dx [])) := s1.trans ((same_upd nd).trans (same_upd ((upd_ne ne.symm).trans nx)))
      refine ⟨x, dx, k.toNat, n.toNat, t == 1, w.toNat, congrArg (V.ref x :: ·) e4, upd_same, fun H2 f2 R2 s3 => ⟨rfl, ?_⟩⟩
      have nax : a ≠ x := ne_of_none (s1 _ _ hi) nx
      have nas : a ∉ [x] := fun z => by
        rcases List.mem_cons.mp z with z | z
        · exact nax z
        · cases z
      have hi2 : H2 a = some (.ins CF dr (fF v)) := s3.keep _ _ (s2 _ _ hi) nas
      have na2 : a ∉ f2.on x := s3.out (s2 _ _ hi) nas
      refine ⟨_, rfl, a, CF, dr, _, rfl, hi2, T.clF, T.nF_race, (by show 1 < 1000; decide), ?_⟩
      rw [fp_race]
      refine ⟨_, rfl, (by show 1 ≤ sizeLine; decide), fun p hp => ?_⟩
      obtain ⟨npa, hp2⟩ := none_upd hp
      have R3 := (R2.other (u := .ins CF dr (fF (.ref x))) na2).same (same_upd (o := .lst [.int (refBegin k n t w)]) hp)
      have st : Step H (upd (upd H2 a (.ins CF dr (fF (.ref x)))) p (.lst [.int (refBegin k n t w)])) S (a :: f2.on x) := by
        refine ⟨fun b u e m => ?_, fun b m => ?_⟩
        · have nb : b ≠ a := fun z => m (by rw [z]; exact ref_mem FA)
          have e2 := s3.keep _ _ (s2 _ _ e) (fun z => by
            rcases List.mem_cons.mp z with z | z
            · exact ne_of_none (s1 _ _ e) nx z
            · cases z)
          rw [upd_ne (ne_of_none e2 hp2), upd_ne nb]
          exact e2
        · rcases List.mem_cons.mp m with z | z
          · rw [z]; exact .inl (ref_mem FA)
          · rcases s3.new b z with z | z
            · rcases List.mem_cons.mp z with z | z
              · rw [z]; exact .inr (s1.free nx)
              · cases z
            · exact .inr (s2.free z)
      have hp0 : ∀ b u, H b = some u → b ∉ S → b ≠ p := fun b u e _ => by
        have nps : b ∉ [x] := fun z => by
          rcases List.mem_cons.mp z with z | z
          · exact ne_of_none (s1 _ _ e) nx z
          · cases z
        exact ne_of_none (s3.keep _ _ (s2 _ _ e) nps) hp2
      exact q _ _ p (.some dr x f2 _ ((upd_ne npa.symm).trans upd_same) R3) st hp0 upd_same
    · have c0 := of_decide_eq_false c
      have q : Ans CF CR H a S o [refBegin k n t w] Q := by
        have e : step o (.begin_ k n t w) = (o, [refBegin k n t w]) := by
          unfold step
          dsimp only
          rw [if_neg c0]
        rw [e] at q
        exact q
      exact ⟨_, rfl, (by show 1 ≤ sizeLine; decide), fun p hp => q.still FA s1 hp rfl⟩
end
section
variable {P : Program} {w : World} {K : PySem.W.Frag} {mg : Str → Option Value} {base : Heap} {CS CR CF : Addr}
theorem Ok.bl {r : R} (h : Ok r) : Bl r.rk.balls := ⟨h.len, fun z => (by have := h.last; rw [z] at this; cases this), fun b m => (h.balls b m).1⟩
theorem ok_of {r : R} (h : OkO (some r)) (n : ¬ r.over = true) : Ok r := by
  rcases h with ⟨z, _⟩ | h
  · exact absurd z n
  · exact h
theorem ref_out {H : Hp} {a b dr : Addr} {v : V} {f : Ft} {r : R} (h : H a = some (.ins CF dr (fF v))) (q : RaceAt CR H b f r) : a ∉ f.on b := fun m => by
  simp only [Ft.on, List.mem_cons, List.not_mem_nil, or_false] at m
  rcases m with m | m | m | m | m
  · exact ne_of h q.ins fF_ne m
  · exact ne_of h q.won (fun z => by cases z) m
  · exact ne_of h q.balls (fun z => by cases z) m
  · exact ne_of h q.groups (fun z => by cases z) m
  · exact ne_of h q.fouls (fun z => by cases z) m
theorem refShot_ok {o : Option R} {x : SI} (h : ¬ refShot o x < 0) : ∃ r, o = some r ∧ ¬ r.over = true ∧ refShot o x = 0 := by
  by_cases h0 : numbersOk x = false
  · rw [show refShot o x = -1 from if_pos h0] at h
    omega
  cases o with
  | none =>
    rw [show refShot none x = -2 from if_neg h0] at h
    omega
  | some r =>
    have e : refShot (some r) x = (if r.over = true then -2 else if r.rk.phase = 3 then -3 else if r.fits x = false then -4 else if r.mayBe x = false then -5 else 0) := if_neg h0
    rw [e] at h ⊢
    refine ⟨r, rfl, ?_⟩
    by_cases c : r.over = true
    · rw [if_pos c] at h; omega
    rw [if_neg c] at h ⊢
    refine ⟨c, ?_⟩
    by_cases c : r.rk.phase = 3
    · rw [if_pos c] at h; omega
    rw [if_neg c] at h ⊢
    by_cases c : r.fits x = false
    · rw [if_pos c] at h; omega
    rw [if_neg c] at h ⊢
    by_cases c : r.mayBe x = false
    · rw [if_pos c] at h; omega
    rw [if_neg c]
theorem refChoose_ok {o : Option R} {n : Int} (h : ¬ refChoose o n < 0) : ∃ r, o = some r ∧ ¬ r.over = true := by
  by_cases h0 : bad01 n = true
  · rw [show refChoose o n = -1 from if_pos h0] at h
    omega
  cases o with
  | none =>
    rw [show refChoose none n = -2 from if_neg h0] at h
    omega
  | some r =>
    have e : refChoose (some r) n = (if r.over = true then -2 else if r.rk.phase = 3 then 0 else -3) := if_neg h0
    rw [e] at h
    refine ⟨r, rfl, fun c => ?_⟩
    rw [if_pos c] at h
    omega
theorem refLook_ok {o : Option R} (h : ¬ refLook o < 0) : ∃ r, o = some r ∧ ¬ r.over = true := by
  cases o with
  | none => exact absurd (show (-2 : Int) < 0 by omega) h
  | some r =>
    refine ⟨r, rfl, fun c => h ?_⟩
    show (if (!r.over) = true then (0 : Int) else -2) < 0
    rw [c]
    decide
theorem neg_lt (i : Int) : decide (i < 0) = true ∨ decide (i < 0) = false := by cases decide (i < 0) <;> simp
/-- behind a change of the race -/
theorem ref_step {H H' : Hp} {a b dr : Addr} {f f' : Ft} {r r' : R} (h : H a = some (.ins CF dr (fF (.ref b)))) (q : RaceAt CR H b f r) (q' : RaceAt CR H' b f' r') (s : Step H H' (f.on b) (f'.on b)) :
    RefAt CF CR H' a (a :: f'.on b) (some r') ∧ Step H H' (a :: f.on b) (a :: f'.on b) := ⟨.some dr b f' r' (s.keep _ _ h (ref_out h q)) q', s.wide a⟩
theorem Ans.after {H H1 H2 : Hp} {a : Addr} {S S1 : List Addr} {o : Option R} {out : List Int} {Q : VK} (q : Ans CF CR H a S o out Q) (s : Step H H1 S S1) (h : RefAt CF CR H1 a S1 o) (s2 : Same H1 H2) {p : Addr} (hp : H2 p = none) {vs : List V} (e : vs = out.map V.int) :
    Q (.ref p) (upd H2 p (.lst vs)) := by
  subst e
  exact q _ S1 p (ref_same h (s2.trans (same_upd hp))) (s.trans (.of_same (s2.trans (same_upd hp)))) (fun b u e m => ne_of_none (s2 _ _ (s.keep _ _ e m)) hp) upd_same
abbrev sTS : Stmt := inClass sRF 2
abbrev nTS : List Str := ["self", "shot", "refusal", "outcome"]
theorem scTS : FnScope nTS ["self", "shot"] (defScope sTS) := ⟨rfl, rfl, rfl, by decide +kernel, rfl, by decide +kernel, by decide +kernel⟩
def spTS (CS CF CR : Addr) : Sp := fun vs H Q _ => ∃ (a b p : Addr) (S : List Addr) (o : Option R) (x : SI), vs = [.ref a, .ref b] ∧ RefAt CF CR H a S o ∧ OkO o ∧ ShotAt CS H b p x ∧ b ∉ S ∧ p ∉ S ∧ x.potted.length ≤ 16 ∧
  Ans CF CR H a S (step o (.shot x.first x.cushions x.lost x.called x.push x.potted)).1 (step o (.shot x.first x.cushions x.lost x.called x.push x.potted)).2 Q
def tTS (K : PySem.W.Frag) (CR : Addr) : TS := tRet (tOp rCat (tLst (tCons (tVar 3) tNil)) (tMeth CR "standing" (spStand CR) [] E0 (tFld K (tVar 0) "race") tNil))
theorem stand_len (r : R) : 1 + r.stand.length ≤ 7 := by
  unfold R.stand
  split <;> simp
theorem ok_ts (T : Txt K mg CS CR CF) (D : DefM K CF "take_shot" "Referee.take_shot" sTS) (cS : CalF P w K mg base "shot_refusal" 2 ["race", "shot"] (spSR CS CR)) (c8 : CalF P w K mg base "take_shot_of_eight" 4 ["race", "shot"] (spS8 CS CR))
    (c9 : CalF P w K mg base "take_shot_of_nine" 4 ["race", "shot"] (spS9 CS CR)) (cD : CalM P w K mg base CR "standing" 1 ["self"] (spStand CR)) : CalM P w K mg base CF "take_shot" 5 ["self", "shot"] (spTS CS CF CR) := by
  refine D.cal (fun f fd F => F.ok scTS (fun vs H Q E h => ?_) (fun cdv A outer s H vs Q E hr h => ?_)) (fun _ _ _ _ _ _ us hl => match us, hl with | [_, _], _ => rfl)
  · obtain ⟨a, b, p, S, o, x, rfl, _⟩ := h
    rfl
  · obtain ⟨a, b, p, S, o, x, rfl, FA, hok, SA, nb, np, hlen, q⟩ := h
    refine ⟨_, pss_cons (ps_set (i := 2) scTS.nd rfl (Or.inl rfl) (pe_cf cS (hr.mono (by decide)) rfl (pa_cons (pe_fld (pv 0) rfl) (pa_cons (pv 1) pa_nil))))
      (pss_cons (ps_if (pt_cmpR op_lt (pv 2) pe_int (nomark _)) (pss_one (ps_ret (pe_lst (pa_cons (pv 2) pa_nil)))) pss_nil)
      (pss_cons (ps_if (pt_cmpR op_eq (pe_fld (pe_fld (pv 0) rfl) rfl) (pe_gi T.c_EIGHT_BALL rfl) (nomark _)) (pss_one (ps_set (i := 3) scTS.nd rfl (Or.inl rfl) (pe_cf c8 hr rfl (pa_cons (pe_fld (pv 0) rfl) (pa_cons (pv 1) pa_nil)))))
        (pss_one (ps_set (i := 3) scTS.nd rfl (Or.inl rfl) (pe_cf c9 hr rfl (pa_cons (pe_fld (pv 0) rfl) (pa_cons (pv 1) pa_nil))))))
      (pss_one (ps_ret (pe_op op_cat (pe_lst (pa_cons (pv 3) pa_nil)) (pe_cm0 cD T.clR (hr.mono (by decide)) (pe_fld (pv 0) rfl))))))), ?_⟩
    obtain ⟨dr, v, hi, hv⟩ := ref_ins FA
    refine ⟨_, rfl, a, CF, dr, _, _, rfl, hi, T.clF, T.nF_race, fl_race v, _, rfl, v, o, b, p, x, rfl, hv, SA, hlen, fun H1 s1 => ?_⟩
    refine ⟨_, rfl, _, _, rfl, rfl, _, rfl, ?_⟩
    refine ifC (fun c => ?_) fun c => ?_
    · have e : step o (.shot x.first x.cushions x.lost x.called x.push x.potted) = (o, [refShot o x]) := if_pos (of_decide_eq_true c)
      rw [e] at q
      exact ⟨_, rfl, (by show 1 ≤ sizeLine; decide), fun u hu => q.still FA s1 hu rfl⟩
    obtain ⟨r, rfl, hno, _⟩ := refShot_ok (of_decide_eq_false c)
    have e : step (some r) (.shot x.first x.cushions x.lost x.called x.push x.potted) = (some (r.shot x).1, ((r.shot x).2 : Int) :: (r.shot x).1.stand) := if_neg (of_decide_eq_false c)
    rw [e] at q
    have hO := ok_of hok hno
    cases FA with
    | some dr' rb fr _ hi' RA =>
    obtain ⟨rfl, rfl⟩ : dr = dr' ∧ v = .ref rb := by
      rw [hi'] at hi
      injection hi with hi
      injection hi with _ z1 z2
      injection z2 with z2
      injection z2 with _ z2
      exact ⟨z1.symm, z2.symm⟩
    have nb' : b ∉ fr.on rb := fun z => nb (List.mem_cons_of_mem _ z)
    have np' : p ∉ fr.on rb := fun z => np (List.mem_cons_of_mem _ z)
    have R1 := RA.same s1
    have tail : ∀ (H2 : Hp) (f2 : Ft), RaceAt CR H2 rb f2 (r.shot x).1 → Step H1 H2 (fr.on rb) (f2.on rb) →
        tTS K CR { nx := fun _ H' => Q .non H', rt := Q } [some (.ref a), some (.ref b), some (.int (refShot (some r) x)), some (num (r.shot x).2)] H2 := by
      intro H2 f2 R2 s2
      obtain ⟨F2, st⟩ := ref_step (s1 _ _ hi) R1 R2 s2
      have hi2 := s2.keep _ _ (s1 _ _ hi) (ref_out (s1 _ _ hi) R1)
      refine ⟨_, rfl, (by show 1 ≤ sizeLine; decide), fun u hu => ?_⟩
      have su := same_upd (o := .lst [num (r.shot x).2]) hu
      refine ⟨_, rfl, a, CF, dr, _, _, rfl, su _ _ hi2, T.clF, T.nF_race, fl_race _, rb, f2.dx, _, rfl, (R2.same su).ins, rn_standing _ f2, rb, f2, _, rfl, R2.same su, fun H3 p3 s3 _ hp3 => ?_⟩
      refine ⟨u, p3, _, _, rfl, rfl, s3 _ _ upd_same, hp3, ?_, fun z hz => ?_⟩
      · rw [List.length_map]
        exact Nat.le_trans (stand_len _) (by decide)
      · exact q.after ((Step.of_same s1).trans st) F2 (su.trans s3) hz rfl
    refine ⟨_, rfl, a, CF, dr, _, _, rfl, s1 _ _ hi, T.clF, T.nF_race, fl_race _, rb, CR, fr.dx, _, _, rfl, R1.ins, T.clR, T.nR_game, rl_game r fr, rfl, _, rfl, ?_⟩
    rw [dnz (z := 8) _ 8 rfl]
    refine ifC (fun c => ?_) fun c => ?_
    · have es : r.shot x = r.shot8 x := if_pos (of_decide_eq_true c)
      rw [es] at tail
      exact ⟨_, rfl, a, CF, dr, _, _, rfl, s1 _ _ hi, T.clF, T.nF_race, fl_race _, _, rfl, rb, b, p, fr, r, x, rfl, R1, SA.same s1, nb', np', hO.who, hO.broke, hO.len, tail⟩
    · have es : r.shot x = r.shot9 x := if_neg (of_decide_eq_false c)
      rw [es] at tail
      exact ⟨_, rfl, a, CF, dr, _, _, rfl, s1 _ _ hi, T.clF, T.nF_race, fl_race _, _, rfl, rb, b, p, fr, r, x, rfl, R1, SA.same s1, nb', np', hO.who, hO.broke, hO.bl, tail⟩
end
section
variable {P : Program} {w : World} {K : PySem.W.Frag} {mg : Str → Option Value} {base : Heap} {CS CR CF : Addr}
abbrev sHo : Stmt := inClass sRF 3
theorem scHo : FnScope ["self", "chosen", "refusal"] ["self", "chosen"] (defScope sHo) := ⟨rfl, rfl, rfl, by decide +kernel, rfl, by decide +kernel, by decide +kernel⟩
def spHo (CF CR : Addr) : Sp := fun vs H Q _ => ∃ (a : Addr) (S : List Addr) (o : Option R) (n : Int), vs = [.ref a, .int n] ∧ RefAt CF CR H a S o ∧ OkO o ∧ Ans CF CR H a S (step o (.choose n)).1 (step o (.choose n)).2 Q
theorem ok_ho (T : Txt K mg CS CR CF) (D : DefM K CF "choose" "Referee.choose" sHo) (cC : CalF P w K mg base "choose_refusal" 2 ["race", "chosen"] (spCh CR)) (cO : CalF P w K mg base "carry_out_choice" 2 ["race", "chosen"] (spCC CR))
    (cD : CalM P w K mg base CR "standing" 1 ["self"] (spStand CR)) : CalM P w K mg base CF "choose" 3 ["self", "chosen"] (spHo CF CR) := by
  refine D.cal (fun f fd F => F.ok scHo (fun vs H Q E h => ?_) (fun cdv A outer s H vs Q E hr h => ?_)) (fun _ _ _ _ _ _ us hl => match us, hl with | [_, _], _ => rfl)
  · obtain ⟨a, S, o, n, rfl, _⟩ := h
    rfl
  · obtain ⟨a, S, o, n, rfl, FA, hok, q⟩ := h
    refine ⟨_, pss_cons (ps_set (i := 2) scHo.nd rfl (Or.inl rfl) (pe_cf cC hr rfl (pa_cons (pe_fld (pv 0) rfl) (pa_cons (pv 1) pa_nil))))
      (pss_cons (ps_if (pt_cmpR op_lt (pv 2) pe_int (nomark _)) (pss_one (ps_ret (pe_lst (pa_cons (pv 2) pa_nil)))) pss_nil)
      (pss_cons (ps_expr (pe_cf cO hr rfl (pa_cons (pe_fld (pv 0) rfl) (pa_cons (pv 1) pa_nil))))
      (pss_one (ps_ret (pe_op op_cat (pe_lst (pa_cons (pv 1) pa_nil)) (pe_cm0 cD T.clR (hr.mono (by decide)) (pe_fld (pv 0) rfl))))))), ?_⟩
    obtain ⟨dr, v, hi, hv⟩ := ref_ins FA
    refine ⟨_, rfl, a, CF, dr, _, _, rfl, hi, T.clF, T.nF_race, fl_race v, _, rfl, v, o, n, rfl, hv, fun H1 s1 => ?_⟩
    refine ⟨_, rfl, _, _, rfl, rfl, _, rfl, ?_⟩
    refine ifC (fun c => ?_) fun c => ?_
    · have e : step o (.choose n) = (o, [refChoose o n]) := if_pos (of_decide_eq_true c)
      rw [e] at q
      exact ⟨_, rfl, (by show 1 ≤ sizeLine; decide), fun u hu => q.still FA s1 hu rfl⟩
    obtain ⟨r, rfl, hno⟩ := refChoose_ok (of_decide_eq_false c)
    have e : step (some r) (.choose n) = (some (r.chosen n), n :: (r.chosen n).stand) := if_neg (of_decide_eq_false c)
    rw [e] at q
    have hO := ok_of hok hno
    cases FA with
    | some dr' rb fr _ hi' RA =>
    obtain ⟨rfl, rfl⟩ : dr = dr' ∧ v = .ref rb := by
      rw [hi'] at hi
      injection hi with hi
      injection hi with _ z1 z2
      injection z2 with z2
      injection z2 with _ z2
      exact ⟨z1.symm, z2.symm⟩
    have R1 := RA.same s1
    refine ⟨_, rfl, a, CF, dr, _, _, rfl, s1 _ _ hi, T.clF, T.nF_race, fl_race _, _, rfl, rb, fr, r, n, rfl, R1, hO.who, fun H2 f2 R2 s2 => ?_⟩
    obtain ⟨F2, st⟩ := ref_step (s1 _ _ hi) R1 R2 s2
    have hi2 := s2.keep _ _ (s1 _ _ hi) (ref_out (s1 _ _ hi) R1)
    refine ⟨_, rfl, (by show 1 ≤ sizeLine; decide), fun u hu => ?_⟩
    have su := same_upd (o := .lst [V.int n]) hu
    refine ⟨_, rfl, a, CF, dr, _, _, rfl, su _ _ hi2, T.clF, T.nF_race, fl_race _, rb, f2.dx, _, rfl, (R2.same su).ins, rn_standing _ f2, rb, f2, _, rfl, R2.same su, fun H3 p3 s3 _ hp3 => ?_⟩
    refine ⟨u, p3, _, _, rfl, rfl, s3 _ _ upd_same, hp3, ?_, fun z hz => ?_⟩
    · rw [List.length_map]
      exact Nat.le_trans (stand_len _) (by decide)
    · exact q.after ((Step.of_same s1).trans st) F2 (su.trans s3) hz rfl
abbrev sOn : Stmt := inClass sRF 4
theorem scOn : FnScope ["self", "refusal"] ["self"] (defScope sOn) := ⟨rfl, rfl, rfl, by decide +kernel, rfl, by decide +kernel, by decide +kernel⟩
def spOn (CF CR : Addr) (k : Kg78.Call) : Sp := fun vs H Q _ => ∃ (a : Addr) (S : List Addr) (o : Option R), vs = [.ref a] ∧ RefAt CF CR H a S o ∧ OkO o ∧ Ans CF CR H a S (step o k).1 (step o k).2 Q
theorem right_len {r : R} (h : Bl r.rk.balls) : r.right.length ≤ 15 := by
  unfold R.right R.right8 R.right9
  have h1 : r.left.length ≤ 15 := Nat.le_trans (List.length_filter_le _ _) h.len
  have h2 := h.len
  repeat' split
  all_goals first | assumption | (simp)
theorem ok_on (T : Txt K mg CS CR CF) (D : DefM K CF "on" "Referee.on" sOn) (cL : CalF P w K mg base "look_refusal" 2 ["race"] (spLk CR)) (cR : CalF P w K mg base "right_balls" 3 ["race"] (spRi CR)) (cC : CalF P w K mg base "counted" 1 ["balls"] spCo) :
    CalM P w K mg base CF "on" 4 ["self"] (spOn CF CR .on) := by
  refine D.cal (fun f fd F => F.ok scOn (fun vs H Q E h => ?_) (fun cdv A outer s H vs Q E hr h => ?_)) (fun _ _ _ _ _ _ us hl => match us, hl with | [_], _ => rfl)
  · obtain ⟨a, S, o, rfl, _⟩ := h
    rfl
  · obtain ⟨a, S, o, rfl, FA, hok, q⟩ := h
    refine ⟨_, pss_cons (ps_set (i := 1) scOn.nd rfl (Or.inl rfl) (pe_cf cL (hr.mono (by decide)) rfl (pa_cons (pe_fld (pv 0) rfl) pa_nil)))
      (pss_cons (ps_if (pt_cmpR op_lt (pv 1) pe_int (nomark _)) (pss_one (ps_ret (pe_lst (pa_cons (pv 1) pa_nil)))) pss_nil)
      (pss_one (ps_ret (pe_cf cC (hr.mono (by decide)) rfl (pa_cons (pe_cf cR hr rfl (pa_cons (pe_fld (pv 0) rfl) pa_nil)) pa_nil))))), ?_⟩
    obtain ⟨dr, v, hi, hv⟩ := ref_ins FA
    refine ⟨_, rfl, a, CF, dr, _, _, rfl, hi, T.clF, T.nF_race, fl_race v, v, o, rfl, hv, ?_⟩
    refine ⟨_, rfl, _, _, rfl, rfl, _, rfl, ?_⟩
    refine ifC (fun c => ?_) fun c => ?_
    · have e : step o .on = (o, [refLook o]) := if_pos (of_decide_eq_true c)
      rw [e] at q
      exact ⟨_, rfl, (by show 1 ≤ sizeLine; decide), fun u hu => q.still FA (.refl H) hu rfl⟩
    obtain ⟨r, rfl, hno⟩ := refLook_ok (of_decide_eq_false c)
    have e : step (some r) .on = (some r, counted r.right) := if_neg (of_decide_eq_false c)
    rw [e] at q
    have hO := ok_of hok hno
    cases hv with
    | some rb fr _ RA =>
    refine ⟨_, rfl, a, CF, dr, _, _, rfl, hi, T.clF, T.nF_race, fl_race _, rb, fr, r, rfl, RA, hO.who, hO.bl, fun H1 d s1 _ hd => ?_⟩
    refine ⟨d, _, rfl, hd, right_len hO.bl, fun H2 p s2 hp hp2 => ?_⟩
    exact q _ S p (ref_same FA (s1.trans s2)) (.of_same (s1.trans s2)) (fun b u e _ => ne_of_none (s1 _ _ e) hp) hp2
abbrev sTb : Stmt := inClass sRF 6
theorem scTb : FnScope ["self", "refusal"] ["self"] (defScope sTb) := ⟨rfl, rfl, rfl, by decide +kernel, rfl, by decide +kernel, by decide +kernel⟩
theorem ok_tb (T : Txt K mg CS CR CF) (D : DefM K CF "table" "Referee.table" sTb) (cL : CalF P w K mg base "look_refusal" 2 ["race"] (spLk CR)) (cC : CalF P w K mg base "counted" 1 ["balls"] spCo) :
    CalM P w K mg base CF "table" 3 ["self"] (spOn CF CR .table) := by
  refine D.cal (fun f fd F => F.ok scTb (fun vs H Q E h => ?_) (fun cdv A outer s H vs Q E hr h => ?_)) (fun _ _ _ _ _ _ us hl => match us, hl with | [_], _ => rfl)
  · obtain ⟨a, S, o, rfl, _⟩ := h
    rfl
  · obtain ⟨a, S, o, rfl, FA, hok, q⟩ := h
    refine ⟨_, pss_cons (ps_set (i := 1) scTb.nd rfl (Or.inl rfl) (pe_cf cL hr rfl (pa_cons (pe_fld (pv 0) rfl) pa_nil)))
      (pss_cons (ps_if (pt_cmpR op_lt (pv 1) pe_int (nomark _)) (pss_one (ps_ret (pe_lst (pa_cons (pv 1) pa_nil)))) pss_nil)
      (pss_one (ps_ret (pe_cf cC (hr.mono (by decide)) rfl (pa_cons (pe_fld (pe_fld (pv 0) rfl) rfl) pa_nil))))), ?_⟩
    obtain ⟨dr, v, hi, hv⟩ := ref_ins FA
    refine ⟨_, rfl, a, CF, dr, _, _, rfl, hi, T.clF, T.nF_race, fl_race v, v, o, rfl, hv, ?_⟩
    refine ⟨_, rfl, _, _, rfl, rfl, _, rfl, ?_⟩
    refine ifC (fun c => ?_) fun c => ?_
    · have e : step o .table = (o, [refLook o]) := if_pos (of_decide_eq_true c)
      rw [e] at q
      exact ⟨_, rfl, (by show 1 ≤ sizeLine; decide), fun u hu => q.still FA (.refl H) hu rfl⟩
    obtain ⟨r, rfl, hno⟩ := refLook_ok (of_decide_eq_false c)
    have e : step (some r) .table = (some r, counted r.rk.balls) := if_neg (of_decide_eq_false c)
    rw [e] at q
    have hO := ok_of hok hno
    cases hv with
    | some rb fr _ RA =>
    refine ⟨_, rfl, a, CF, dr, _, _, rfl, hi, T.clF, T.nF_race, fl_race _, rb, CR, fr.dx, _, _, rfl, RA.ins, T.clR, T.nR_balls, rl_balls r fr, fr.ab, _, rfl, RA.balls, hO.len, fun H2 p s2 hp hp2 => ?_⟩
    exact q _ S p (ref_same FA s2) (.of_same s2) (fun b u e _ => ne_of_none e hp) hp2
abbrev sNo : Stmt := inClass sRF 5
theorem scNo : FnScope ["self"] ["self"] (defScope sNo) := ⟨rfl, rfl, rfl, by decide +kernel, rfl, by decide +kernel, by decide +kernel⟩
theorem ok_no (T : Txt K mg CS CR CF) (D : DefM K CF "now" "Referee.now" sNo) (cD : CalM P w K mg base CR "standing" 1 ["self"] (spStand CR)) (cE : CalM P w K mg base CR "rack_details" 1 ["self"] (spDet CR)) :
    CalM P w K mg base CF "now" 2 ["self"] (spOn CF CR .now) := by
  refine D.cal (fun f fd F => F.ok scNo (fun vs H Q E h => ?_) (fun cdv A outer s H vs Q E hr h => ?_)) (fun _ _ _ _ _ _ us hl => match us, hl with | [_], _ => rfl)
  · obtain ⟨a, S, o, rfl, _⟩ := h
    rfl
  · obtain ⟨a, S, o, rfl, FA, hok, q⟩ := h
    refine ⟨_, pss_cons (ps_if (pt_cmpR op_isN (pe_fld (pv 0) rfl) pe_non (nomark _)) (pss_one (ps_ret (pe_lst (pa_cons pe_int (pa_cons pe_int (pa_cons pe_int pa_nil)))))) pss_nil)
      (pss_cons (ps_if (pt_val (pe_fld (pe_fld (pv 0) rfl) rfl)) (pss_one (ps_ret (pe_op op_cat (pe_lst (pa_cons pe_int pa_nil)) (pe_cm0 cD T.clR hr (pe_fld (pv 0) rfl))))) pss_nil)
      (pss_one (ps_ret (pe_op op_cat (pe_op op_cat (pe_lst (pa_cons pe_int pa_nil)) (pe_cm0 cD T.clR hr (pe_fld (pv 0) rfl))) (pe_cm0 cE T.clR hr (pe_fld (pv 0) rfl)))))), ?_⟩
    obtain ⟨dr, v, hi, hv⟩ := ref_ins FA
    refine ⟨_, rfl, a, CF, dr, _, _, rfl, hi, T.clF, T.nF_race, fl_race v, rfl, _, rfl, ?_⟩
    cases hv with
    | none => exact iteT ⟨(by show 3 ≤ sizeLine; decide), fun p hp => q.still FA (.refl H) hp rfl⟩
    | some rb fr r RA =>
    refine iteF ?_
    refine ⟨_, rfl, a, CF, dr, _, _, rfl, hi, T.clF, T.nF_race, fl_race _, rb, CR, fr.dx, _, _, rfl, RA.ins, T.clR, T.nR_over, rl_over r fr, _, rfl, ?_⟩
    refine ifC (fun c => ?_) fun c => ?_
    · have e : step (some r) .now = (some r, 0 :: r.stand) := by
        show (some r, (if r.over = true then 0 :: r.stand else 1 :: (r.stand ++ r.details))) = _
        rw [if_pos c]
      rw [e] at q
      refine ⟨(by show 1 ≤ sizeLine; decide), fun u hu => ?_⟩
      have su := same_upd (o := .lst [V.int 0]) hu
      refine ⟨_, rfl, a, CF, dr, _, _, rfl, su _ _ hi, T.clF, T.nF_race, fl_race _, rb, fr.dx, _, rfl, (RA.same su).ins, rn_standing _ fr, rb, fr, _, rfl, RA.same su, fun H3 p3 s3 _ hp3 => ?_⟩
      refine ⟨u, p3, _, _, rfl, rfl, s3 _ _ upd_same, hp3, ?_, fun z hz => ?_⟩
      · rw [List.length_map]
        exact Nat.le_trans (stand_len _) (by decide)
      · exact q.still FA (su.trans s3) hz rfl
    · have e : step (some r) .now = (some r, 1 :: (r.stand ++ r.details)) := by
        show (some r, (if r.over = true then 0 :: r.stand else 1 :: (r.stand ++ r.details))) = _
        rw [if_neg (by rw [c]; exact Bool.false_ne_true)]
      rw [e] at q
      refine ⟨(by show 1 ≤ sizeLine; decide), fun u hu => ?_⟩
      have su := same_upd (o := .lst [V.int 1]) hu
      refine ⟨_, rfl, a, CF, dr, _, _, rfl, su _ _ hi, T.clF, T.nF_race, fl_race _, rb, fr.dx, _, rfl, (RA.same su).ins, rn_standing _ fr, rb, fr, _, rfl, RA.same su, fun H3 p3 s3 _ hp3 => ?_⟩
      refine ⟨u, p3, _, _, rfl, rfl, s3 _ _ upd_same, hp3, ?_, fun z hz => ?_⟩
      · rw [List.length_map]
        exact Nat.le_trans (stand_len _) (by decide)
      have sz := (su.trans s3).trans (same_upd (o := .lst ([V.int 1] ++ r.stand.map V.int)) hz)
      refine ⟨_, rfl, a, CF, dr, _, _, rfl, sz _ _ hi, T.clF, T.nF_race, fl_race _, rb, fr.dx, _, rfl, (RA.same sz).ins, rn_rack_details _ fr, rb, fr, _, rfl, RA.same sz, fun H4 p4 s4 _ hp4 => ?_⟩
      refine ⟨z, p4, _, _, rfl, rfl, s4 _ _ upd_same, hp4, ?_, fun y hy => ?_⟩
      · rw [List.length_append, List.length_map, List.length_map]
        have := stand_len r
        have e5 : r.details.length = 5 := rfl
        rw [e5]
        exact Nat.le_trans (show [V.int 1].length + r.stand.length + 5 ≤ 12 by show 1 + r.stand.length + 5 ≤ 12; omega) (by decide)
      · refine q.still FA (sz.trans s4) hy ?_
        rw [List.map_cons, List.map_append]
        rfl
end
section
variable {P : Program} {w : World} {K : PySem.W.Frag} {mg : Str → Option Value} {base : Heap} {CS CR CF : Addr}
/-! ### a written dict of whole numbers -/
def kiOk (es : List DictEntry) : Bool := es.all fun e => match e.key with
  | .int x _ => decide (e.hash = hashInt x)
  | _ => false
def kiGet (es : List DictEntry) (k : Int) : Option Int := (es.find? fun e => Value.isInt k e.key).bind fun e => match e.val with
  | .int v _ => some v
  | _ => none
def rIxKI (K : PySem.W.Frag) : R2 := fun x y H Q => ∃ (p : Addr) (es : Array DictEntry) (n : Nat) (k v : Int), x = .ref p ∧ y = .int k ∧ K.lookup p = some ⟨.type "dict", none, .dict es n, #[]⟩ ∧ kiOk es.toList = true ∧ kiGet es.toList k = some v ∧ Q (.int v) H
theorem ix_kint {X : Cx} : IxR X (rIxKI X.K) := by
  intro value slice pins s σ H x y v u Q I rx ry h hs
  obtain ⟨p, es, n, k, r, rfl, rfl, hl, hk, hg, q⟩ := h
  obtain rfl : v = Value.ref p := rx
  obtain ⟨t, rfl⟩ := ry
  have hm : s.heap.MapOf (intKind X.prog X.w) p (fun k => findBy Value.isInt es k) := by
    refine ⟨_, es, n, I.kIn _ _ hl, ⟨rfl, rfl, rfl⟩, rfl, fun e he => ?_, fun _ => rfl⟩
    have z := List.all_eq_true.mp hk e (Array.mem_toList_iff.mpr he)
    cases ek : e.key with
    | int x t =>
      rw [ek] at z
      exact ⟨x, by rw [intKind_is], of_decide_eq_true z⟩
    | _ =>
      rw [ek] at z
      cases z
  obtain ⟨t2, hf⟩ : ∃ t2, findBy Value.isInt es k = some (.int r t2) := by
    unfold kiGet at hg
    unfold findBy
    rw [← Array.find?_toList]
    cases e : es.toList.find? fun e => Value.isInt k e.key with
    | none =>
      rw [e] at hg
      cases hg
    | some d =>
      rw [e] at hg
      cases ev : d.val with
      | int v t =>
        have hg' : some v = some r := by
          have : (match d.val with | .int v _ => some v | _ => none) = some r := hg
          rw [ev] at this
          exact this
        injection hg' with hg'
        subst hg'
        exact ⟨t, by rw [Option.map_some, ev]⟩
      | _ =>
        have : (match d.val with | .int v _ => some v | _ => none) = some r := hg
        rw [ev] at this
        cases this
  exact tail_any hm.typeIs slot_dict_getitem.lookup (wpAny_getItem_of (intKind_is X.prog X.w k t) hm hf ⟨.int r, H, I.tok _, ⟨_, rfl⟩, q⟩) hs
/-- CALL_LENGTHS -/
def Lens (K : PySem.W.Frag) (mg : Str → Option Value) : Prop := ∃ (p : Addr) (es : Array DictEntry) (n : Nat), mg "CALL_LENGTHS" = some (.ref p) ∧ K.lookup p = some ⟨.type "dict", none, .dict es n, #[]⟩ ∧ kiOk es.toList = true ∧
  kiGet es.toList 1 = some 5 ∧ kiGet es.toList 3 = some 2 ∧ kiGet es.toList 4 = some 1 ∧ kiGet es.toList 5 = some 1 ∧ kiGet es.toList 6 = some 1
theorem drop_at {ns m : List Int} {i : Nat} (h : ns.drop i = m) (k : Nat) : ns[i + k]? = m[k]? := by rw [← h, List.getElem?_drop]
theorem it_at {ns : List Int} {i : Nat} {z : Int} (h : ns[i]? = some z) : (ns.map V.int)[i]? = some (.int z) := by rw [List.getElem?_map, h]; rfl
abbrev sCE : Stmt := top 53
theorem scCE : FnScope ["calls", "start"] ["calls", "start"] (defScope sCE) := ⟨rfl, rfl, rfl, by decide +kernel, rfl, by decide +kernel, by decide +kernel⟩
def spCE (K : PySem.W.Frag) : Sp := fun vs H Q _ => ∃ (a : Addr) (ns : List Int) (i : Nat) (c : Kg78.Call) (rest : List Int), vs = [.ref a, num i] ∧ SqL K H a (ns.map V.int) ∧ ns.drop i = flat c ++ rest ∧ Q (num (i + (flat c).length)) H
theorem ok_ce (T : Txt K mg CS CR CF) (L : Lens K mg) (D : DefF K mg "call_end" sCE) : CalF P w K mg base "call_end" 1 ["calls", "start"] (spCE K) := by
  refine D.cal (fun f fd F => F.ok scCE (fun vs H Q E h => ?_) (fun cdv A outer s H vs Q E hr h => ?_)) (fun _ _ _ _ _ _ us hl => match us, hl with | [_, _], _ => rfl)
  · obtain ⟨a, ns, i, c, rest, rfl, _⟩ := h
    rfl
  · obtain ⟨a, ns, i, c, rest, rfl, hS, hd, q⟩ := h
    obtain ⟨pL, es, n, gL, lL, oL, l1, l3, l4, l5, l6⟩ := L
    refine ⟨_, pss_cons (ps_if (pt_cmpR op_eq (pe_ix ix_list (pv 0) (pv 1) (fun _ _ => rfl)) (pe_gi T.c_CALL_SHOT rfl) (nomark _))
        (pss_one (ps_ret (pe_op op_add (pe_op op_add (pv 1) pe_int) (pe_ix ix_list (pv 0) (pe_op op_add (pv 1) pe_int) (fun _ _ => rfl))))) pss_nil)
      (pss_one (ps_ret (pe_op op_add (pv 1) (pe_ix ix_kint (pe_glob (v := V.ref pL) rfl gL rfl) (pe_ix ix_list (pv 0) (pv 1) (fun _ _ => rfl)) (fun _ _ => rfl))))), ?_⟩
    have other : ∀ (k m : Int), (flat c)[0]? = some k → kiGet es.toList k = some m → ¬ k = 2 → m = ((flat c).length : Int) → tRet (tOp (rI0 fun i j => .int (i + j)) (tVar 1) (tOp (rIxKI K) (tC (.ref pL)) (tOp (rIxL K) (tVar 0) (tVar 1))))
        { nx := fun _ H' => Q .non H', rt := Q } [some (.ref a), some (num i)] H := by
      intro k m hk hm _ hl
      have h0 : ns[i]? = some k := by
        have z := drop_at hd 0
        rw [Nat.add_zero] at z
        rw [z]
        cases e : flat c with
        | nil => rw [e] at hk; cases hk
        | cons x r => rw [e] at hk; exact hk
      refine ⟨_, rfl, _, rfl, _, rfl, a, _, _, _, rfl, rfl, hS, atI_nat (it_at h0), pL, es, n, k, m, rfl, rfl, lL, oL, hm, ?_⟩
      refine ⟨_, _, rfl, rfl, ?_⟩
      exact vcast (Q := Q) (congrArg V.int (by rw [hl]; omega)) q
    have h0 : ∀ k, (flat c)[0]? = some k → ns[i]? = some k := fun k hk => by
      have z := drop_at hd 0
      rw [Nat.add_zero] at z
      rw [z]
      cases e : flat c with
      | nil => rw [e] at hk; cases hk
      | cons x r => rw [e] at hk; exact hk
    cases c with
    | shot f cu lo ca pu l =>
      refine ⟨_, rfl, _, rfl, a, _, _, _, rfl, rfl, hS, atI_nat (it_at (h0 2 rfl)), rfl, _, rfl, ?_⟩
      refine iteT ?_
      have h6 : ns[i + 6]? = some (l.length : Int) := drop_at hd 6
      refine ⟨_, rfl, _, _, rfl, rfl, _, rfl, _, rfl, _, _, rfl, rfl, a, _, _, _, rfl, rfl, hS, at_of (j := i + 6) (by omega) (it_at h6), _, _, rfl, rfl, ?_⟩
      refine vcast (Q := Q) (congrArg V.int ?_) q
      show (i : Int) + 7 + (l.length : Int) = ((i + (flat (.shot f cu lo ca pu l)).length : Nat) : Int)
      have : (flat (.shot f cu lo ca pu l)).length = l.length + 7 := rfl
      rw [this]
      omega
    | begin_ k n t w =>
      refine ⟨_, rfl, _, rfl, a, _, _, _, rfl, rfl, hS, atI_nat (it_at (h0 1 rfl)), rfl, _, rfl, ?_⟩
      exact iteF (other 1 5 rfl l1 (by decide) rfl)
    | choose n =>
      refine ⟨_, rfl, _, rfl, a, _, _, _, rfl, rfl, hS, atI_nat (it_at (h0 3 rfl)), rfl, _, rfl, ?_⟩
      exact iteF (other 3 2 rfl l3 (by decide) rfl)
    | on =>
      refine ⟨_, rfl, _, rfl, a, _, _, _, rfl, rfl, hS, atI_nat (it_at (h0 4 rfl)), rfl, _, rfl, ?_⟩
      exact iteF (other 4 1 rfl l4 (by decide) rfl)
    | now =>
      refine ⟨_, rfl, _, rfl, a, _, _, _, rfl, rfl, hS, atI_nat (it_at (h0 5 rfl)), rfl, _, rfl, ?_⟩
      exact iteF (other 5 1 rfl l5 (by decide) rfl)
    | table =>
      refine ⟨_, rfl, _, rfl, a, _, _, _, rfl, rfl, hS, atI_nat (it_at (h0 6 rfl)), rfl, _, rfl, ?_⟩
      exact iteF (other 6 1 rfl l6 (by decide) rfl)
end
section
variable {P : Program} {w : World} {K : PySem.W.Frag} {mg : Str → Option Value} {base : Heap} {CS CR CF : Addr}
theorem ref_live {H : Hp} {a : Addr} {S : List Addr} {o : Option R} (h : RefAt CF CR H a S o) : ∀ b ∈ S, ∃ u, H b = some u := by
  intro c m
  cases h with
  | none dx e =>
    rcases List.mem_cons.mp m with z | z
    · rw [z]; exact ⟨_, e⟩
    · cases z
  | some dx b f r e q =>
    simp only [Ft.on, List.mem_cons, List.not_mem_nil, or_false] at m
    rcases m with m | m | m | m | m | m
    · rw [m]; exact ⟨_, e⟩
    · rw [m]; exact ⟨_, q.ins⟩
    · rw [m]; exact ⟨_, q.won⟩
    · rw [m]; exact ⟨_, q.balls⟩
    · rw [m]; exact ⟨_, q.groups⟩
    · rw [m]; exact ⟨_, q.fouls⟩
theorem cut_seg {ns seg rest : List Int} {i : Nat} (h : ns.drop i = seg ++ rest) (ne : seg ≠ []) : cutV (ns.map V.int) (some (i : Int)) (some ((i + seg.length : Nat) : Int)) = seg.map V.int := by
  have hl : ns.length - i = seg.length + rest.length := by
    have := congrArg List.length h
    rw [List.length_drop, List.length_append] at this
    exact this
  have hs : 0 < seg.length := List.length_pos_iff.mpr ne
  unfold cutV
  rw [HT.sIx_nat, HT.sIx_nat, List.length_map, Nat.min_eq_left (by omega), Nat.min_eq_left (by omega), ← List.map_drop, h, ← List.map_take, show i + seg.length - i = seg.length by omega, List.take_left]
theorem cut_7 {l : List Int} {a b c d e f g : V} : cutV (a :: b :: c :: d :: e :: f :: g :: l.map V.int) (some 7) none = l.map V.int := by
  unfold cutV
  rw [HT.sIx_none, show (7 : Int) = ((7 : Nat) : Int) from rfl, HT.sIx_nat]
  have e : (a :: b :: c :: d :: e :: f :: g :: l.map V.int).length = l.length + 7 := by simp
  rw [e, Nat.min_eq_left (by omega)]
  show (l.map V.int).take _ = _
  exact List.take_of_length_le (by rw [List.length_map]; omega)
abbrev sAC : Stmt := top 54
theorem scAC : FnScope ["referee", "call"] ["referee", "call"] (defScope sAC) := ⟨rfl, rfl, rfl, by decide +kernel, rfl, by decide +kernel, by decide +kernel⟩
def spAC (CF CR : Addr) : Sp := fun vs H Q _ => ∃ (a d : Addr) (S : List Addr) (o : Option R) (c : Kg78.Call), vs = [.ref a, .ref d] ∧ RefAt CF CR H a S o ∧ OkO o ∧ H d = some (.lst ((flat c).map V.int)) ∧ Bd c ∧ Ans CF CR H a S (step o c).1 (step o c).2 Q
theorem fF_none {v : V} {m : Str} (h : ¬ m = "race") : (fF v).lookup m = none := by
  have e : (m == ("race" : Str)) = false := beq_eq_false_iff_ne.mpr h
  simp only [fF, List.lookup, e]
theorem ok_ac (T : Txt K mg CS CR CF) (D : DefF K mg "answer_call" sAC) (cS : CalC P w K mg base CS 1 nSh (spSh CS)) (c1 : CalM P w K mg base CF "begin" 4 ["self", "game", "racks", "turns", "breaker"] (spBe CF CR)) (c2 : CalM P w K mg base CF "take_shot" 5 ["self", "shot"] (spTS CS CF CR))
    (c3 : CalM P w K mg base CF "choose" 3 ["self", "chosen"] (spHo CF CR)) (c4 : CalM P w K mg base CF "on" 4 ["self"] (spOn CF CR .on)) (c5 : CalM P w K mg base CF "now" 2 ["self"] (spOn CF CR .now)) (c6 : CalM P w K mg base CF "table" 3 ["self"] (spOn CF CR .table)) :
    CalF P w K mg base "answer_call" 6 ["referee", "call"] (spAC CF CR) := by
  refine D.cal (fun f fd F => F.ok scAC (fun vs H Q E h => ?_) (fun cdv A outer s H vs Q E hr h => ?_)) (fun _ _ _ _ _ _ us hl => match us, hl with | [_, _], _ => rfl)
  · obtain ⟨a, d, S, o, c, rfl, _⟩ := h
    rfl
  · obtain ⟨a, d, S, o, c, rfl, FA, hok, hd, hb, q⟩ := h
    refine ⟨_, pss_cons (ps_if (pt_cmpR op_eq (pe_ix ix_list (pv 1) pe_int (fun _ _ => rfl)) (pe_gi T.c_CALL_BEGIN rfl) (nomark _))
        (pss_one (ps_ret (pe_cm c1 T.clF (hr.mono (by decide)) (pv 0) (pa_cons (pe_ix ix_list (pv 1) pe_int (fun _ _ => rfl)) (pa_cons (pe_ix ix_list (pv 1) pe_int (fun _ _ => rfl)) (pa_cons (pe_ix ix_list (pv 1) pe_int (fun _ _ => rfl)) (pa_cons (pe_ix ix_list (pv 1) pe_int (fun _ _ => rfl)) pa_nil))))))) pss_nil)
      (pss_cons (ps_if (pt_cmpR op_eq (pe_ix ix_list (pv 1) pe_int (fun _ _ => rfl)) (pe_gi T.c_CALL_SHOT rfl) (nomark _))
        (pss_one (ps_ret (pe_cm c2 T.clF hr (pv 0) (pa_cons (pe_cc cS (hr.mono (by decide)) rfl T.gS (pa_cons (pe_ix ix_list (pv 1) pe_int (fun _ _ => rfl)) (pa_cons (pe_ix ix_list (pv 1) pe_int (fun _ _ => rfl)) (pa_cons (pe_ix ix_list (pv 1) pe_int (fun _ _ => rfl))
          (pa_cons (pe_ix ix_list (pv 1) pe_int (fun _ _ => rfl)) (pa_cons (pe_ix ix_list (pv 1) pe_int (fun _ _ => rfl)) (pa_cons (pe_slice sl_list (pv 1) (po_some pe_int) po_none) pa_nil))))))) pa_nil)))) pss_nil)
      (pss_cons (ps_if (pt_cmpR op_eq (pe_ix ix_list (pv 1) pe_int (fun _ _ => rfl)) (pe_gi T.c_CALL_CHOOSE rfl) (nomark _)) (pss_one (ps_ret (pe_cm c3 T.clF (hr.mono (by decide)) (pv 0) (pa_cons (pe_ix ix_list (pv 1) pe_int (fun _ _ => rfl)) pa_nil)))) pss_nil)
      (pss_cons (ps_if (pt_cmpR op_eq (pe_ix ix_list (pv 1) pe_int (fun _ _ => rfl)) (pe_gi T.c_CALL_ON rfl) (nomark _)) (pss_one (ps_ret (pe_cm0 c4 T.clF (hr.mono (by decide)) (pv 0)))) pss_nil)
      (pss_cons (ps_if (pt_cmpR op_eq (pe_ix ix_list (pv 1) pe_int (fun _ _ => rfl)) (pe_gi T.c_CALL_NOW rfl) (nomark _)) (pss_one (ps_ret (pe_cm0 c5 T.clF (hr.mono (by decide)) (pv 0)))) pss_nil)
      (pss_one (ps_ret (pe_cm0 c6 T.clF (hr.mono (by decide)) (pv 0)))))))), ?_⟩
    obtain ⟨dr, v, hi, _⟩ := ref_ins FA
    cases c with
    | begin_ k n t w =>
      refine ⟨_, rfl, d, _, _, _, rfl, rfl, SqL.of hd, rfl, rfl, _, rfl, iteT ?_⟩
      exact ⟨_, rfl, a, dr, _, rfl, hi, fF_none (by decide +kernel), _, rfl, d, _, _, _, rfl, rfl, SqL.of hd, rfl, _, rfl, d, _, _, _, rfl, rfl, SqL.of hd, rfl, _, rfl, d, _, _, _, rfl, rfl, SqL.of hd, rfl,
        _, rfl, d, _, _, _, rfl, rfl, SqL.of hd, rfl, a, S, o, k, n, t, w, rfl, FA, q⟩
    | shot f cu lo ca pu l =>
      refine ⟨_, rfl, d, _, _, _, rfl, rfl, SqL.of hd, at_of (j := 0) rfl rfl, rfl, _, rfl, iteF ?_⟩
      refine ⟨_, rfl, d, _, _, _, rfl, rfl, SqL.of hd, at_of (j := 0) rfl rfl, rfl, _, rfl, iteT ?_⟩
      refine ⟨_, rfl, a, dr, _, rfl, hi, fF_none (by decide +kernel), _, rfl, d, _, _, _, rfl, rfl, SqL.of hd, at_of (j := 1) rfl rfl, _, rfl, d, _, _, _, rfl, rfl, SqL.of hd, at_of (j := 2) rfl rfl, _, rfl, d, _, _, _, rfl, rfl, SqL.of hd, at_of (j := 3) rfl rfl,
        _, rfl, d, _, _, _, rfl, rfl, SqL.of hd, at_of (j := 4) rfl rfl, _, rfl, d, _, _, _, rfl, rfl, SqL.of hd, at_of (j := 5) rfl rfl, _, rfl, _, rfl, d, _, rfl, SqL.of hd, fun p hp => ?_⟩
      rw [show cutV ((flat (.shot f cu lo ca pu l)).map V.int) (some 7) none = l.map V.int from cut_7]
      intro b dx nb nd ne
      have s1 : Same H (upd H p (.lst (l.map V.int))) := same_upd hp
      have s2 : Same (upd H p (.lst (l.map V.int))) (upd (upd (upd H p (.lst (l.map V.int))) dx (.own b)) b (.ins CS dx [])) := (same_upd nd).trans (same_upd ((upd_ne ne.symm).trans nb))
      refine ⟨b, dx, p, ⟨f, cu, lo, ca, pu, l⟩, rfl, upd_same, s2 _ _ upd_same, fun H2 SA kp => ⟨rfl, ?_⟩⟩
      have s3 : Same H H2 := fun c u e => kp c u (s2 _ _ (s1 _ _ e)) (ne_of_none (s1 _ _ e) nb)
      have out : ∀ c, H c = none → c ∉ S := fun c e m => by
        obtain ⟨u, hu⟩ := ref_live FA c m
        rw [e] at hu
        cases hu
      refine ⟨a, b, p, S, o, ⟨f, cu, lo, ca, pu, l⟩, rfl, ref_same FA s3, hok, SA, out b (s1.free nb), out p hp, hb, fun H3 S3 z F3 st3 nz hz => ?_⟩
      exact q H3 S3 z F3 ((Step.of_same s3).trans st3) (fun c u e m => nz c u (s3 _ _ e) m) hz
    | choose n =>
      refine ⟨_, rfl, d, _, _, _, rfl, rfl, SqL.of hd, rfl, rfl, _, rfl, iteF ?_⟩
      refine ⟨_, rfl, d, _, _, _, rfl, rfl, SqL.of hd, rfl, rfl, _, rfl, iteF ?_⟩
      refine ⟨_, rfl, d, _, _, _, rfl, rfl, SqL.of hd, rfl, rfl, _, rfl, iteT ?_⟩
      exact ⟨_, rfl, a, dr, _, rfl, hi, fF_none (by decide +kernel), _, rfl, d, _, _, _, rfl, rfl, SqL.of hd, rfl, a, S, o, n, rfl, FA, hok, q⟩
    | on =>
      refine ⟨_, rfl, d, _, _, _, rfl, rfl, SqL.of hd, rfl, rfl, _, rfl, iteF ?_⟩
      refine ⟨_, rfl, d, _, _, _, rfl, rfl, SqL.of hd, rfl, rfl, _, rfl, iteF ?_⟩
      refine ⟨_, rfl, d, _, _, _, rfl, rfl, SqL.of hd, rfl, rfl, _, rfl, iteF ?_⟩
      refine ⟨_, rfl, d, _, _, _, rfl, rfl, SqL.of hd, rfl, rfl, _, rfl, iteT ?_⟩
      exact ⟨_, rfl, a, dr, _, rfl, hi, fF_none (by decide +kernel), a, S, o, rfl, FA, hok, q⟩
    | now =>
      refine ⟨_, rfl, d, _, _, _, rfl, rfl, SqL.of hd, rfl, rfl, _, rfl, iteF ?_⟩
      refine ⟨_, rfl, d, _, _, _, rfl, rfl, SqL.of hd, rfl, rfl, _, rfl, iteF ?_⟩
      refine ⟨_, rfl, d, _, _, _, rfl, rfl, SqL.of hd, rfl, rfl, _, rfl, iteF ?_⟩
      refine ⟨_, rfl, d, _, _, _, rfl, rfl, SqL.of hd, rfl, rfl, _, rfl, iteF ?_⟩
      refine ⟨_, rfl, d, _, _, _, rfl, rfl, SqL.of hd, rfl, rfl, _, rfl, iteT ?_⟩
      exact ⟨_, rfl, a, dr, _, rfl, hi, fF_none (by decide +kernel), a, S, o, rfl, FA, hok, q⟩
    | table =>
      refine ⟨_, rfl, d, _, _, _, rfl, rfl, SqL.of hd, rfl, rfl, _, rfl, iteF ?_⟩
      refine ⟨_, rfl, d, _, _, _, rfl, rfl, SqL.of hd, rfl, rfl, _, rfl, iteF ?_⟩
      refine ⟨_, rfl, d, _, _, _, rfl, rfl, SqL.of hd, rfl, rfl, _, rfl, iteF ?_⟩
      refine ⟨_, rfl, d, _, _, _, rfl, rfl, SqL.of hd, rfl, rfl, _, rfl, iteF ?_⟩
      refine ⟨_, rfl, d, _, _, _, rfl, rfl, SqL.of hd, rfl, rfl, _, rfl, iteF ?_⟩
      exact ⟨_, rfl, a, dr, _, rfl, hi, fF_none (by decide +kernel), a, S, o, rfl, FA, hok, q⟩
end
section
variable {P : Program} {w : World} {K : PySem.W.Frag} {mg : Str → Option Value} {base : Heap} {CS CR CF : Addr}
abbrev sAns : Stmt := top 55
abbrev nAns : List Str := ["calls", "referee", "told", "start", "end", "answer"]
theorem scAns : FnScope nAns ["calls"] (defScope sAns) := ⟨rfl, rfl, rfl, by decide +kernel, rfl, by decide +kernel, by decide +kernel⟩
def spAns (K : PySem.W.Frag) : Sp := fun vs H Q _ => ∃ (a : Addr) (ns : List Int), vs = [.ref a] ∧ SqL K H a (ns.map V.int) ∧ PyKg78.answers_asked ns = true ∧
  ∀ (H' : Hp) (p : Addr), H' p = some (.lst ((PyKg78.answers ns).map V.int)) → Q (.ref p) H'
theorem flat_ne (c : Kg78.Call) : flat c ≠ [] := by cases c <;> exact fun z => by cases z
theorem outs_cons (o : Option R) (c : Kg78.Call) (r : List Kg78.Call) : outs o (c :: r) = ((step o c).2.length : Int) :: (step o c).2 ++ outs (step o c).1 r := rfl
theorem ref_other {H : Hp} {a c : Addr} {S : List Addr} {o : Option R} {u : HO} (h : RefAt CF CR H a S o) (n : c ∉ S) : RefAt CF CR (upd H c u) a S o := by
  cases h with
  | none dx e => exact .none dx ((upd_ne (fun z => n (by rw [← z]; exact List.mem_cons_self))).trans e)
  | some dx b f r e q => exact .some dx b f r ((upd_ne (fun z => n (by rw [← z]; exact List.mem_cons_self))).trans e) (q.other fun z => n (List.mem_cons_of_mem _ z))
def muA (n : Nat) : L2.St → Hp → Nat
  | [_, _, _, some (.int i), _, _], _ => n - i.toNat
  | _, _ => 0
theorem ok_ans {f : Addr} {fd : FuncData} (F : Fun K "answers" "answers" sAns f fd) (T : Txt K mg CS CR CF) (cF : CalC P w K mg base CF 1 ["self"] (spFI CF)) (cE : CalF P w K mg base "call_end" 1 ["calls", "start"] (spCE K)) (cA : CalF P w K mg base "answer_call" 6 ["referee", "call"] (spAC CF CR)) :
    FnOk P w K mg base CX0 7 f fd ["calls"] (spAns K) := by
  refine F.ok scAns (fun vs H Q E h => ?_) (fun cdv A outer s H vs Q E hr h => ?_)
  · obtain ⟨a, ns, rfl, _⟩ := h
    rfl
  · obtain ⟨a, ns, rfl, hS, hask, q⟩ := h
    have hr1 := hr.mono (show 1 ≤ 6 by decide)
    obtain ⟨cs, hflat, hbd, hans, hlen⟩ := asked_calls hask
    rw [hans] at q
    refine ⟨_, pss_cons (ps_set (i := 1) scAns.nd rfl (Or.inl rfl) (pe_cc0 cF (hr.mono (by decide)) rfl T.gF))
      (pss_cons (ps_set (i := 2) scAns.nd rfl (Or.inl rfl) (pe_lst pa_nil))
      (pss_cons (ps_set (i := 3) scAns.nd rfl (Or.inl rfl) pe_int)
      (pss_cons (ps_while PassesOwn.never (pt_cmpR op_lt (pv 3) (pe_callB call_len_seq (by rfl) T.b_len PySem.boot_len (pa_cons (pv 0) pa_nil)) (nomark _))
        (pss_cons (ps_set (i := 4) scAns.nd rfl (Or.inl rfl) (pe_cf cE hr1 rfl (pa_cons (pv 0) (pa_cons (pv 3) pa_nil))))
        (pss_cons (ps_set (i := 5) scAns.nd rfl (Or.inl rfl) (pe_cf cA hr rfl (pa_cons (pv 1) (pa_cons (pe_slice sl_list (pv 0) (po_some (pv 3)) (po_some (pv 4))) pa_nil))))
        (pss_cons (ps_expr (pe_bm PySem.F.plainAttrs_list PySem.F.slot_list_append PySem.F.type_list_append mt_append (pv 2) (pa_cons (pe_callB call_len_seq (by rfl) T.b_len PySem.boot_len (pa_cons (pv 5) pa_nil)) pa_nil)))
        (pss_cons (ps_expr (pe_bm PySem.F.plainAttrs_list PySem.F.slot_list_extend PySem.F.type_list_extend mt_extend (pv 2) (pa_cons (pv 5) pa_nil)))
        (pss_one (ps_set (i := 3) scAns.nd rfl (Or.inl rfl) (pv 4))))))))
      (pss_one (ps_ret (pv 2)))))), ?_⟩
    intro x dx nx nd ne
    have nx1 : upd H dx (.own x) x = none := (upd_ne ne.symm).trans nx
    have s1 : Same H (upd (upd H dx (.own x)) x (.ins CF dx [])) := (same_upd nd).trans (same_upd nx1)
    refine ⟨x, dx, rfl, upd_same, rfl, ?_⟩
    rw [upd_upd]
    have s2 : Same H (upd (upd H dx (.own x)) x (.ins CF dx (fF .non))) := (same_upd nd).trans (same_upd nx1)
    have F0 : RefAt CF CR (upd (upd H dx (.own x)) x (.ins CF dx (fF .non))) x [x] none := .none dx upd_same
    generalize upd (upd H dx (.own x)) x (.ins CF dx (fF .non)) = H1 at s2 F0 ⊢
    refine ⟨(by show 0 ≤ sizeLine; decide), fun t ht => ?_⟩
    have st := same_upd (o := .lst []) ht
    have nt : t ∉ [x] := fun z => by
      rcases List.mem_cons.mp z with z | z
      · obtain ⟨u, hu⟩ := ref_live F0 x List.mem_cons_self
        rw [z] at ht
        rw [ht] at hu
        cases hu
      · cases z
    refine while_by (fun σ H' => ∃ (i : Nat) (v4 v5 : Option V) (S : List Addr) (o : Option R) (tl : List Int) (rest : List Kg78.Call), σ = [some (.ref a), some (.ref x), some (.ref t), some (num i), v4, v5] ∧
        Same H H' ∧ (∀ b ∈ S, H b = none) ∧ RefAt CF CR H' x S o ∧ OkO o ∧ t ∉ S ∧ H t = none ∧ H' t = some (.lst (tl.map V.int)) ∧ ns.drop i = rest.flatMap flat ∧ i ≤ ns.length ∧ (∀ c ∈ rest, Bd c) ∧ tl ++ outs o rest = outs none cs) (muA ns.length)
      ⟨0, none, none, [x], none, [], cs, rfl, s2.trans st, fun b m => ?_, ref_same F0 st, trivial, nt, s2.free ht, upd_same, hflat, Nat.zero_le _, hbd, rfl⟩ ?_ ?_
    · rcases List.mem_cons.mp m with z | z
      · rw [z]; exact nx
      · cases z
    · rintro σ H2 ⟨i, v4, v5, S, o, tl, rest, rfl, sm, hS0, FA, hok, htS, ht0, hT, hdrop, hi, hb, hout⟩
      refine ⟨_, rfl, _, rfl, a, _, rfl, .inl (sm.seq hS), _, _, rfl, rfl, _, rfl, ?_⟩
      rw [List.length_map]
      refine ifC (fun c => ?_) fun c => ?_
      · have hlt : i < ns.length := by
          have := of_decide_eq_true c
          omega
        cases rest with
        | nil =>
          rw [List.flatMap_nil, List.drop_eq_nil_iff] at hdrop
          omega
        | cons k rest =>
        rw [List.flatMap_cons] at hdrop
        have hk : i + (flat k).length ≤ ns.length := by
          have := congrArg List.length hdrop
          rw [List.length_drop, List.length_append] at this
          omega
        have hkpos : 0 < (flat k).length := List.length_pos_iff.mpr (flat_ne k)
        refine ⟨_, rfl, _, rfl, a, ns, i, k, rest.flatMap flat, rfl, sm.seq hS, hdrop, ?_⟩
        refine ⟨_, rfl, _, rfl, _, rfl, _, rfl, _, rfl, _, rfl, a, _, rfl, sm.seq hS, fun d hd => ?_⟩
        rw [cut_seg hdrop (flat_ne k)]
        have sd := same_upd (o := .lst ((flat k).map V.int)) hd
        refine ⟨x, d, S, o, k, rfl, ref_same FA sd, hok, upd_same, hb k List.mem_cons_self, fun H3 S3 p F3 s3 np hp => ?_⟩
        have hT3 : H3 t = some (.lst (tl.map V.int)) := s3.keep _ _ (sd _ _ hT) htS
        have htS3 := s3.out (sd _ _ hT) htS
        have ntp : t ≠ p := np t _ (sd _ _ hT) htS
        have hS3 : ∀ b ∈ S3, H b = none := fun b m => by
          rcases s3.new b m with z | z
          · exact hS0 b z
          · exact (sm.trans sd).free z
        have sm3 : Same H H3 := fun b u e => s3.keep _ _ (sd _ _ (sm _ _ e)) fun z => by
          rw [hS0 b z] at e
          cases e
        have hL : tl.length + 1 + (step o k).2.length ≤ 10000000 := by
          rw [← hout, outs_cons] at hlen
          simp only [List.length_append, List.length_cons] at hlen
          omega
        have hL2 : (10000000 : Nat) < sizeLine := by rw [sizeLine_eq]; decide
        -- told.append(len(answer))
        refine ⟨_, rfl, .inl ⟨rfl, _, SqL.of hT3⟩, _, rfl, p, _, rfl, .inl (SqL.of hp), t, _, _, rfl, rfl, hT3, by rw [List.length_map]; omega, ?_⟩
        -- told.extend(answer)
        refine ⟨_, rfl, .inl ⟨rfl, _, SqL.of upd_same⟩, _, rfl, t, p, _, _, rfl, rfl, upd_same, (upd_ne ntp.symm).trans hp, ?_, ?_⟩
        · rw [List.length_append, List.length_map, List.length_map]
          show tl.length + 1 + (step o k).2.length ≤ sizeLine
          omega
        rw [upd_upd]
        refine ⟨_, rfl, ⟨i + (flat k).length, _, _, S3, (step o k).1, tl ++ ((step o k).2.length : Int) :: (step o k).2, rest, rfl, fun b u e => ?_, hS3, ?_, step_ok hok k, htS3, ht0, ?_, ?_, hk, fun c m => hb c (List.mem_cons_of_mem _ m), ?_⟩, ?_⟩
        · rw [upd_ne (fun z => by rw [z] at e; rw [e] at ht0; cases ht0)]
          exact sm3 _ _ e
        · exact ref_other F3 htS3
        · rw [upd_same, List.length_map, List.map_append, List.map_cons, List.append_assoc]
          rfl
        · rw [← List.drop_drop, hdrop, List.drop_left]
        · rw [List.append_assoc]
          exact hout
        · show ns.length - ((i + (flat k).length : Nat) : Int).toNat < ns.length - ((i : Nat) : Int).toNat
          omega
      · have hge : ns.length ≤ i := by
          have := of_decide_eq_false c
          omega
        have er : rest = [] := by
          cases rest with
          | nil => rfl
          | cons k rest =>
            rw [List.drop_eq_nil_of_le hge, List.flatMap_cons] at hdrop
            exact absurd (List.append_eq_nil_iff.mp hdrop.symm).1 (flat_ne k)
        subst er
        have : tl = outs none cs := by
          rw [← hout]
          exact (List.append_nil tl).symm
        refine ⟨_, rfl, ?_⟩
        rw [this] at hT
        exact q H2 t hT
    · rintro σ H' Q1 Q2 himp ⟨v, hv, v0, h0, p, ys, e1, e2, i, j, e3, e4, k, e5, h5⟩
      exact ⟨v, hv, v0, h0, p, ys, e1, e2, i, j, e3, e4, k, e5, himp _ _ h5⟩
end
theorem all_mk {P : Program} {w : World} {K : PySem.W.Frag} {h : Heap} {mg : Str → Option Value} {fa CS CR CF pL fwk ffo fra ftk fpl fps fle fen fsd fde fgr fr8 fgi fs8 fgb fgp fr9 ff9 fs9 fgf fpb frb fsr fch flk fgo fnu fft fmb fbe fts fho fon fno ftb fcc fri fco fce fac fan fiS fiR fiF : Addr} (X : K.In h) (G : h.Ns mainGlobals mg) (hfa : mg "answers" = some (.ref fa))
    {odwk anwk odfo anfo odra anra odtk antk odpl anpl odps anps odle anle oden anen odsd ansd odde ande odgr angr odr8 anr8 odgi angi ods8 ans8 odgb angb odgp angp odr9 anr9 odf9 anf9 ods9 ans9 odgf angf odpb anpb odrb anrb odsr ansr odch anch odlk anlk odgo ango odnu annu odft anft odmb anmb odbe anbe odts ants odho anho odon anon odno anno odtb antb odcc ancc odri anri odco anco odce ance odac anac odan anan odiS aniS odiR aniR odiF aniF : Option Addr} {slwk slfo slra sltk slpl slps slle slen slsd slde slgr slr8 slgi sls8 slgb slgp slr9 slf9 sls9 slgf slpb slrb slsr slch sllk slgo slnu slft slmb slbe slts slho slon slno sltb slcc slri slco slce slac slan sliS sliR sliF : Array (Option Value)} {ocwk kVwk dcwk pmwk cdwk ctwk ocfo kVfo dcfo pmfo cdfo ctfo ocra kVra dcra pmra cdra ctra octk kVtk dctk pmtk cdtk cttk ocpl kVpl dcpl pmpl cdpl ctpl ocps kVps dcps pmps cdps ctps ocle kVle dcle pmle cdle ctle ocen kVen dcen pmen cden cten ocsd kVsd dcsd pmsd cdsd ctsd ocde kVde dcde pmde cdde ctde ocgr kVgr dcgr pmgr cdgr ctgr ocr8 kVr8 dcr8 pmr8 cdr8 ctr8 ocgi kVgi dcgi pmgi cdgi ctgi ocs8 kVs8 dcs8 pms8 cds8 cts8 ocgb kVgb dcgb pmgb cdgb ctgb ocgp kVgp dcgp pmgp cdgp ctgp ocr9 kVr9 dcr9 pmr9 cdr9 ctr9 ocf9 kVf9 dcf9 pmf9 cdf9 ctf9 ocs9 kVs9 dcs9 pms9 cds9 cts9 ocgf kVgf dcgf pmgf cdgf ctgf ocpb kVpb dcpb pmpb cdpb ctpb ocrb kVrb dcrb pmrb cdrb ctrb ocsr kVsr dcsr pmsr cdsr ctsr occh kVch dcch pmch cdch ctch oclk kVlk dclk pmlk cdlk ctlk ocgo kVgo dcgo pmgo cdgo ctgo ocnu kVnu dcnu pmnu cdnu ctnu ocft kVft dcft pmft cdft ctft ocmb kVmb dcmb pmmb cdmb ctmb ocbe kVbe dcbe pmbe cdbe ctbe octs kVts dcts pmts cdts ctts ocho kVho dcho pmho cdho ctho ocon kVon dcon pmon cdon cton ocno kVno dcno pmno cdno ctno octb kVtb dctb pmtb cdtb cttb occc kVcc dccc pmcc cdcc ctcc ocri kVri dcri pmri cdri ctri occo kVco dcco pmco cdco ctco occe kVce dcce pmce cdce ctce ocac kVac dcac pmac cdac ctac ocan kVan dcan pman cdan ctan ociS kViS dciS pmiS cdiS ctiS ociR kViR dciR pmiR cdiR ctiR ociF kViF dciF pmiF cdiF ctiF : Value} {esL : Array DictEntry} {nL : Nat} {t0 t1 t2 t3 t4 t5 t6 t7 t8 t9 t10 t11 t12 t13 t14 t15 t16 t17 t18 : Tok}
    (aSc : PySem.W.nsIn K mainGlobals "Shot" = some (some (.ref CS)))
    (pgS : PySem.W.plainGet K CS Str.empty = true)
    (hdS : PySem.W.hasDictIn K CS = true)
    (poS : PySem.W.plainOver K CS = true)
    (saS : PySem.W.findIn K (.ref CS) "__setattr__" = some (some (.builtin "object.__setattr__")))
    (mkS : PySem.W.makesIn K CS = true)
    (kcS : PySem.W.keepIn K (.ref CS) = true)
    (aRc : PySem.W.nsIn K mainGlobals "RaceState" = some (some (.ref CR)))
    (pgR : PySem.W.plainGet K CR Str.empty = true)
    (hdR : PySem.W.hasDictIn K CR = true)
    (poR : PySem.W.plainOver K CR = true)
    (saR : PySem.W.findIn K (.ref CR) "__setattr__" = some (some (.builtin "object.__setattr__")))
    (mkR : PySem.W.makesIn K CR = true)
    (kcR : PySem.W.keepIn K (.ref CR) = true)
    (aFc : PySem.W.nsIn K mainGlobals "Referee" = some (some (.ref CF)))
    (pgF : PySem.W.plainGet K CF Str.empty = true)
    (hdF : PySem.W.hasDictIn K CF = true)
    (poF : PySem.W.plainOver K CF = true)
    (saF : PySem.W.findIn K (.ref CF) "__setattr__" = some (some (.builtin "object.__setattr__")))
    (mkF : PySem.W.makesIn K CF = true)
    (kcF : PySem.W.keepIn K (.ref CF) = true)
    (nSfirst : PySem.W.findIn K (.ref CS) "first" = some none)
    (nScushions : PySem.W.findIn K (.ref CS) "cushions" = some none)
    (nSlost : PySem.W.findIn K (.ref CS) "lost" = some none)
    (nScalled : PySem.W.findIn K (.ref CS) "called" = some none)
    (nSpush : PySem.W.findIn K (.ref CS) "push" = some none)
    (nSpotted : PySem.W.findIn K (.ref CS) "potted" = some none)
    (nRgame : PySem.W.findIn K (.ref CR) "game" = some none)
    (nRgoal : PySem.W.findIn K (.ref CR) "goal" = some none)
    (nRby_turns : PySem.W.findIn K (.ref CR) "by_turns" = some none)
    (nRwon : PySem.W.findIn K (.ref CR) "won" = some none)
    (nRover : PySem.W.findIn K (.ref CR) "over" = some none)
    (nRbreaker : PySem.W.findIn K (.ref CR) "breaker" = some none)
    (nRturn : PySem.W.findIn K (.ref CR) "turn" = some none)
    (nRphase : PySem.W.findIn K (.ref CR) "phase" = some none)
    (nRin_hand : PySem.W.findIn K (.ref CR) "in_hand" = some none)
    (nRballs : PySem.W.findIn K (.ref CR) "balls" = some none)
    (nRgroups : PySem.W.findIn K (.ref CR) "groups" = some none)
    (nRfouls : PySem.W.findIn K (.ref CR) "fouls" = some none)
    (nRchoice_of_push : PySem.W.findIn K (.ref CR) "choice_of_push" = some none)
    (nFrace : PySem.W.findIn K (.ref CF) "race" = some none)
    (kEIGHT_BALL : PySem.W.nsIn K mainGlobals "EIGHT_BALL" = some (some (.int 8 t0)))
    (kNINE_BALL : PySem.W.nsIn K mainGlobals "NINE_BALL" = some (some (.int 9 t1)))
    (kPHASE_BREAK : PySem.W.nsIn K mainGlobals "PHASE_BREAK" = some (some (.int 0 t2)))
    (kPHASE_BEHIND_BREAK : PySem.W.nsIn K mainGlobals "PHASE_BEHIND_BREAK" = some (some (.int 1 t3)))
    (kPHASE_PLAY : PySem.W.nsIn K mainGlobals "PHASE_PLAY" = some (some (.int 2 t4)))
    (kPHASE_CHOICE : PySem.W.nsIn K mainGlobals "PHASE_CHOICE" = some (some (.int 3 t5)))
    (kNO_GROUP : PySem.W.nsIn K mainGlobals "NO_GROUP" = some (some (.int 0 t6)))
    (kLOW : PySem.W.nsIn K mainGlobals "LOW" = some (some (.int 1 t7)))
    (kHIGH : PySem.W.nsIn K mainGlobals "HIGH" = some (some (.int 2 t8)))
    (kANSWER_FAIR : PySem.W.nsIn K mainGlobals "ANSWER_FAIR" = some (some (.int 0 t9)))
    (kANSWER_FOUL : PySem.W.nsIn K mainGlobals "ANSWER_FOUL" = some (some (.int 1 t10)))
    (kANSWER_WON_BY_FIRST_SIDE : PySem.W.nsIn K mainGlobals "ANSWER_WON_BY_FIRST_SIDE" = some (some (.int 2 t11)))
    (kEIGHT : PySem.W.nsIn K mainGlobals "EIGHT" = some (some (.int 8 t12)))
    (kNINE : PySem.W.nsIn K mainGlobals "NINE" = some (some (.int 9 t13)))
    (kCALL_BEGIN : PySem.W.nsIn K mainGlobals "CALL_BEGIN" = some (some (.int 1 t14)))
    (kCALL_SHOT : PySem.W.nsIn K mainGlobals "CALL_SHOT" = some (some (.int 2 t15)))
    (kCALL_CHOOSE : PySem.W.nsIn K mainGlobals "CALL_CHOOSE" = some (some (.int 3 t16)))
    (kCALL_ON : PySem.W.nsIn K mainGlobals "CALL_ON" = some (some (.int 4 t17)))
    (kCALL_NOW : PySem.W.nsIn K mainGlobals "CALL_NOW" = some (some (.int 5 t18)))
    (blen : PySem.W.nsIn K mainGlobals "len" = some none)
    (brange : PySem.W.nsIn K mainGlobals "range" = some none)
    (blist : PySem.W.nsIn K mainGlobals "list" = some none)
    (bmin : PySem.W.nsIn K mainGlobals "min" = some none)
    (ball : PySem.W.nsIn K mainGlobals "all" = some none)
    (aL : PySem.W.nsIn K mainGlobals "CALL_LENGTHS" = some (some (.ref pL)))
    (lL : K.lookup pL = some ⟨.type "dict", none, .dict esL nL, #[]⟩)
    (oL : kiOk esL.toList = true)
    (g1L : kiGet esL.toList 1 = some 5)
    (g3L : kiGet esL.toList 3 = some 2)
    (g4L : kiGet esL.toList 4 = some 1)
    (g5L : kiGet esL.toList 5 = some 1)
    (g6L : kiGet esL.toList 6 = some 1)
    (awk : PySem.W.nsIn K mainGlobals "is_weak_break" = some (some (.ref fwk)))
    (lwk : K.lookup fwk = some ⟨ocwk, odwk, .func (PySem.W.fnOf "is_weak_break" "is_weak_break" (defArgs sWeak) (defBody sWeak) (defScope sWeak) .none kVwk dcwk pmwk anwk cdwk ctwk), slwk⟩)
    (cwk : PySem.W.codeIn K cdwk "is_weak_break" = true)
    (kwk : PySem.W.keepIn K (.ref fwk) = true)
    (afo : PySem.W.nsIn K mainGlobals "is_common_foul" = some (some (.ref ffo)))
    (lfo : K.lookup ffo = some ⟨ocfo, odfo, .func (PySem.W.fnOf "is_common_foul" "is_common_foul" (defArgs sFoul) (defBody sFoul) (defScope sFoul) .none kVfo dcfo pmfo anfo cdfo ctfo), slfo⟩)
    (cfo : PySem.W.codeIn K cdfo "is_common_foul" = true)
    (kfo : PySem.W.keepIn K (.ref ffo) = true)
    (ara : PySem.W.findIn K (.ref CR) "begin_rack" = some (some (.ref fra)))
    (ira : PySem.W.isFn K (.ref fra) = true)
    (lra : K.lookup fra = some ⟨ocra, odra, .func (PySem.W.fnOf "begin_rack" "RaceState.begin_rack" (defArgs sRack) (defBody sRack) (defScope sRack) .none kVra dcra pmra anra cdra ctra), slra⟩)
    (cra : PySem.W.codeIn K cdra "RaceState.begin_rack" = true)
    (kra : PySem.W.keepIn K (.ref fra) = true)
    (atk : PySem.W.findIn K (.ref CR) "take_off" = some (some (.ref ftk)))
    (itk : PySem.W.isFn K (.ref ftk) = true)
    (ltk : K.lookup ftk = some ⟨octk, odtk, .func (PySem.W.fnOf "take_off" "RaceState.take_off" (defArgs sTake) (defBody sTake) (defScope sTake) .none kVtk dctk pmtk antk cdtk cttk), sltk⟩)
    (ctk : PySem.W.codeIn K cdtk "RaceState.take_off" = true)
    (ktk : PySem.W.keepIn K (.ref ftk) = true)
    (apl : PySem.W.findIn K (.ref CR) "play_on" = some (some (.ref fpl)))
    (ipl : PySem.W.isFn K (.ref fpl) = true)
    (lpl : K.lookup fpl = some ⟨ocpl, odpl, .func (PySem.W.fnOf "play_on" "RaceState.play_on" (defArgs sPlay) (defBody sPlay) (defScope sPlay) .none kVpl dcpl pmpl anpl cdpl ctpl), slpl⟩)
    (cpl : PySem.W.codeIn K cdpl "RaceState.play_on" = true)
    (kpl : PySem.W.keepIn K (.ref fpl) = true)
    (aps : PySem.W.findIn K (.ref CR) "pass_turn" = some (some (.ref fps)))
    (ips : PySem.W.isFn K (.ref fps) = true)
    (lps : K.lookup fps = some ⟨ocps, odps, .func (PySem.W.fnOf "pass_turn" "RaceState.pass_turn" (defArgs sPass) (defBody sPass) (defScope sPass) .none kVps dcps pmps anps cdps ctps), slps⟩)
    (cps : PySem.W.codeIn K cdps "RaceState.pass_turn" = true)
    (kps : PySem.W.keepIn K (.ref fps) = true)
    (ale : PySem.W.findIn K (.ref CR) "let_other_choose" = some (some (.ref fle)))
    (ile : PySem.W.isFn K (.ref fle) = true)
    (lle : K.lookup fle = some ⟨ocle, odle, .func (PySem.W.fnOf "let_other_choose" "RaceState.let_other_choose" (defArgs sLet) (defBody sLet) (defScope sLet) .none kVle dcle pmle anle cdle ctle), slle⟩)
    (cle : PySem.W.codeIn K cdle "RaceState.let_other_choose" = true)
    (kle : PySem.W.keepIn K (.ref fle) = true)
    (aen : PySem.W.findIn K (.ref CR) "end_rack" = some (some (.ref fen)))
    (ien : PySem.W.isFn K (.ref fen) = true)
    (len : K.lookup fen = some ⟨ocen, oden, .func (PySem.W.fnOf "end_rack" "RaceState.end_rack" (defArgs sEnd) (defBody sEnd) (defScope sEnd) .none kVen dcen pmen anen cden cten), slen⟩)
    (cen : PySem.W.codeIn K cden "RaceState.end_rack" = true)
    (ken : PySem.W.keepIn K (.ref fen) = true)
    (asd : PySem.W.findIn K (.ref CR) "standing" = some (some (.ref fsd)))
    (isd : PySem.W.isFn K (.ref fsd) = true)
    (lsd : K.lookup fsd = some ⟨ocsd, odsd, .func (PySem.W.fnOf "standing" "RaceState.standing" (defArgs sStand) (defBody sStand) (defScope sStand) .none kVsd dcsd pmsd ansd cdsd ctsd), slsd⟩)
    (csd : PySem.W.codeIn K cdsd "RaceState.standing" = true)
    (ksd : PySem.W.keepIn K (.ref fsd) = true)
    (ade : PySem.W.findIn K (.ref CR) "rack_details" = some (some (.ref fde)))
    (ide : PySem.W.isFn K (.ref fde) = true)
    (lde : K.lookup fde = some ⟨ocde, odde, .func (PySem.W.fnOf "rack_details" "RaceState.rack_details" (defArgs sDet) (defBody sDet) (defScope sDet) .none kVde dcde pmde ande cdde ctde), slde⟩)
    (cde : PySem.W.codeIn K cdde "RaceState.rack_details" = true)
    (kde : PySem.W.keepIn K (.ref fde) = true)
    (agr : PySem.W.nsIn K mainGlobals "group_of" = some (some (.ref fgr)))
    (lgr : K.lookup fgr = some ⟨ocgr, odgr, .func (PySem.W.fnOf "group_of" "group_of" (defArgs sGrp) (defBody sGrp) (defScope sGrp) .none kVgr dcgr pmgr angr cdgr ctgr), slgr⟩)
    (cgr : PySem.W.codeIn K cdgr "group_of" = true)
    (kgr : PySem.W.keepIn K (.ref fgr) = true)
    (ar8 : PySem.W.nsIn K mainGlobals "right_balls_of_eight" = some (some (.ref fr8)))
    (lr8 : K.lookup fr8 = some ⟨ocr8, odr8, .func (PySem.W.fnOf "right_balls_of_eight" "right_balls_of_eight" (defArgs sR8) (defBody sR8) (defScope sR8) .none kVr8 dcr8 pmr8 anr8 cdr8 ctr8), slr8⟩)
    (cr8 : PySem.W.codeIn K cdr8 "right_balls_of_eight" = true)
    (kr8 : PySem.W.keepIn K (.ref fr8) = true)
    (agi : PySem.W.nsIn K mainGlobals "give_group" = some (some (.ref fgi)))
    (lgi : K.lookup fgi = some ⟨ocgi, odgi, .func (PySem.W.fnOf "give_group" "give_group" (defArgs sGive) (defBody sGive) (defScope sGive) .none kVgi dcgi pmgi angi cdgi ctgi), slgi⟩)
    (cgi : PySem.W.codeIn K cdgi "give_group" = true)
    (kgi : PySem.W.keepIn K (.ref fgi) = true)
    (as8 : PySem.W.nsIn K mainGlobals "take_shot_of_eight" = some (some (.ref fs8)))
    (ls8 : K.lookup fs8 = some ⟨ocs8, ods8, .func (PySem.W.fnOf "take_shot_of_eight" "take_shot_of_eight" (defArgs sS8) (defBody sS8) (defScope sS8) .none kVs8 dcs8 pms8 ans8 cds8 cts8), sls8⟩)
    (cs8 : PySem.W.codeIn K cds8 "take_shot_of_eight" = true)
    (ks8 : PySem.W.keepIn K (.ref fs8) = true)
    (agb : PySem.W.nsIn K mainGlobals "go_on_behind_break" = some (some (.ref fgb)))
    (lgb : K.lookup fgb = some ⟨ocgb, odgb, .func (PySem.W.fnOf "go_on_behind_break" "go_on_behind_break" (defArgs sGB) (defBody sGB) (defScope sGB) .none kVgb dcgb pmgb angb cdgb ctgb), slgb⟩)
    (cgb : PySem.W.codeIn K cdgb "go_on_behind_break" = true)
    (kgb : PySem.W.keepIn K (.ref fgb) = true)
    (agp : PySem.W.nsIn K mainGlobals "go_on_in_play" = some (some (.ref fgp)))
    (lgp : K.lookup fgp = some ⟨ocgp, odgp, .func (PySem.W.fnOf "go_on_in_play" "go_on_in_play" (defArgs sGP) (defBody sGP) (defScope sGP) .none kVgp dcgp pmgp angp cdgp ctgp), slgp⟩)
    (cgp : PySem.W.codeIn K cdgp "go_on_in_play" = true)
    (kgp : PySem.W.keepIn K (.ref fgp) = true)
    (ar9 : PySem.W.nsIn K mainGlobals "right_balls_of_nine" = some (some (.ref fr9)))
    (lr9 : K.lookup fr9 = some ⟨ocr9, odr9, .func (PySem.W.fnOf "right_balls_of_nine" "right_balls_of_nine" (defArgs sR9) (defBody sR9) (defScope sR9) .none kVr9 dcr9 pmr9 anr9 cdr9 ctr9), slr9⟩)
    (cr9 : PySem.W.codeIn K cdr9 "right_balls_of_nine" = true)
    (kr9 : PySem.W.keepIn K (.ref fr9) = true)
    (af9 : PySem.W.nsIn K mainGlobals "is_foul_of_nine" = some (some (.ref ff9)))
    (lf9 : K.lookup ff9 = some ⟨ocf9, odf9, .func (PySem.W.fnOf "is_foul_of_nine" "is_foul_of_nine" (defArgs sF9) (defBody sF9) (defScope sF9) .none kVf9 dcf9 pmf9 anf9 cdf9 ctf9), slf9⟩)
    (cf9 : PySem.W.codeIn K cdf9 "is_foul_of_nine" = true)
    (kf9 : PySem.W.keepIn K (.ref ff9) = true)
    (as9 : PySem.W.nsIn K mainGlobals "take_shot_of_nine" = some (some (.ref fs9)))
    (ls9 : K.lookup fs9 = some ⟨ocs9, ods9, .func (PySem.W.fnOf "take_shot_of_nine" "take_shot_of_nine" (defArgs sS9) (defBody sS9) (defScope sS9) .none kVs9 dcs9 pms9 ans9 cds9 cts9), sls9⟩)
    (cs9 : PySem.W.codeIn K cds9 "take_shot_of_nine" = true)
    (ks9 : PySem.W.keepIn K (.ref fs9) = true)
    (agf : PySem.W.nsIn K mainGlobals "go_on_behind_foul" = some (some (.ref fgf)))
    (lgf : K.lookup fgf = some ⟨ocgf, odgf, .func (PySem.W.fnOf "go_on_behind_foul" "go_on_behind_foul" (defArgs sGF) (defBody sGF) (defScope sGF) .none kVgf dcgf pmgf angf cdgf ctgf), slgf⟩)
    (cgf : PySem.W.codeIn K cdgf "go_on_behind_foul" = true)
    (kgf : PySem.W.keepIn K (.ref fgf) = true)
    (apb : PySem.W.nsIn K mainGlobals "phase_behind" = some (some (.ref fpb)))
    (lpb : K.lookup fpb = some ⟨ocpb, odpb, .func (PySem.W.fnOf "phase_behind" "phase_behind" (defArgs sPB) (defBody sPB) (defScope sPB) .none kVpb dcpb pmpb anpb cdpb ctpb), slpb⟩)
    (cpb : PySem.W.codeIn K cdpb "phase_behind" = true)
    (kpb : PySem.W.keepIn K (.ref fpb) = true)
    (arb : PySem.W.nsIn K mainGlobals "begin_refusal" = some (some (.ref frb)))
    (lrb : K.lookup frb = some ⟨ocrb, odrb, .func (PySem.W.fnOf "begin_refusal" "begin_refusal" (defArgs sRB) (defBody sRB) (defScope sRB) .none kVrb dcrb pmrb anrb cdrb ctrb), slrb⟩)
    (crb : PySem.W.codeIn K cdrb "begin_refusal" = true)
    (krb : PySem.W.keepIn K (.ref frb) = true)
    (asr : PySem.W.nsIn K mainGlobals "shot_refusal" = some (some (.ref fsr)))
    (lsr : K.lookup fsr = some ⟨ocsr, odsr, .func (PySem.W.fnOf "shot_refusal" "shot_refusal" (defArgs sSR) (defBody sSR) (defScope sSR) .none kVsr dcsr pmsr ansr cdsr ctsr), slsr⟩)
    (csr : PySem.W.codeIn K cdsr "shot_refusal" = true)
    (ksr : PySem.W.keepIn K (.ref fsr) = true)
    (ach : PySem.W.nsIn K mainGlobals "choose_refusal" = some (some (.ref fch)))
    (lch : K.lookup fch = some ⟨occh, odch, .func (PySem.W.fnOf "choose_refusal" "choose_refusal" (defArgs sCh) (defBody sCh) (defScope sCh) .none kVch dcch pmch anch cdch ctch), slch⟩)
    (cch : PySem.W.codeIn K cdch "choose_refusal" = true)
    (kch : PySem.W.keepIn K (.ref fch) = true)
    (alk : PySem.W.nsIn K mainGlobals "look_refusal" = some (some (.ref flk)))
    (llk : K.lookup flk = some ⟨oclk, odlk, .func (PySem.W.fnOf "look_refusal" "look_refusal" (defArgs sLk) (defBody sLk) (defScope sLk) .none kVlk dclk pmlk anlk cdlk ctlk), sllk⟩)
    (clk : PySem.W.codeIn K cdlk "look_refusal" = true)
    (klk : PySem.W.keepIn K (.ref flk) = true)
    (ago : PySem.W.nsIn K mainGlobals "goes_on" = some (some (.ref fgo)))
    (lgo : K.lookup fgo = some ⟨ocgo, odgo, .func (PySem.W.fnOf "goes_on" "goes_on" (defArgs sGo) (defBody sGo) (defScope sGo) .none kVgo dcgo pmgo ango cdgo ctgo), slgo⟩)
    (cgo : PySem.W.codeIn K cdgo "goes_on" = true)
    (kgo : PySem.W.keepIn K (.ref fgo) = true)
    (anu : PySem.W.nsIn K mainGlobals "has_right_numbers" = some (some (.ref fnu)))
    (lnu : K.lookup fnu = some ⟨ocnu, odnu, .func (PySem.W.fnOf "has_right_numbers" "has_right_numbers" (defArgs sNu) (defBody sNu) (defScope sNu) .none kVnu dcnu pmnu annu cdnu ctnu), slnu⟩)
    (cnu : PySem.W.codeIn K cdnu "has_right_numbers" = true)
    (knu : PySem.W.keepIn K (.ref fnu) = true)
    (aft : PySem.W.nsIn K mainGlobals "fits_table" = some (some (.ref fft)))
    (lft : K.lookup fft = some ⟨ocft, odft, .func (PySem.W.fnOf "fits_table" "fits_table" (defArgs sFt) (defBody sFt) (defScope sFt) .none kVft dcft pmft anft cdft ctft), slft⟩)
    (cft : PySem.W.codeIn K cdft "fits_table" = true)
    (kft : PySem.W.keepIn K (.ref fft) = true)
    (amb : PySem.W.nsIn K mainGlobals "may_happen" = some (some (.ref fmb)))
    (lmb : K.lookup fmb = some ⟨ocmb, odmb, .func (PySem.W.fnOf "may_happen" "may_happen" (defArgs sMB) (defBody sMB) (defScope sMB) .none kVmb dcmb pmmb anmb cdmb ctmb), slmb⟩)
    (cmb : PySem.W.codeIn K cdmb "may_happen" = true)
    (kmb : PySem.W.keepIn K (.ref fmb) = true)
    (abe : PySem.W.findIn K (.ref CF) "begin" = some (some (.ref fbe)))
    (ibe : PySem.W.isFn K (.ref fbe) = true)
    (lbe : K.lookup fbe = some ⟨ocbe, odbe, .func (PySem.W.fnOf "begin" "Referee.begin" (defArgs sBe) (defBody sBe) (defScope sBe) .none kVbe dcbe pmbe anbe cdbe ctbe), slbe⟩)
    (cbe : PySem.W.codeIn K cdbe "Referee.begin" = true)
    (kbe : PySem.W.keepIn K (.ref fbe) = true)
    (ats : PySem.W.findIn K (.ref CF) "take_shot" = some (some (.ref fts)))
    (its : PySem.W.isFn K (.ref fts) = true)
    (lts : K.lookup fts = some ⟨octs, odts, .func (PySem.W.fnOf "take_shot" "Referee.take_shot" (defArgs sTS) (defBody sTS) (defScope sTS) .none kVts dcts pmts ants cdts ctts), slts⟩)
    (cts : PySem.W.codeIn K cdts "Referee.take_shot" = true)
    (kts : PySem.W.keepIn K (.ref fts) = true)
    (aho : PySem.W.findIn K (.ref CF) "choose" = some (some (.ref fho)))
    (iho : PySem.W.isFn K (.ref fho) = true)
    (lho : K.lookup fho = some ⟨ocho, odho, .func (PySem.W.fnOf "choose" "Referee.choose" (defArgs sHo) (defBody sHo) (defScope sHo) .none kVho dcho pmho anho cdho ctho), slho⟩)
    (cho : PySem.W.codeIn K cdho "Referee.choose" = true)
    (kho : PySem.W.keepIn K (.ref fho) = true)
    (aon : PySem.W.findIn K (.ref CF) "on" = some (some (.ref fon)))
    (ion : PySem.W.isFn K (.ref fon) = true)
    (lon : K.lookup fon = some ⟨ocon, odon, .func (PySem.W.fnOf "on" "Referee.on" (defArgs sOn) (defBody sOn) (defScope sOn) .none kVon dcon pmon anon cdon cton), slon⟩)
    (con : PySem.W.codeIn K cdon "Referee.on" = true)
    (kon : PySem.W.keepIn K (.ref fon) = true)
    (ano : PySem.W.findIn K (.ref CF) "now" = some (some (.ref fno)))
    (ino : PySem.W.isFn K (.ref fno) = true)
    (lno : K.lookup fno = some ⟨ocno, odno, .func (PySem.W.fnOf "now" "Referee.now" (defArgs sNo) (defBody sNo) (defScope sNo) .none kVno dcno pmno anno cdno ctno), slno⟩)
    (cno : PySem.W.codeIn K cdno "Referee.now" = true)
    (kno : PySem.W.keepIn K (.ref fno) = true)
    (atb : PySem.W.findIn K (.ref CF) "table" = some (some (.ref ftb)))
    (itb : PySem.W.isFn K (.ref ftb) = true)
    (ltb : K.lookup ftb = some ⟨octb, odtb, .func (PySem.W.fnOf "table" "Referee.table" (defArgs sTb) (defBody sTb) (defScope sTb) .none kVtb dctb pmtb antb cdtb cttb), sltb⟩)
    (ctb : PySem.W.codeIn K cdtb "Referee.table" = true)
    (ktb : PySem.W.keepIn K (.ref ftb) = true)
    (acc : PySem.W.nsIn K mainGlobals "carry_out_choice" = some (some (.ref fcc)))
    (lcc : K.lookup fcc = some ⟨occc, odcc, .func (PySem.W.fnOf "carry_out_choice" "carry_out_choice" (defArgs sCC) (defBody sCC) (defScope sCC) .none kVcc dccc pmcc ancc cdcc ctcc), slcc⟩)
    (ccc : PySem.W.codeIn K cdcc "carry_out_choice" = true)
    (kcc : PySem.W.keepIn K (.ref fcc) = true)
    (ari : PySem.W.nsIn K mainGlobals "right_balls" = some (some (.ref fri)))
    (lri : K.lookup fri = some ⟨ocri, odri, .func (PySem.W.fnOf "right_balls" "right_balls" (defArgs sRi) (defBody sRi) (defScope sRi) .none kVri dcri pmri anri cdri ctri), slri⟩)
    (cri : PySem.W.codeIn K cdri "right_balls" = true)
    (kri : PySem.W.keepIn K (.ref fri) = true)
    (aco : PySem.W.nsIn K mainGlobals "counted" = some (some (.ref fco)))
    (lco : K.lookup fco = some ⟨occo, odco, .func (PySem.W.fnOf "counted" "counted" (defArgs sCo) (defBody sCo) (defScope sCo) .none kVco dcco pmco anco cdco ctco), slco⟩)
    (cco : PySem.W.codeIn K cdco "counted" = true)
    (kco : PySem.W.keepIn K (.ref fco) = true)
    (ace : PySem.W.nsIn K mainGlobals "call_end" = some (some (.ref fce)))
    (lce : K.lookup fce = some ⟨occe, odce, .func (PySem.W.fnOf "call_end" "call_end" (defArgs sCE) (defBody sCE) (defScope sCE) .none kVce dcce pmce ance cdce ctce), slce⟩)
    (cce : PySem.W.codeIn K cdce "call_end" = true)
    (kce : PySem.W.keepIn K (.ref fce) = true)
    (aac : PySem.W.nsIn K mainGlobals "answer_call" = some (some (.ref fac)))
    (lac : K.lookup fac = some ⟨ocac, odac, .func (PySem.W.fnOf "answer_call" "answer_call" (defArgs sAC) (defBody sAC) (defScope sAC) .none kVac dcac pmac anac cdac ctac), slac⟩)
    (cac : PySem.W.codeIn K cdac "answer_call" = true)
    (kac : PySem.W.keepIn K (.ref fac) = true)
    (aan : PySem.W.nsIn K mainGlobals "answers" = some (some (.ref fan)))
    (lan : K.lookup fan = some ⟨ocan, odan, .func (PySem.W.fnOf "answers" "answers" (defArgs sAns) (defBody sAns) (defScope sAns) .none kVan dcan pman anan cdan ctan), slan⟩)
    (can : PySem.W.codeIn K cdan "answers" = true)
    (kan : PySem.W.keepIn K (.ref fan) = true)
    (aiS : PySem.W.findIn K (.ref CS) "__init__" = some (some (.ref fiS)))
    (iiS : PySem.W.isFn K (.ref fiS) = true)
    (liS : K.lookup fiS = some ⟨ociS, odiS, .func (PySem.W.fnOf "__init__" "Shot.__init__" (defArgs sSh) (defBody sSh) (defScope sSh) .none kViS dciS pmiS aniS cdiS ctiS), sliS⟩)
    (ciS : PySem.W.codeIn K cdiS "Shot.__init__" = true)
    (kiS : PySem.W.keepIn K (.ref fiS) = true)
    (aiR : PySem.W.findIn K (.ref CR) "__init__" = some (some (.ref fiR)))
    (iiR : PySem.W.isFn K (.ref fiR) = true)
    (liR : K.lookup fiR = some ⟨ociR, odiR, .func (PySem.W.fnOf "__init__" "RaceState.__init__" (defArgs sMade) (defBody sMade) (defScope sMade) .none kViR dciR pmiR aniR cdiR ctiR), sliR⟩)
    (ciR : PySem.W.codeIn K cdiR "RaceState.__init__" = true)
    (kiR : PySem.W.keepIn K (.ref fiR) = true)
    (aiF : PySem.W.findIn K (.ref CF) "__init__" = some (some (.ref fiF)))
    (iiF : PySem.W.isFn K (.ref fiF) = true)
    (liF : K.lookup fiF = some ⟨ociF, odiF, .func (PySem.W.fnOf "__init__" "Referee.__init__" (defArgs sFI) (defBody sFI) (defScope sFI) .none kViF dciF pmiF aniF cdiF ctiF), sliF⟩)
    (ciF : PySem.W.codeIn K cdiF "Referee.__init__" = true)
    (kiF : PySem.W.keepIn K (.ref fiF) = true) :
    ∃ fd : FuncData, (∀ (s : Shared) (us : List Value), us.length = (["calls"] : List Str).length → BindsTo s fd ⟨us, []⟩ ((["calls"] : List Str).zip us)) ∧ ∀ base : Heap, K.In base → base.Ns mainGlobals mg → FnOk P w K mg base CX0 7 fa fd ["calls"] (spAns K) := by
  have e := hfa.symm.trans (PySem.W.mg_of X G aan)
  cases e
  have T : Txt K mg CS CR CF := ⟨⟨pgS, hdS, poS, saS⟩, ⟨pgR, hdR, poR, saR⟩, ⟨pgF, hdF, poF, saF⟩, nSfirst, nScushions, nSlost, nScalled, nSpush, nSpotted, nRgame, nRgoal, nRby_turns, nRwon, nRover, nRbreaker, nRturn, nRphase, nRin_hand, nRballs, nRgroups, nRfouls, nRchoice_of_push, nFrace, PySem.W.mg_of X G aSc, PySem.W.mg_of X G aRc, PySem.W.mg_of X G aFc, ⟨_, PySem.W.mg_of X G kEIGHT_BALL⟩, ⟨_, PySem.W.mg_of X G kNINE_BALL⟩, ⟨_, PySem.W.mg_of X G kPHASE_BREAK⟩, ⟨_, PySem.W.mg_of X G kPHASE_BEHIND_BREAK⟩, ⟨_, PySem.W.mg_of X G kPHASE_PLAY⟩, ⟨_, PySem.W.mg_of X G kPHASE_CHOICE⟩, ⟨_, PySem.W.mg_of X G kNO_GROUP⟩, ⟨_, PySem.W.mg_of X G kLOW⟩, ⟨_, PySem.W.mg_of X G kHIGH⟩, ⟨_, PySem.W.mg_of X G kANSWER_FAIR⟩, ⟨_, PySem.W.mg_of X G kANSWER_FOUL⟩, ⟨_, PySem.W.mg_of X G kANSWER_WON_BY_FIRST_SIDE⟩, ⟨_, PySem.W.mg_of X G kEIGHT⟩, ⟨_, PySem.W.mg_of X G kNINE⟩, ⟨_, PySem.W.mg_of X G kCALL_BEGIN⟩, ⟨_, PySem.W.mg_of X G kCALL_SHOT⟩, ⟨_, PySem.W.mg_of X G kCALL_CHOOSE⟩, ⟨_, PySem.W.mg_of X G kCALL_ON⟩, ⟨_, PySem.W.mg_of X G kCALL_NOW⟩, PySem.W.mg_none_of X G blen, PySem.W.mg_none_of X G brange, PySem.W.mg_none_of X G blist, PySem.W.mg_none_of X G bmin, PySem.W.mg_none_of X G ball⟩
  have L : Lens K mg := ⟨pL, esL, nL, PySem.W.mg_of X G aL, lL, oL, g1L, g3L, g4L, g5L, g6L⟩
  have dwk : DefF K mg "is_weak_break" sWeak := ⟨fwk, _, fun_mk (st := sWeak) lwk cwk kwk, PySem.W.mg_of X G awk⟩
  have dfo : DefF K mg "is_common_foul" sFoul := ⟨ffo, _, fun_mk (st := sFoul) lfo cfo kfo, PySem.W.mg_of X G afo⟩
  have dra : DefM K CR "begin_rack" "RaceState.begin_rack" sRack := ⟨fra, _, fun_mk (st := sRack) lra cra kra, ⟨ara, ira, kra⟩⟩
  have dtk : DefM K CR "take_off" "RaceState.take_off" sTake := ⟨ftk, _, fun_mk (st := sTake) ltk ctk ktk, ⟨atk, itk, ktk⟩⟩
  have dpl : DefM K CR "play_on" "RaceState.play_on" sPlay := ⟨fpl, _, fun_mk (st := sPlay) lpl cpl kpl, ⟨apl, ipl, kpl⟩⟩
  have dps : DefM K CR "pass_turn" "RaceState.pass_turn" sPass := ⟨fps, _, fun_mk (st := sPass) lps cps kps, ⟨aps, ips, kps⟩⟩
  have dle : DefM K CR "let_other_choose" "RaceState.let_other_choose" sLet := ⟨fle, _, fun_mk (st := sLet) lle cle kle, ⟨ale, ile, kle⟩⟩
  have den : DefM K CR "end_rack" "RaceState.end_rack" sEnd := ⟨fen, _, fun_mk (st := sEnd) len cen ken, ⟨aen, ien, ken⟩⟩
  have dsd : DefM K CR "standing" "RaceState.standing" sStand := ⟨fsd, _, fun_mk (st := sStand) lsd csd ksd, ⟨asd, isd, ksd⟩⟩
  have dde : DefM K CR "rack_details" "RaceState.rack_details" sDet := ⟨fde, _, fun_mk (st := sDet) lde cde kde, ⟨ade, ide, kde⟩⟩
  have dgr : DefF K mg "group_of" sGrp := ⟨fgr, _, fun_mk (st := sGrp) lgr cgr kgr, PySem.W.mg_of X G agr⟩
  have dr8 : DefF K mg "right_balls_of_eight" sR8 := ⟨fr8, _, fun_mk (st := sR8) lr8 cr8 kr8, PySem.W.mg_of X G ar8⟩
  have dgi : DefF K mg "give_group" sGive := ⟨fgi, _, fun_mk (st := sGive) lgi cgi kgi, PySem.W.mg_of X G agi⟩
  have ds8 : DefF K mg "take_shot_of_eight" sS8 := ⟨fs8, _, fun_mk (st := sS8) ls8 cs8 ks8, PySem.W.mg_of X G as8⟩
  have dgb : DefF K mg "go_on_behind_break" sGB := ⟨fgb, _, fun_mk (st := sGB) lgb cgb kgb, PySem.W.mg_of X G agb⟩
  have dgp : DefF K mg "go_on_in_play" sGP := ⟨fgp, _, fun_mk (st := sGP) lgp cgp kgp, PySem.W.mg_of X G agp⟩
  have dr9 : DefF K mg "right_balls_of_nine" sR9 := ⟨fr9, _, fun_mk (st := sR9) lr9 cr9 kr9, PySem.W.mg_of X G ar9⟩
  have df9 : DefF K mg "is_foul_of_nine" sF9 := ⟨ff9, _, fun_mk (st := sF9) lf9 cf9 kf9, PySem.W.mg_of X G af9⟩
  have ds9 : DefF K mg "take_shot_of_nine" sS9 := ⟨fs9, _, fun_mk (st := sS9) ls9 cs9 ks9, PySem.W.mg_of X G as9⟩
  have dgf : DefF K mg "go_on_behind_foul" sGF := ⟨fgf, _, fun_mk (st := sGF) lgf cgf kgf, PySem.W.mg_of X G agf⟩
  have dpb : DefF K mg "phase_behind" sPB := ⟨fpb, _, fun_mk (st := sPB) lpb cpb kpb, PySem.W.mg_of X G apb⟩
  have drb : DefF K mg "begin_refusal" sRB := ⟨frb, _, fun_mk (st := sRB) lrb crb krb, PySem.W.mg_of X G arb⟩
  have dsr : DefF K mg "shot_refusal" sSR := ⟨fsr, _, fun_mk (st := sSR) lsr csr ksr, PySem.W.mg_of X G asr⟩
  have dch : DefF K mg "choose_refusal" sCh := ⟨fch, _, fun_mk (st := sCh) lch cch kch, PySem.W.mg_of X G ach⟩
  have dlk : DefF K mg "look_refusal" sLk := ⟨flk, _, fun_mk (st := sLk) llk clk klk, PySem.W.mg_of X G alk⟩
  have dgo : DefF K mg "goes_on" sGo := ⟨fgo, _, fun_mk (st := sGo) lgo cgo kgo, PySem.W.mg_of X G ago⟩
  have dnu : DefF K mg "has_right_numbers" sNu := ⟨fnu, _, fun_mk (st := sNu) lnu cnu knu, PySem.W.mg_of X G anu⟩
  have dft : DefF K mg "fits_table" sFt := ⟨fft, _, fun_mk (st := sFt) lft cft kft, PySem.W.mg_of X G aft⟩
  have dmb : DefF K mg "may_happen" sMB := ⟨fmb, _, fun_mk (st := sMB) lmb cmb kmb, PySem.W.mg_of X G amb⟩
  have dbe : DefM K CF "begin" "Referee.begin" sBe := ⟨fbe, _, fun_mk (st := sBe) lbe cbe kbe, ⟨abe, ibe, kbe⟩⟩
  have dts : DefM K CF "take_shot" "Referee.take_shot" sTS := ⟨fts, _, fun_mk (st := sTS) lts cts kts, ⟨ats, its, kts⟩⟩
  have dho : DefM K CF "choose" "Referee.choose" sHo := ⟨fho, _, fun_mk (st := sHo) lho cho kho, ⟨aho, iho, kho⟩⟩
  have don : DefM K CF "on" "Referee.on" sOn := ⟨fon, _, fun_mk (st := sOn) lon con kon, ⟨aon, ion, kon⟩⟩
  have dno : DefM K CF "now" "Referee.now" sNo := ⟨fno, _, fun_mk (st := sNo) lno cno kno, ⟨ano, ino, kno⟩⟩
  have dtb : DefM K CF "table" "Referee.table" sTb := ⟨ftb, _, fun_mk (st := sTb) ltb ctb ktb, ⟨atb, itb, ktb⟩⟩
  have dcc : DefF K mg "carry_out_choice" sCC := ⟨fcc, _, fun_mk (st := sCC) lcc ccc kcc, PySem.W.mg_of X G acc⟩
  have dri : DefF K mg "right_balls" sRi := ⟨fri, _, fun_mk (st := sRi) lri cri kri, PySem.W.mg_of X G ari⟩
  have dco : DefF K mg "counted" sCo := ⟨fco, _, fun_mk (st := sCo) lco cco kco, PySem.W.mg_of X G aco⟩
  have dce : DefF K mg "call_end" sCE := ⟨fce, _, fun_mk (st := sCE) lce cce kce, PySem.W.mg_of X G ace⟩
  have dac : DefF K mg "answer_call" sAC := ⟨fac, _, fun_mk (st := sAC) lac cac kac, PySem.W.mg_of X G aac⟩
  have diS : DefC K CS "Shot.__init__" sSh := ⟨fiS, _, fun_mk (st := sSh) liS ciS kiS, ⟨mkS, aiS, iiS, kcS⟩⟩
  have diR : DefC K CR "RaceState.__init__" sMade := ⟨fiR, _, fun_mk (st := sMade) liR ciR kiR, ⟨mkR, aiR, iiR, kcR⟩⟩
  have diF : DefC K CF "Referee.__init__" sFI := ⟨fiF, _, fun_mk (st := sFI) liF ciF kiF, ⟨mkF, aiF, iiF, kcF⟩⟩
  refine ⟨PySem.W.fnOf "answers" "answers" (defArgs sAns) (defBody sAns) (defScope sAns) .none kVan dcan pman anan cdan ctan, fun s us hu => match us, hu with | [_], _ => .of_eq rfl, fun base _ _ => ?_⟩
  have cW := ok_weak (P := P) (w := w) (base := base) T dwk
  have cFo := ok_foul (P := P) (w := w) (base := base) T dfo
  have cRa := ok_rack (P := P) (w := w) (base := base) T dra
  have cTk := ok_take (P := P) (w := w) (base := base) T dtk
  have cPl := ok_play (P := P) (w := w) (base := base) T dpl
  have cPs := ok_pass (P := P) (w := w) (base := base) T dps
  have cLe := ok_let T dle cPs
  have cEn := ok_end T den cRa
  have cSd := ok_stand (P := P) (w := w) (base := base) T dsd
  have cDe := ok_det (P := P) (w := w) (base := base) T dde
  have cMd := ok_made T diR cRa
  have cGr := ok_grp (P := P) (w := w) (base := base) T dgr
  have cR8 := ok_r8 T dr8 cGr
  have cGi := ok_give (P := P) (w := w) (base := base) T dgi
  have cGb := ok_gb T dgb cW cLe cPl cPs
  have cGp := ok_gp (CS := CS) T dgp cGr cGi cPl cPs
  have cS8 := ok_s8 T ds8 cR8 cFo cEn cTk cPs cGb cGp
  have cR9 := ok_r9 (P := P) (w := w) (base := base) T dr9
  have cF9 := ok_f9 T df9 cW cFo cR9
  have cPb := ok_pb (P := P) (w := w) (base := base) T dpb
  have cGf := ok_gf T dgf cEn cPs cPb
  have cS9 := ok_s9 T ds9 cF9 cGf cEn cTk cPs cPl cLe cPb
  have cRb := ok_rb (P := P) (w := w) (base := base) T drb
  have cGo := ok_go (P := P) (w := w) (base := base) T dgo
  have cLk := ok_lk T dlk cGo
  have cCh := ok_ch T dch cGo
  have cMb := ok_mb (P := P) (w := w) (base := base) T dmb
  have cNu := ok_nu (P := P) (w := w) (base := base) T dnu
  have cFt := ok_ft (P := P) (w := w) (base := base) T dft
  have cSr := ok_sr T dsr cNu cGo cFt cMb
  have cSh := ok_sh (P := P) (w := w) (base := base) T diS
  have cCo := ok_co (P := P) (w := w) (base := base) T dco
  have cRi := ok_ri T dri cR8 cR9
  have cCc := ok_cc T dcc cPl cPs cRa
  have cFi := ok_fi (P := P) (w := w) (base := base) T diF
  have cBe := ok_be T dbe cRb cMd
  have cTs := ok_ts T dts cSr cS8 cS9 cSd
  have cHo := ok_ho T dho cCh cCc cSd
  have cOn := ok_on T don cLk cRi cCo
  have cTb := ok_tb (CR := CR) T dtb cLk cCo
  have cNo := ok_no T dno cSd cDe
  have cCe := ok_ce (P := P) (w := w) (base := base) T L dce
  have cAc := ok_ac T dac cSh cBe cTs cHo cOn cNo cTb
  exact ok_ans (fun_mk (st := sAns) lan can kan) T cFi cCe cAc
end Pr
open PySem PySem.W PyProof.Rows
set_option maxRecDepth 100000 in
set_option maxHeartbeats 0 in
theorem PySem.Challenge.cw_poolreferee_s01_answers_holds : PySem.Challenge.rw_poolreferee_s01_answers.Holds := by
  w_on; k_headS; (case hw => exact ⟨[.list [.int 4]], by decide +kernel, by decide +kernel⟩)
  k_fillS
  refine L2.walk_specK (r := PySem.Challenge.rw_poolreferee_s01_answers) (k := 7) (CX := L2.CX0) (ps := ["calls"]) (sp := Pr.spAns) (by decide +kernel) rfl rfl ⟨rfl, by decide, by decide⟩ (fun w h Y => PySem.W.kIn_of Y) ?F ?S (fun _ _ _ _ z => z)
  case F =>
    intro w mg fa h Y KX G hmg
    refine' Pr.all_mk KX G hmg ?aSc ?pgS ?hdS ?poS ?saS ?mkS ?kcS ?aRc ?pgR ?hdR ?poR ?saR ?mkR ?kcR ?aFc ?pgF ?hdF ?poF ?saF ?mkF ?kcF ?nSfirst ?nScushions ?nSlost ?nScalled ?nSpush ?nSpotted ?nRgame ?nRgoal ?nRby_turns ?nRwon ?nRover ?nRbreaker ?nRturn ?nRphase ?nRin_hand ?nRballs ?nRgroups ?nRfouls ?nRchoice_of_push ?nFrace ?kEIGHT_BALL ?kNINE_BALL ?kPHASE_BREAK ?kPHASE_BEHIND_BREAK ?kPHASE_PLAY ?kPHASE_CHOICE ?kNO_GROUP ?kLOW ?kHIGH ?kANSWER_FAIR ?kANSWER_FOUL ?kANSWER_WON_BY_FIRST_SIDE ?kEIGHT ?kNINE ?kCALL_BEGIN ?kCALL_SHOT ?kCALL_CHOOSE ?kCALL_ON ?kCALL_NOW ?blen ?brange ?blist ?bmin ?ball ?aL ?lL ?oL ?g1L ?g3L ?g4L ?g5L ?g6L ?awk ?lwk ?cwk ?kwk ?afo ?lfo ?cfo ?kfo ?ara ?ira ?lra ?cra ?kra ?atk ?itk ?ltk ?ctk ?ktk ?apl ?ipl ?lpl ?cpl ?kpl ?aps ?ips ?lps ?cps ?kps ?ale ?ile ?lle ?cle ?kle ?aen ?ien ?len ?cen ?ken ?asd ?isd ?lsd ?csd ?ksd ?ade ?ide ?lde ?cde ?kde ?agr ?lgr ?cgr ?kgr ?ar8 ?lr8 ?cr8 ?kr8 ?agi ?lgi ?cgi ?kgi ?as8 ?ls8 ?cs8 ?ks8 ?agb ?lgb ?cgb ?kgb ?agp ?lgp ?cgp ?kgp ?ar9 ?lr9 ?cr9 ?kr9 ?af9 ?lf9 ?cf9 ?kf9 ?as9 ?ls9 ?cs9 ?ks9 ?agf ?lgf ?cgf ?kgf ?apb ?lpb ?cpb ?kpb ?arb ?lrb ?crb ?krb ?asr ?lsr ?csr ?ksr ?ach ?lch ?cch ?kch ?alk ?llk ?clk ?klk ?ago ?lgo ?cgo ?kgo ?anu ?lnu ?cnu ?knu ?aft ?lft ?cft ?kft ?amb ?lmb ?cmb ?kmb ?abe ?ibe ?lbe ?cbe ?kbe ?ats ?its ?lts ?cts ?kts ?aho ?iho ?lho ?cho ?kho ?aon ?ion ?lon ?con ?kon ?ano ?ino ?lno ?cno ?kno ?atb ?itb ?ltb ?ctb ?ktb ?acc ?lcc ?ccc ?kcc ?ari ?lri ?cri ?kri ?aco ?lco ?cco ?kco ?ace ?lce ?cce ?kce ?aac ?lac ?cac ?kac ?aan ?lan ?can ?kan ?aiS ?iiS ?liS ?ciS ?kiS ?aiR ?iiR ?liR ?ciR ?kiR ?aiF ?iiF ?liF ?ciF ?kiF
    (case aSc => k_is)
    (case pgS => k_is)
    (case hdS => k_is)
    (case poS => k_is)
    (case saS => k_is)
    (case mkS => k_is)
    (case kcS => k_is)
    (case aRc => k_is)
    (case pgR => k_is)
    (case hdR => k_is)
    (case poR => k_is)
    (case saR => k_is)
    (case mkR => k_is)
    (case kcR => k_is)
    (case aFc => k_is)
    (case pgF => k_is)
    (case hdF => k_is)
    (case poF => k_is)
    (case saF => k_is)
    (case mkF => k_is)
    (case kcF => k_is)
    (case nSfirst => k_is)
    (case nScushions => k_is)
    (case nSlost => k_is)
    (case nScalled => k_is)
    (case nSpush => k_is)
    (case nSpotted => k_is)
    (case nRgame => k_is)
    (case nRgoal => k_is)
    (case nRby_turns => k_is)
    (case nRwon => k_is)
    (case nRover => k_is)
    (case nRbreaker => k_is)
    (case nRturn => k_is)
    (case nRphase => k_is)
    (case nRin_hand => k_is)
    (case nRballs => k_is)
    (case nRgroups => k_is)
    (case nRfouls => k_is)
    (case nRchoice_of_push => k_is)
    (case nFrace => k_is)
    (case kEIGHT_BALL => k_is)
    (case kNINE_BALL => k_is)
    (case kPHASE_BREAK => k_is)
    (case kPHASE_BEHIND_BREAK => k_is)
    (case kPHASE_PLAY => k_is)
    (case kPHASE_CHOICE => k_is)
    (case kNO_GROUP => k_is)
    (case kLOW => k_is)
    (case kHIGH => k_is)
    (case kANSWER_FAIR => k_is)
    (case kANSWER_FOUL => k_is)
    (case kANSWER_WON_BY_FIRST_SIDE => k_is)
    (case kEIGHT => k_is)
    (case kNINE => k_is)
    (case kCALL_BEGIN => k_is)
    (case kCALL_SHOT => k_is)
    (case kCALL_CHOOSE => k_is)
    (case kCALL_ON => k_is)
    (case kCALL_NOW => k_is)
    (case blen => k_is)
    (case brange => k_is)
    (case blist => k_is)
    (case bmin => k_is)
    (case ball => k_is)
    (case aL => k_is)
    (case lL => k_is)
    (case oL => (first | rfl | decide +kernel | k_is))
    (case g1L => (first | rfl | decide +kernel | k_is))
    (case g3L => (first | rfl | decide +kernel | k_is))
    (case g4L => (first | rfl | decide +kernel | k_is))
    (case g5L => (first | rfl | decide +kernel | k_is))
    (case g6L => (first | rfl | decide +kernel | k_is))
    (case awk => k_is)
    (case lwk => k_is)
    (case cwk => k_is)
    (case kwk => k_is)
    (case afo => k_is)
    (case lfo => k_is)
    (case cfo => k_is)
    (case kfo => k_is)
    (case ara => k_is)
    (case ira => k_is)
    (case lra => k_is)
    (case cra => k_is)
    (case kra => k_is)
    (case atk => k_is)
    (case itk => k_is)
    (case ltk => k_is)
    (case ctk => k_is)
    (case ktk => k_is)
    (case apl => k_is)
    (case ipl => k_is)
    (case lpl => k_is)
    (case cpl => k_is)
    (case kpl => k_is)
    (case aps => k_is)
    (case ips => k_is)
    (case lps => k_is)
    (case cps => k_is)
    (case kps => k_is)
    (case ale => k_is)
    (case ile => k_is)
    (case lle => k_is)
    (case cle => k_is)
    (case kle => k_is)
    (case aen => k_is)
    (case ien => k_is)
    (case len => k_is)
    (case cen => k_is)
    (case ken => k_is)
    (case asd => k_is)
    (case isd => k_is)
    (case lsd => k_is)
    (case csd => k_is)
    (case ksd => k_is)
    (case ade => k_is)
    (case ide => k_is)
    (case lde => k_is)
    (case cde => k_is)
    (case kde => k_is)
    (case agr => k_is)
    (case lgr => k_is)
    (case cgr => k_is)
    (case kgr => k_is)
    (case ar8 => k_is)
    (case lr8 => k_is)
    (case cr8 => k_is)
    (case kr8 => k_is)
    (case agi => k_is)
    (case lgi => k_is)
    (case cgi => k_is)
    (case kgi => k_is)
    (case as8 => k_is)
    (case ls8 => k_is)
    (case cs8 => k_is)
    (case ks8 => k_is)
    (case agb => k_is)
    (case lgb => k_is)
    (case cgb => k_is)
    (case kgb => k_is)
    (case agp => k_is)
    (case lgp => k_is)
    (case cgp => k_is)
    (case kgp => k_is)
    (case ar9 => k_is)
    (case lr9 => k_is)
    (case cr9 => k_is)
    (case kr9 => k_is)
    (case af9 => k_is)
    (case lf9 => k_is)
    (case cf9 => k_is)
    (case kf9 => k_is)
    (case as9 => k_is)
    (case ls9 => k_is)
    (case cs9 => k_is)
    (case ks9 => k_is)
    (case agf => k_is)
    (case lgf => k_is)
    (case cgf => k_is)
    (case kgf => k_is)
    (case apb => k_is)
    (case lpb => k_is)
    (case cpb => k_is)
    (case kpb => k_is)
    (case arb => k_is)
    (case lrb => k_is)
    (case crb => k_is)
    (case krb => k_is)
    (case asr => k_is)
    (case lsr => k_is)
    (case csr => k_is)
    (case ksr => k_is)
    (case ach => k_is)
    (case lch => k_is)
    (case cch => k_is)
    (case kch => k_is)
    (case alk => k_is)
    (case llk => k_is)
    (case clk => k_is)
    (case klk => k_is)
    (case ago => k_is)
    (case lgo => k_is)
    (case cgo => k_is)
    (case kgo => k_is)
    (case anu => k_is)
    (case lnu => k_is)
    (case cnu => k_is)
    (case knu => k_is)
    (case aft => k_is)
    (case lft => k_is)
    (case cft => k_is)
    (case kft => k_is)
    (case amb => k_is)
    (case lmb => k_is)
    (case cmb => k_is)
    (case kmb => k_is)
    (case abe => k_is)
    (case ibe => k_is)
    (case lbe => k_is)
    (case cbe => k_is)
    (case kbe => k_is)
    (case ats => k_is)
    (case its => k_is)
    (case lts => k_is)
    (case cts => k_is)
    (case kts => k_is)
    (case aho => k_is)
    (case iho => k_is)
    (case lho => k_is)
    (case cho => k_is)
    (case kho => k_is)
    (case aon => k_is)
    (case ion => k_is)
    (case lon => k_is)
    (case con => k_is)
    (case kon => k_is)
    (case ano => k_is)
    (case ino => k_is)
    (case lno => k_is)
    (case cno => k_is)
    (case kno => k_is)
    (case atb => k_is)
    (case itb => k_is)
    (case ltb => k_is)
    (case ctb => k_is)
    (case ktb => k_is)
    (case acc => k_is)
    (case lcc => k_is)
    (case ccc => k_is)
    (case kcc => k_is)
    (case ari => k_is)
    (case lri => k_is)
    (case cri => k_is)
    (case kri => k_is)
    (case aco => k_is)
    (case lco => k_is)
    (case cco => k_is)
    (case kco => k_is)
    (case ace => k_is)
    (case lce => k_is)
    (case cce => k_is)
    (case kce => k_is)
    (case aac => k_is)
    (case lac => k_is)
    (case cac => k_is)
    (case kac => k_is)
    (case aan => k_is)
    (case lan => k_is)
    (case can => k_is)
    (case kan => k_is)
    (case aiS => k_is)
    (case iiS => k_is)
    (case liS => k_is)
    (case ciS => k_is)
    (case kiS => k_is)
    (case aiR => k_is)
    (case iiR => k_is)
    (case liR => k_is)
    (case ciR => k_is)
    (case kiR => k_is)
    (case aiF => k_is)
    (case iiF => k_is)
    (case liF => k_is)
    (case ciF => k_is)
    (case kiF => k_is)
  case S =>
    intro K H xs a hO hwi hask hx
    cases hx with
    | cons h1 h2 =>
      cases h2
      cases h1 with
      | lst hs ha =>
        have e := L2.ints_dw a.1 _ ha
        subst e
        exact ⟨_, a.1, rfl, hs, hask, fun H' p hp => .lst (L2.SqL.of hp) (L2.dw_ints _)⟩
#print axioms PySem.Challenge.cw_poolreferee_s01_answers_holds
