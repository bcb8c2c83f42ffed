import PyProof.Rows.All
import Wide.All
import OpenK.AllK
import Wide.FinOn
import Open.SpecLaws
import KE.OsGo
import KE.KNest
import KE.KMinKey
import HandS.ForSpec
import HandS.Comp
import HandS.Iter
import HandS.Codes
import HandS.CallLocal
import HandS.Lambda
import HandS.Nested
import HandS.Spec
import PySem.Challenge.RW_fullrooms_s01_answers
set_option Elab.async false
section part_M1
set_option autoImplicit false
namespace Ro
open Hs09

/-- an instruction of a program of n, in a net of m channels -/
def okI (m n : Nat) : Instr → Prop
  | .get x c => x ≤ 3 ∧ c < m
  | .put x c => x ≤ 3 ∧ c < m
  | .set x v => x ≤ 3 ∧ v ≤ 65535
  | .copy x y => x ≤ 3 ∧ y ≤ 3
  | .plus x y => x ≤ 3 ∧ y ≤ 3
  | .minus x y => x ≤ 3 ∧ y ≤ 3
  | .times x y => x ≤ 3 ∧ y ≤ 3
  | .jump i => i ≤ n
  | .zero x i => x ≤ 3 ∧ i ≤ n
  | .less x y i => x ≤ 3 ∧ y ≤ 3 ∧ i ≤ n
  | .say x => x ≤ 3

structure WP (m steps : Nat) (x : Proc) : Prop where
  len : x.prog.length ≤ 24
  nx : x.next ≤ x.prog.length
  ok : ∀ i ∈ x.prog, okI m x.prog.length i
  r4 : x.regs.length = 4
  rb : ∀ v ∈ x.regs, v < 65536
  sd : x.said.length ≤ steps
structure WC (steps : Nat) (c : Chan) : Prop where
  le : c.on.length ≤ c.wrote.length
  suf : c.on = c.wrote.drop (c.wrote.length - c.on.length)
  wb : ∀ v ∈ c.wrote, v < 65536
  wl : c.wrote.length ≤ steps
structure WF (s : St) : Prop where
  np1 : 1 ≤ s.procs.length
  np : s.procs.length ≤ 6
  nc : s.chans.length ≤ 10
  ps : ∀ x ∈ s.procs, WP s.chans.length s.steps x
  cs : ∀ c ∈ s.chans, WC s.steps c

theorem WP.mono {m k k' : Nat} {x : Proc} (h : WP m k x) (l : k ≤ k') : WP m k' x := ⟨h.len, h.nx, h.ok, h.r4, h.rb, Nat.le_trans h.sd l⟩
theorem WC.mono {k k' : Nat} {c : Chan} (h : WC k c) (l : k ≤ k') : WC k' c := ⟨h.le, h.suf, h.wb, Nat.le_trans h.wl l⟩

theorem proc_mem {s : St} {p : Nat} (h : p < s.procs.length) : proc s p ∈ s.procs := by
  unfold proc
  rw [List.getD_eq_getElem?_getD, List.getElem?_eq_getElem h]
  exact List.getElem_mem h
theorem chan_mem {s : St} {c : Nat} (h : c < s.chans.length) : chan s c ∈ s.chans := by
  unfold chan
  rw [List.getD_eq_getElem?_getD, List.getElem?_eq_getElem h]
  exact List.getElem_mem h
theorem proc_get {s : St} {p : Nat} (h : p < s.procs.length) : s.procs[p]? = some (proc s p) := by
  unfold proc
  rw [List.getD_eq_getElem?_getD, List.getElem?_eq_getElem h]
  rfl
theorem chan_get {s : St} {c : Nat} (h : c < s.chans.length) : s.chans[c]? = some (chan s c) := by
  unfold chan
  rw [List.getD_eq_getElem?_getD, List.getElem?_eq_getElem h]
  rfl
theorem WF.proc {s : St} (w : WF s) {p : Nat} (h : p < s.procs.length) : WP s.chans.length s.steps (proc s p) := w.ps _ (proc_mem h)
theorem WF.chan {s : St} (w : WF s) {c : Nat} (h : c < s.chans.length) : WC s.steps (chan s c) := w.cs _ (chan_mem h)

theorem reg_lt {m k : Nat} {x : Proc} (w : WP m k x) (r : Nat) : reg x r < 65536 := by
  unfold reg
  rw [List.getD_eq_getElem?_getD]
  by_cases h : r < x.regs.length
  · rw [List.getElem?_eq_getElem h]
    exact w.rb _ (List.getElem_mem h)
  · rw [List.getElem?_eq_none (by omega)]
    show (0 : Nat) < 65536
    omega

/-- one process and, maybe, one channel changed, a step more -/
theorem WF.moved {s : St} (w : WF s) {p c : Nat} {x : Proc} {y : Chan} {k : Nat} (hk : s.steps ≤ k) (hx : WP s.chans.length k x) (hy : WC k y) :
    WF { procs := s.procs.set p x, chans := s.chans.set c y, steps := k, grown := s.grown } := by
  refine ⟨by rw [List.length_set]; exact w.np1, by rw [List.length_set]; exact w.np, by rw [List.length_set]; exact w.nc, fun z hz => ?_, fun z hz => ?_⟩
  · show WP (s.chans.set c y).length k z
    rw [List.length_set]
    rcases List.mem_or_eq_of_mem_set hz with h | h
    · exact (w.ps z h).mono hk
    · rw [h]; exact hx
  · rcases List.mem_or_eq_of_mem_set hz with h | h
    · exact (w.cs z h).mono hk
    · rw [h]; exact hy
theorem WF.movedP {s : St} (w : WF s) {p : Nat} {x : Proc} {k : Nat} (hk : s.steps ≤ k) (hx : WP s.chans.length k x) :
    WF { procs := s.procs.set p x, chans := s.chans, steps := k, grown := s.grown } := by
  refine ⟨by rw [List.length_set]; exact w.np1, by rw [List.length_set]; exact w.np, w.nc, fun z hz => ?_, fun z hz => (w.cs z hz).mono hk⟩
  rcases List.mem_or_eq_of_mem_set hz with h | h
  · exact (w.ps z h).mono hk
  · rw [h]; exact hx

theorem onward_ok {m k : Nat} {x : Proc} {i : Instr} (w : WP m k x) (h : x.prog[x.next]? = some i) : WP m k (onward x) := by
  obtain ⟨l, _⟩ := List.getElem?_eq_some_iff.mp h
  exact ⟨w.len, l, w.ok, w.r4, w.rb, w.sd⟩
theorem setReg_ok {m k : Nat} {x : Proc} (w : WP m k x) (r n : Nat) : WP m k (setReg x r n) := by
  refine ⟨w.len, w.nx, w.ok, ?_, ?_, w.sd⟩
  · show (x.regs.set r (n % 65536)).length = 4
    rw [List.length_set]; exact w.r4
  · intro v hv
    rcases List.mem_or_eq_of_mem_set hv with h | h
    · exact w.rb v h
    · rw [h]; exact Nat.mod_lt _ (by omega)
theorem goesTo_ok {m k i : Nat} {x : Proc} (w : WP m k x) (h : i ≤ x.prog.length) : WP m k (goesTo x i) := ⟨w.len, h, w.ok, w.r4, w.rb, w.sd⟩

theorem drop_cons {l : List Nat} {n v : Nat} {r : List Nat} (h : l.drop n = v :: r) : l.drop (n + 1) = r := by
  rw [← List.tail_drop, h]; rfl

theorem get_ok {k v : Nat} {c : Chan} {l : List Nat} (w : WC k c) (h : c.on = v :: l) : WC k { c with on := l } := by
  have hl : c.on.length = l.length + 1 := by rw [h]; rfl
  have le := w.le
  refine ⟨by show l.length ≤ c.wrote.length; omega, ?_, w.wb, w.wl⟩
  show l = c.wrote.drop (c.wrote.length - l.length)
  have e : c.wrote.length - l.length = (c.wrote.length - c.on.length) + 1 := by omega
  rw [e]
  exact (drop_cons (by rw [← w.suf, h])).symm
theorem put_ok {k v : Nat} {c : Chan} (w : WC k c) (hv : v < 65536) : WC (k + 1) { c with on := c.on ++ [v], wrote := c.wrote ++ [v] } := by
  have le := w.le
  have wl := w.wl
  refine ⟨?_, ?_, ?_, ?_⟩
  · show (c.on ++ [v]).length ≤ (c.wrote ++ [v]).length
    rw [List.length_append, List.length_append]; omega
  · show c.on ++ [v] = (c.wrote ++ [v]).drop ((c.wrote ++ [v]).length - (c.on ++ [v]).length)
    rw [List.length_append, List.length_append]
    have e : c.wrote.length + [v].length - (c.on.length + [v].length) = c.wrote.length - c.on.length := by omega
    rw [e, List.drop_append_of_le_length (by omega), ← w.suf]
  · intro u hu
    rcases List.mem_append.mp hu with h | h
    · exact w.wb u h
    · rw [List.mem_singleton.mp h]; exact hv
  · show (c.wrote ++ [v]).length ≤ k + 1
    rw [List.length_append]; show c.wrote.length + 1 ≤ k + 1; omega

theorem on_lt {k v : Nat} {c : Chan} {l : List Nat} (w : WC k c) (h : c.on = v :: l) : v < 65536 := by
  have m : v ∈ c.wrote.drop (c.wrote.length - c.on.length) := by rw [← w.suf, h]; exact List.mem_cons_self
  exact w.wb v (List.mem_of_mem_drop m)

theorem moves_ok {s : St} (w : WF s) {p : Nat} (hp : p < s.procs.length) : WF (moves s p) := by
  have wx := w.proc hp
  have wx1 : WP s.chans.length (s.steps + 1) (proc s p) := wx.mono (by omega)
  unfold moves
  dsimp only
  cases e : (proc s p).prog[(proc s p).next]? with
  | none => exact w
  | some i =>
    have hok := wx.ok i (List.mem_of_getElem? e)
    have on1 := onward_ok wx1 e
    have onr : ∀ r n, WP s.chans.length (s.steps + 1) (onward (setReg (proc s p) r n)) := fun r n => onward_ok (setReg_ok wx1 r n) e
    cases i with
    | get r c =>
      dsimp only
      cases eo : (chan s c).on with
      | nil => exact w
      | cons v l => exact w.moved (k := s.steps + 1) (Nat.le_succ _) (onr _ _) ((get_ok (w.chan hok.2) eo).mono (Nat.le_succ _))
    | put r c =>
      dsimp only
      split
      · exact w
      · exact w.moved (k := s.steps + 1) (Nat.le_succ _) on1 (put_ok (w.chan hok.2) (reg_lt wx r))
    | set r n => exact w.movedP (k := s.steps + 1) (Nat.le_succ _) (onr _ _)
    | copy r q => exact w.movedP (k := s.steps + 1) (Nat.le_succ _) (onr _ _)
    | plus r q => exact w.movedP (k := s.steps + 1) (Nat.le_succ _) (onr _ _)
    | minus r q => exact w.movedP (k := s.steps + 1) (Nat.le_succ _) (onr _ _)
    | times r q => exact w.movedP (k := s.steps + 1) (Nat.le_succ _) (onr _ _)
    | jump i => exact w.movedP (k := s.steps + 1) (Nat.le_succ _) (goesTo_ok wx1 hok)
    | zero r i =>
      refine w.movedP (k := s.steps + 1) (Nat.le_succ _) ?_
      split
      · exact goesTo_ok wx1 hok.2
      · exact on1
    | less r q i =>
      refine w.movedP (k := s.steps + 1) (Nat.le_succ _) ?_
      split
      · exact goesTo_ok wx1 hok.2.2
      · exact on1
    | say r =>
      refine w.movedP (k := s.steps + 1) (Nat.le_succ _) ?_
      have on2 := onward_ok wx e
      refine ⟨on2.len, on2.nx, on2.ok, on2.r4, on2.rb, ?_⟩
      show ((proc s p).said ++ [_]).length ≤ s.steps + 1
      rw [List.length_append]
      have := wx.sd
      show (proc s p).said.length + 1 ≤ s.steps + 1
      omega

theorem moves_len (s : St) (p : Nat) : (moves s p).procs.length = s.procs.length ∧ (moves s p).chans.length = s.chans.length ∧ (moves s p).grown = s.grown := by
  unfold moves
  dsimp only
  split
  · exact ⟨rfl, rfl, rfl⟩
  · split
    · exact ⟨rfl, rfl, rfl⟩
    · exact ⟨List.length_set .., List.length_set .., rfl⟩
  · split
    · exact ⟨rfl, rfl, rfl⟩
    · exact ⟨List.length_set .., List.length_set .., rfl⟩
  all_goals exact ⟨List.length_set .., rfl, rfl⟩
/-- one that can do a step does just one -/
theorem moves_steps {s : St} {p : Nat} (h : can s p = true) : (moves s p).steps = s.steps + 1 := by
  unfold can stand at h
  unfold moves
  dsimp only
  cases e : (proc s p).prog[(proc s p).next]? with
  | none => rw [e] at h; simp at h
  | some i =>
    rw [e] at h
    cases i with
    | get r c =>
      dsimp only at h ⊢
      cases eo : (chan s c).on with
      | nil => rw [eo, if_pos rfl] at h; simp at h
      | cons v l => rfl
    | put r c =>
      dsimp only at h ⊢
      by_cases q : (chan s c).room ≤ (chan s c).on.length
      · rw [if_pos q] at h; simp at h
      · rw [if_neg q]; rfl
    | _ => rfl

theorem runs_ok : ∀ (n : Nat) {s : St} {p : Nat}, WF s → p < s.procs.length → WF (runs n s p) ∧ (runs n s p).procs.length = s.procs.length ∧ (runs n s p).chans.length = s.chans.length ∧ (runs n s p).grown = s.grown ∧ s.steps ≤ (runs n s p).steps ∧ (runs n s p).steps ≤ s.steps + n
  | 0, s, p, w, _ => ⟨w, rfl, rfl, rfl, Nat.le_refl _, Nat.le_refl _⟩
  | n + 1, s, p, w, hp => by
    unfold runs
    by_cases c : can s p = true
    · rw [if_pos c]
      have ml := moves_len s p
      have ms := moves_steps c
      obtain ⟨h1, h2, h3, h4, h5, h6⟩ := runs_ok n (moves_ok w hp) (p := p) (by rw [ml.1]; exact hp)
      exact ⟨h1, by rw [h2, ml.1], by rw [h3, ml.2.1], by rw [h4, ml.2.2], by omega, by omega⟩
    · rw [if_neg c]
      exact ⟨w, rfl, rfl, rfl, Nat.le_refl _, by omega⟩
/-- one step more, at the end -/
theorem runs_succ : ∀ (n : Nat) (s : St) (p : Nat), runs (n + 1) s p = if can (runs n s p) p = true then moves (runs n s p) p else runs n s p
  | 0, s, p => by
    show (if can s p = true then runs 0 (moves s p) p else s) = if can s p = true then moves s p else s
    rfl
  | n + 1, s, p => by
    show (if can s p = true then runs (n + 1) (moves s p) p else s) = if can (if can s p = true then runs n (moves s p) p else s) p = true then moves (if can s p = true then runs n (moves s p) p else s) p else (if can s p = true then runs n (moves s p) p else s)
    by_cases c : can s p = true
    · rw [if_pos c, if_pos c]; exact runs_succ n (moves s p) p
    · rw [if_neg c, if_neg c, if_neg c]
theorem runs_stop {s : St} {p : Nat} (h : ¬ can s p = true) : ∀ n, runs n s p = s
  | 0 => rfl
  | n + 1 => by unfold runs; rw [if_neg h]
/-- once it can't, it's done -/
theorem runs_add {s : St} {p n : Nat} (h : ¬ can (runs n s p) p = true) : ∀ k, runs (n + k) s p = runs n s p
  | 0 => rfl
  | k + 1 => by
    show runs (n + k + 1) s p = _
    rw [runs_succ, runs_add h k, if_neg h]
theorem round_ok (q : Nat) : ∀ (l : List Nat) {s : St}, WF s → (∀ p ∈ l, p < s.procs.length) → WF (round q l s) ∧ (round q l s).procs.length = s.procs.length ∧ (round q l s).chans.length = s.chans.length ∧ (round q l s).grown = s.grown ∧ s.steps ≤ (round q l s).steps ∧ (round q l s).steps ≤ s.steps + q * l.length
  | [], s, w, _ => ⟨w, rfl, rfl, rfl, Nat.le_refl _, Nat.le_add_right _ _⟩
  | p :: r, s, w, h => by
    obtain ⟨h1, h2, h3, h4, h5, h6⟩ := runs_ok q w (h p List.mem_cons_self)
    obtain ⟨k1, k2, k3, k4, k5, k6⟩ := round_ok q r h1 (fun x hx => by rw [h2]; exact h x (List.mem_cons_of_mem _ hx))
    refine ⟨k1, by show (round q r (runs q s p)).procs.length = _; rw [k2, h2], by show (round q r (runs q s p)).chans.length = _; rw [k3, h3], by show (round q r (runs q s p)).grown = _; rw [k4, h4], Nat.le_trans h5 k5, ?_⟩
    show (round q r (runs q s p)).steps ≤ s.steps + q * (r.length + 1)
    rw [Nat.mul_add, Nat.mul_one]
    omega
theorem round_append (q : Nat) : ∀ (l r : List Nat) (s : St), round q (l ++ r) s = round q r (round q l s)
  | [], _, _ => rfl
  | p :: l, r, s => round_append q l r (runs q s p)

theorem setRoom_ok {s : St} (w : WF s) {c n : Nat} (hc : c < s.chans.length) (g : Nat) : WF { setChan s c { chan s c with room := n } with grown := g } := by
  refine ⟨w.np1, w.np, ?_, fun z hz => ?_, fun z hz => ?_⟩
  · show (s.chans.set c _).length ≤ 10
    rw [List.length_set]; exact w.nc
  · show WP (s.chans.set c _).length s.steps z
    rw [List.length_set]; exact w.ps z hz
  · rcases List.mem_or_eq_of_mem_set hz with h | h
    · exact w.cs z h
    · rw [h]
      have := w.chan hc
      exact ⟨this.le, this.suf, this.wb, this.wl⟩
end Ro
end part_M1
section part_M2
set_option autoImplicit false
namespace Ro
open Hs09

theorem all_mem {s : St} {p : Nat} : p ∈ all s ↔ p < s.procs.length := List.mem_range

theorem stand_cases (s : St) (p : Nat) : (stand s p).1 = 0 ∨ (stand s p).1 = 1 ∨ (stand s p).1 = 2 ∨ (stand s p).1 = 3 := by
  unfold stand
  split
  · exact .inr (.inl rfl)
  · split
    · exact .inr (.inr (.inl rfl))
    · exact .inl rfl
  · split
    · exact .inr (.inr (.inr rfl))
    · exact .inl rfl
  · exact .inl rfl
/-- how each stands -/
def stands (s : St) : List Nat := (all s).map fun p => (stand s p).1
theorem stands_mem {s : St} {k : Nat} : k ∈ stands s ↔ ∃ p, p < s.procs.length ∧ (stand s p).1 = k := by
  unfold stands
  rw [List.mem_map]
  exact ⟨fun ⟨p, h, e⟩ => ⟨p, all_mem.mp h, e⟩, fun ⟨p, h, e⟩ => ⟨p, all_mem.mpr h, e⟩⟩
theorem stuck_is (s : St) : stuck s = if 0 ∈ stands s then 0 else if 3 ∈ stands s then 3 else if 2 ∈ stands s then 2 else 1 := by
  have h0 : ((all s).any (can s) = true) ↔ 0 ∈ stands s := by
    rw [List.any_eq_true, stands_mem]
    constructor
    · rintro ⟨p, hp, c⟩
      exact ⟨p, all_mem.mp hp, by unfold can at c; exact beq_iff_eq.mp c⟩
    · rintro ⟨p, hp, c⟩
      exact ⟨p, all_mem.mpr hp, by unfold can; exact beq_iff_eq.mpr c⟩
  have h3 : ((all s).any (fun p => (stand s p).1 == 3) = true) ↔ 3 ∈ stands s := by
    rw [List.any_eq_true, stands_mem]
    constructor
    · rintro ⟨p, hp, c⟩
      exact ⟨p, all_mem.mp hp, beq_iff_eq.mp c⟩
    · rintro ⟨p, hp, c⟩
      exact ⟨p, all_mem.mpr hp, beq_iff_eq.mpr c⟩
  have h1 : ((all s).all (fun p => (stand s p).1 == 1) = true) ↔ ∀ p, p < s.procs.length → (stand s p).1 = 1 := by
    rw [List.all_eq_true]
    exact ⟨fun h p hp => beq_iff_eq.mp (h p (all_mem.mpr hp)), fun h p hp => beq_iff_eq.mpr (h p (all_mem.mp hp))⟩
  unfold stuck
  by_cases a : 0 ∈ stands s
  · rw [if_pos (h0.mpr a), if_pos a]
  · rw [if_neg (fun z => a (h0.mp z)), if_neg a]
    by_cases b : 3 ∈ stands s
    · have n1 : ¬ ((all s).all (fun p => (stand s p).1 == 1) = true) := fun z => by
        obtain ⟨p, hp, e⟩ := stands_mem.mp b
        have := h1.mp z p hp
        omega
      rw [if_neg n1, if_pos (h3.mpr b), if_pos b]
    · rw [if_neg b]
      by_cases c : 2 ∈ stands s
      · have n1 : ¬ ((all s).all (fun p => (stand s p).1 == 1) = true) := fun z => by
          obtain ⟨p, hp, e⟩ := stands_mem.mp c
          have := h1.mp z p hp
          omega
        rw [if_neg n1, if_neg (fun z => b (h3.mp z)), if_pos c]
      · have y1 : (all s).all (fun p => (stand s p).1 == 1) = true := h1.mpr fun p hp => by
          rcases stand_cases s p with e | e | e | e
          · exact absurd (stands_mem.mpr ⟨p, hp, e⟩) a
          · exact e
          · exact absurd (stands_mem.mpr ⟨p, hp, e⟩) c
          · exact absurd (stands_mem.mpr ⟨p, hp, e⟩) b
        rw [if_pos y1, if_neg c]
theorem stuck_three {s : St} (h : stuck s = 3) : ∃ p, p < s.procs.length ∧ (stand s p).1 = 3 := by
  rw [stuck_is] at h
  by_cases a : 0 ∈ stands s
  · rw [if_pos a] at h; omega
  · rw [if_neg a] at h
    by_cases b : 3 ∈ stands s
    · exact stands_mem.mp b
    · rw [if_neg b] at h
      split at h <;> omega

/-- the channels that are waited for, told from 1 on, by the processes' order -/
def waits (s : St) : List Nat := ((all s).filter fun p => (stand s p).1 == 3).map fun p => (stand s p).2
theorem waits_mem {s : St} {k : Nat} : k ∈ waits s ↔ ∃ p, p < s.procs.length ∧ stand s p = (3, k) := by
  unfold waits
  rw [List.mem_map]
  constructor
  · rintro ⟨p, h, e⟩
    obtain ⟨h1, h2⟩ := List.mem_filter.mp h
    refine ⟨p, all_mem.mp h1, ?_⟩
    have h3 : (stand s p).1 = 3 := beq_iff_eq.mp h2
    rw [← h3, ← e]
  · rintro ⟨p, hp, e⟩
    refine ⟨p, List.mem_filter.mpr ⟨all_mem.mpr hp, ?_⟩, by rw [e]⟩
    rw [e]; rfl
theorem stand_chan {s : St} (w : WF s) {p a k : Nat} (hp : p < s.procs.length) (h : stand s p = (a, k)) (ha : a = 2 ∨ a = 3) : ∃ c, k = c + 1 ∧ c < s.chans.length := by
  unfold stand at h
  cases e : (proc s p).prog[(proc s p).next]? with
  | none => rw [e] at h; cases h; omega
  | some i =>
    rw [e] at h
    have ok := (w.proc hp).ok i (List.mem_of_getElem? e)
    cases i with
    | get x c =>
      dsimp only at h
      split at h
      · cases h; exact ⟨c, rfl, ok.2⟩
      · cases h; omega
    | put x c =>
      dsimp only at h
      split at h
      · cases h; exact ⟨c, rfl, ok.2⟩
      · cases h; omega
    | _ => cases h; omega
theorem blocked_mem {s : St} {c : Nat} : c ∈ blocked s ↔ c < s.chans.length ∧ c + 1 ∈ waits s := by
  unfold blocked
  rw [List.mem_filter, List.mem_range, waits_mem, List.any_eq_true]
  constructor
  · rintro ⟨h, p, hp, e⟩
    exact ⟨h, p, all_mem.mp hp, beq_iff_eq.mp e⟩
  · rintro ⟨h, p, hp, e⟩
    exact ⟨h, p, all_mem.mpr hp, beq_iff_eq.mpr e⟩
theorem blocked_sorted (s : St) : (blocked s).Pairwise (· < ·) := List.Pairwise.filter _ List.pairwise_lt_range
theorem smallest_of (s : St) : ∀ {l : List Nat} {c : Nat}, l.Pairwise (· < ·) → c ∈ l → (∀ d ∈ l, (chan s c).room < (chan s d).room ∨ ((chan s c).room = (chan s d).room ∧ c ≤ d)) → smallest s l = some c
  | [], c, _, h, _ => by cases h
  | a :: r, c, hs, h, hm => by
    obtain ⟨ha, hr⟩ := List.pairwise_cons.mp hs
    have e : smallest s (a :: r) = match smallest s r with
      | some d => some (if (chan s a).room ≤ (chan s d).room then a else d)
      | none => some a := rfl
    rw [e]
    rcases List.mem_cons.mp h with q | q
    · subst q
      cases ed : smallest s r with
      | none => rfl
      | some d =>
        have hd : d ∈ r := by
          have key : ∀ (l : List Nat) (d : Nat), smallest s l = some d → d ∈ l := fun l => by
            induction l with
            | nil => intro d z; cases z
            | cons b l ih =>
              intro d z
              have e2 : smallest s (b :: l) = match smallest s l with
                | some d => some (if (chan s b).room ≤ (chan s d).room then b else d)
                | none => some b := rfl
              rw [e2] at z
              cases eq : smallest s l with
              | none => rw [eq] at z; cases z; exact List.mem_cons_self
              | some d' =>
                rw [eq] at z
                have z' := Option.some.inj z
                split at z'
                · rw [← z']; exact List.mem_cons_self
                · rw [← z']; exact List.mem_cons_of_mem _ (ih _ eq)
          exact key r d ed
        have := hm d (List.mem_cons_of_mem _ hd)
        dsimp only
        rw [if_pos (by omega)]
    · rw [smallest_of s hr q fun d hd => hm d (List.mem_cons_of_mem _ hd)]
      have h1 := ha c q
      have h2 := hm a List.mem_cons_self
      dsimp only
      rw [if_neg (by omega)]
/-- **the least of those that are waited for, by room, then by number, is what grows** -/
theorem grows_is {s : St} (w : WF s) {m : Nat} (hs : stuck s = 3) (hm : m ∈ waits s) (hl : ∀ x ∈ waits s, (chan s (m - 1)).room < (chan s (x - 1)).room ∨ ((chan s (m - 1)).room = (chan s (x - 1)).room ∧ m ≤ x)) :
    ∃ c, m = c + 1 ∧ c < s.chans.length ∧ smallest s (blocked s) = some c ∧ grows s = { setChan s c { chan s c with room := (chan s c).room + 1 } with grown := s.grown + 1 } := by
  obtain ⟨p, hp, e⟩ := waits_mem.mp hm
  obtain ⟨c, rfl, hc⟩ := stand_chan w hp e (.inr rfl)
  have h1 : smallest s (blocked s) = some c := smallest_of s (blocked_sorted s) (blocked_mem.mpr ⟨hc, hm⟩) fun d hd => by
    obtain ⟨_, h2⟩ := blocked_mem.mp hd
    have := hl (d + 1) h2
    simp only [Nat.add_sub_cancel] at this
    omega
  refine ⟨c, rfl, hc, h1, ?_⟩
  unfold grows
  rw [if_pos hs, h1]
theorem waits_ne {s : St} (hs : stuck s = 3) : waits s ≠ [] := fun z => by
  obtain ⟨p, hp, e⟩ := stuck_three hs
  have : (stand s p).2 ∈ waits s := waits_mem.mpr ⟨p, hp, by rw [← e]⟩
  rw [z] at this
  cases this
/-- the least by a reckoning of two numbers -/
theorem least_of (f : Nat → Nat) : ∀ {l : List Nat}, l ≠ [] → ∃ m ∈ l, ∀ x ∈ l, f m < f x ∨ (f m = f x ∧ m ≤ x)
  | [], h => absurd rfl h
  | [a], _ => ⟨a, List.mem_cons_self, fun x hx => by rw [List.mem_singleton.mp hx]; exact .inr ⟨rfl, Nat.le_refl _⟩⟩
  | a :: b :: r, _ => by
    obtain ⟨m, hm, h⟩ := least_of f (l := b :: r) (by simp)
    by_cases c : f m < f a ∨ (f m = f a ∧ m ≤ a)
    · exact ⟨m, List.mem_cons_of_mem _ hm, fun x hx => by
        rcases List.mem_cons.mp hx with e | e
        · rw [e]; exact c
        · exact h x e⟩
    · refine ⟨a, List.mem_cons_self, fun x hx => ?_⟩
      rcases List.mem_cons.mp hx with e | e
      · rw [e]; exact .inr ⟨rfl, Nat.le_refl _⟩
      · have := h x e
        omega
theorem grows_ok {s : St} (w : WF s) : WF (grows s) ∧ (grows s).procs.length = s.procs.length ∧ (grows s).chans.length = s.chans.length ∧ (grows s).steps = s.steps ∧ s.grown ≤ (grows s).grown ∧ (grows s).grown ≤ s.grown + 1 := by
  by_cases h : stuck s = 3
  · obtain ⟨m, hm, hl⟩ := least_of (fun x => (chan s (x - 1)).room) (waits_ne h)
    obtain ⟨c, rfl, hc, _, e⟩ := grows_is w h hm hl
    rw [e]
    exact ⟨setRoom_ok w hc _, rfl, List.length_set .., rfl, Nat.le_succ _, Nat.le_refl _⟩
  · have e : grows s = s := by unfold grows; rw [if_neg h]
    rw [e]
    exact ⟨w, rfl, rfl, rfl, Nat.le_refl _, Nat.le_succ _⟩

/-- one turn of settle -/
def turn (s : St) : St := if stuck s = 0 then round 1 (all s) s else if stuck s = 3 then grows s else s
def turns : Nat → St → St
  | 0, s => s
  | n + 1, s => turn (turns n s)
theorem turns_head : ∀ (n : Nat) (s : St), turns (n + 1) s = turns n (turn s)
  | 0, _ => rfl
  | n + 1, s => congrArg turn (turns_head n s)
theorem turns_stop {s : St} (h : turn s = s) : ∀ n, turns n s = s
  | 0 => rfl
  | n + 1 => by show turn (turns n s) = s; rw [turns_stop h n, h]
theorem settles_is : ∀ (n : Nat) (s : St), settles n s = turns n s
  | 0, _ => rfl
  | n + 1, s => by
    rw [turns_head]
    unfold settles
    by_cases h0 : stuck s = 0
    · rw [if_pos h0, settles_is n]
      have e : turn s = round 1 (all s) s := if_pos h0
      rw [e]
    · rw [if_neg h0]
      by_cases h3 : stuck s = 3
      · rw [if_pos h3, settles_is n]
        have e : turn s = grows s := by unfold turn; rw [if_neg h0, if_pos h3]
        rw [e]
      · rw [if_neg h3]
        have e : turn s = s := by unfold turn; rw [if_neg h0, if_neg h3]
        rw [e, turns_stop e]
theorem turn_ok {s : St} (w : WF s) : WF (turn s) ∧ (turn s).procs.length = s.procs.length ∧ (turn s).chans.length = s.chans.length ∧ s.steps ≤ (turn s).steps ∧ (turn s).steps ≤ s.steps + 6 ∧ s.grown ≤ (turn s).grown ∧ (turn s).grown ≤ s.grown + 1 := by
  unfold turn
  split
  · obtain ⟨h1, h2, h3, h4, h5, h6⟩ := round_ok 1 (all s) w fun p hp => all_mem.mp hp
    have hl : (all s).length = s.procs.length := List.length_range
    have := w.np
    rw [hl] at h6
    exact ⟨h1, h2, h3, h5, by omega, by omega, by omega⟩
  · split
    · obtain ⟨h1, h2, h3, h4, h5, h6⟩ := grows_ok w
      exact ⟨h1, h2, h3, by omega, by omega, by omega, by omega⟩
    · exact ⟨w, rfl, rfl, Nat.le_refl _, by omega, Nat.le_refl _, by omega⟩
theorem turns_ok {s : St} (w : WF s) : ∀ n, WF (turns n s) ∧ (turns n s).procs.length = s.procs.length ∧ (turns n s).chans.length = s.chans.length ∧ s.steps ≤ (turns n s).steps ∧ (turns n s).steps ≤ s.steps + 6 * n ∧ s.grown ≤ (turns n s).grown ∧ (turns n s).grown ≤ s.grown + n
  | 0 => ⟨w, rfl, rfl, Nat.le_refl _, by show s.steps ≤ s.steps + 6 * 0; omega, Nat.le_refl _, Nat.le_refl _⟩
  | n + 1 => by
    obtain ⟨h1, h2, h3, h4, h5, h6, h7⟩ := turns_ok w n
    obtain ⟨k1, k2, k3, k4, k5, k6, k7⟩ := turn_ok h1
    exact ⟨k1, k2.trans h2, k3.trans h3, Nat.le_trans h4 k4, by show (turn (turns n s)).steps ≤ _; omega, Nat.le_trans h6 k6, by show (turn (turns n s)).grown ≤ _; omega⟩

def rowOf : Instr → List Nat
  | .get x c => [0, x, c + 1, 0]
  | .put x c => [1, x, c + 1, 0]
  | .set x n => [2, x, n, 0]
  | .copy x y => [3, x, y, 0]
  | .plus x y => [4, x, y, 0]
  | .minus x y => [5, x, y, 0]
  | .times x y => [6, x, y, 0]
  | .jump i => [7, i + 1, 0, 0]
  | .zero x i => [8, x, i + 1, 0]
  | .less x y i => [9, x, y, i + 1]
  | .say x => [10, x, 0, 0]
theorem within_iff {a b n : Nat} : within a b n = true ↔ a ≤ n ∧ n ≤ b := by
  unfold within
  rw [Bool.and_eq_true, decide_eq_true_iff, decide_eq_true_iff]
/-- a right one is an instruction, and its row is these four -/
theorem right_instr {s : St} {p n : Nat} {q : Nat × Nat × Nat × Nat} (h : isRight s p n q = true) : ∃ i, instrOf q = some i ∧ rowOf i = [q.1, q.2.1, q.2.2.1, q.2.2.2] ∧ okI s.chans.length n i := by
  unfold isRight at h
  split at h
  · rename_i x c
    simp only [Bool.and_eq_true, decide_eq_true_iff, within_iff] at h
    exact ⟨_, rfl, by show [0, x, c - 1 + 1, 0] = [0, x, c, 0]; rw [Nat.sub_add_cancel h.2.1.1], h.1, by omega⟩
  · rename_i x c
    simp only [Bool.and_eq_true, decide_eq_true_iff, within_iff] at h
    exact ⟨_, rfl, by show [1, x, c - 1 + 1, 0] = [1, x, c, 0]; rw [Nat.sub_add_cancel h.2.1.1], h.1, by omega⟩
  · simp only [Bool.and_eq_true, decide_eq_true_iff] at h
    exact ⟨_, rfl, rfl, h⟩
  · simp only [Bool.and_eq_true, decide_eq_true_iff] at h
    exact ⟨_, rfl, rfl, h⟩
  · simp only [Bool.and_eq_true, decide_eq_true_iff] at h
    exact ⟨_, rfl, rfl, h⟩
  · simp only [Bool.and_eq_true, decide_eq_true_iff] at h
    exact ⟨_, rfl, rfl, h⟩
  · simp only [Bool.and_eq_true, decide_eq_true_iff] at h
    exact ⟨_, rfl, rfl, h⟩
  · rename_i i
    rw [within_iff] at h
    exact ⟨_, rfl, by show [7, i - 1 + 1, 0, 0] = [7, i, 0, 0]; rw [Nat.sub_add_cancel h.1], by show i - 1 ≤ n; omega⟩
  · rename_i x i
    simp only [Bool.and_eq_true, decide_eq_true_iff, within_iff] at h
    exact ⟨_, rfl, by show [8, x, i - 1 + 1, 0] = [8, x, i, 0]; rw [Nat.sub_add_cancel h.2.1], h.1, by omega⟩
  · rename_i x y i
    simp only [Bool.and_eq_true, decide_eq_true_iff, within_iff] at h
    exact ⟨_, rfl, by show [9, x, y, i - 1 + 1] = [9, x, y, i]; rw [Nat.sub_add_cancel h.2.2.1], h.1, h.2.1, by omega⟩
  · simp only [decide_eq_true_iff] at h
    exact ⟨_, rfl, rfl, h⟩
  · cases h
end Ro
end part_M2
section part_M3
set_option autoImplicit false
namespace Ro
open Hs09
theorem init_ok : WF init := by
  refine ⟨by decide, by decide, by decide, fun x hx => ?_, fun c hc => ?_⟩
  · have : x = noProc := by
      rcases List.mem_map.mp hx with ⟨_, _, e⟩
      exact e.symm
    subst this
    exact ⟨by decide, by decide, fun i h => by simp [noProc] at h, rfl, fun v h => by simp [noProc] at h; omega, by decide⟩
  · rcases List.mem_map.mp hc with ⟨y, _, e⟩
    subst e
    exact ⟨Nat.le_refl _, rfl, fun v h => by simp at h, Nat.zero_le _⟩
theorem fresh_ok {n : Nat} {l : List (Nat × Nat × Nat)} (h1 : 1 ≤ n) (h6 : n ≤ 6) (hl : l.length ≤ 10) : WF (fresh n l) := by
  refine ⟨?_, ?_, ?_, fun x hx => ?_, fun c hc => ?_⟩
  · show 1 ≤ ((List.range n).map _).length
    rw [List.length_map, List.length_range]; exact h1
  · show ((List.range n).map _).length ≤ 6
    rw [List.length_map, List.length_range]; exact h6
  · show (l.map _).length ≤ 10
    rw [List.length_map]; exact hl
  · have : x = noProc := by
      rcases List.mem_map.mp hx with ⟨_, _, e⟩
      exact e.symm
    subst this
    exact ⟨Nat.zero_le _, Nat.zero_le _, fun i h => by simp [noProc] at h, rfl, fun v h => by simp [noProc] at h; omega, Nat.zero_le _⟩
  · rcases List.mem_map.mp hc with ⟨y, _, e⟩
    subst e
    exact ⟨Nat.le_refl _, rfl, fun v h => by simp at h, Nat.zero_le _⟩
theorem fours_all : ∀ {l : List Nat}, (fours l).length ≤ l.length
  | [] => Nat.le_refl _
  | [_] => Nat.zero_le _
  | [_, _] => Nat.zero_le _
  | [_, _, _] => Nat.zero_le _
  | a :: b :: c :: d :: r => by
    show (fours r).length + 1 ≤ r.length + 4
    have := fours_all (l := r)
    omega
/-- the instructions of a granted program -/
theorem prog_of {s : St} {p n : Nat} : ∀ {l : List (Nat × Nat × Nat × Nat)}, l.all (isRight s p n) = true → (l.filterMap instrOf).length = l.length ∧ (l.filterMap instrOf).map rowOf = l.map (fun q => [q.1, q.2.1, q.2.2.1, q.2.2.2]) ∧ ∀ i ∈ l.filterMap instrOf, okI s.chans.length n i
  | [], _ => ⟨rfl, rfl, fun i h => by cases h⟩
  | q :: l, h => by
    rw [List.all_cons, Bool.and_eq_true] at h
    obtain ⟨i, hi, hr, hok⟩ := right_instr h.1
    obtain ⟨h1, h2, h3⟩ := prog_of h.2
    rw [List.filterMap_cons, hi]
    refine ⟨by simp [h1], by simp [h2, hr], fun j hj => ?_⟩
    rcases List.mem_cons.mp hj with e | e
    · rw [e]; exact hok
    · exact h3 j e
theorem fours_len4 : ∀ {l : List Nat} {m : Nat}, l.length = 4 * m → (fours l).length = m
  | [], m, h => by simp at h; show 0 = m; omega
  | [_], m, h => by simp at h; omega
  | [_, _], m, h => by simp at h; omega
  | [_, _, _], m, h => by simp at h; omega
  | a :: b :: c :: d :: r, m, h => by
    simp at h
    show (fours r).length + 1 = m
    rw [fours_len4 (m := m - 1) (by omega)]
    omega
theorem program_ok {s : St} (w : WF s) {p : Nat} {l : List Nat} (h4 : l.length % 4 = 0) (h96 : l.length ≤ 96) (ha : (fours l).all (isRight s (p - 1) (l.length / 4)) = true) : WF (setProc s (p - 1) { noProc with prog := (fours l).filterMap instrOf }) := by
  obtain ⟨h1, h2, h3⟩ := prog_of ha
  have e : (fours l).length = l.length / 4 := fours_len4 (by omega)
  refine w.movedP (k := s.steps) (Nat.le_refl _) ⟨?_, Nat.zero_le _, fun i hi => ?_, rfl, fun v h => ?_, Nat.zero_le _⟩
  · show ((fours l).filterMap instrOf).length ≤ 24
    omega
  · show okI s.chans.length ((fours l).filterMap instrOf).length i
    rw [h1, e]
    exact h3 i hi
  · simp [noProc] at h; omega
theorem isProc_iff {s : St} {p : Nat} : isProc s p = true ↔ 1 ≤ p ∧ p ≤ s.procs.length := within_iff
theorem isChan_iff {s : St} {c : Nat} : isChan s c = true ↔ 1 ≤ c ∧ c ≤ s.chans.length := within_iff
theorem threes_len3 : ∀ {l : List Nat}, (threes l).length ≤ l.length / 3
  | [] => Nat.zero_le _
  | [_] => Nat.zero_le _
  | [_, _] => Nat.zero_le _
  | a :: b :: c :: r => by
    show (threes r).length + 1 ≤ (r.length + 3) / 3
    have := threes_len3 (l := r)
    omega
/-- **each call leaves a state that stands, and at most 1200 steps more** -/
theorem step_ok {s : St} (w : WF s) (c : Call) : WF (step s c).1 ∧ (step s c).1.steps ≤ s.steps + 1200 := by
  cases c with
  | net n l =>
    unfold step
    dsimp only
    split
    · exact ⟨w, by show s.steps ≤ s.steps + 1200; omega⟩
    · rename_i h1
      split
      · exact ⟨w, by show s.steps ≤ s.steps + 1200; omega⟩
      · rename_i h2
        have h1 : within 1 6 n = true := by
          cases e : within 1 6 n with
          | true => rfl
          | false => exact absurd e h1
        rw [within_iff] at h1
        have h3 : ¬ 30 < l.length := fun z => h2 (.inr (.inl z))
        have := threes_len3 (l := l)
        exact ⟨fresh_ok h1.1 h1.2 (by omega), Nat.zero_le _⟩
  | program p l =>
    unfold step
    dsimp only
    split
    · exact ⟨w, by show s.steps ≤ s.steps + 1200; omega⟩
    · split
      · exact ⟨w, by show s.steps ≤ s.steps + 1200; omega⟩
      · split
        · exact ⟨w, by show s.steps ≤ s.steps + 1200; omega⟩
        · rename_i h2
          have h3 : (fours l).all (isRight s (p - 1) (l.length / 4)) = true := by
            cases e : (fours l).all (isRight s (p - 1) (l.length / 4)) with
            | true => rfl
            | false => exact absurd (.inr (.inr e)) h2
          have h4 : ¬ 96 < l.length := fun z => h2 (.inr (.inl z))
          have h5 : l.length % 4 = 0 := by
            by_cases z : l.length % 4 = 0
            · exact z
            · exact absurd (.inl z) h2
          exact ⟨program_ok w h5 (by omega) h3, by show s.steps ≤ _; omega⟩
  | run p n =>
    unfold step
    dsimp only
    split
    · exact ⟨w, by show s.steps ≤ s.steps + 1200; omega⟩
    · rename_i h1
      split
      · exact ⟨w, by show s.steps ≤ s.steps + 1200; omega⟩
      · have h1 : isProc s p = true := by
          cases e : isProc s p with
          | true => rfl
          | false => exact absurd e h1
        rw [isProc_iff] at h1
        obtain ⟨a, -, -, -, -, b⟩ := runs_ok n w (p := p - 1) (by omega)
        exact ⟨a, by show (runs n s (p - 1)).steps ≤ _; omega⟩
  | round n =>
    unfold step
    dsimp only
    split
    · exact ⟨w, by show s.steps ≤ s.steps + 1200; omega⟩
    · obtain ⟨a, -, -, -, -, b⟩ := round_ok n (all s) w fun p hp => all_mem.mp hp
      refine ⟨a, ?_⟩
      have hl : (all s).length = s.procs.length := List.length_range
      rw [hl] at b
      have : n * s.procs.length ≤ 20 * 6 := Nat.mul_le_mul (by omega) w.np
      show (Hs09.round n (all s) s).steps ≤ _
      omega
  | settle n =>
    unfold step
    dsimp only
    split
    · exact ⟨w, by show s.steps ≤ s.steps + 1200; omega⟩
    · obtain ⟨a, -, -, -, b, -⟩ := turns_ok w n
      dsimp only
      rw [settles_is]
      exact ⟨a, by omega⟩
  | stuck => exact ⟨w, by show s.steps ≤ _; omega⟩
  | grow =>
    unfold step
    dsimp only
    split
    · exact ⟨w, by show s.steps ≤ s.steps + 1200; omega⟩
    · obtain ⟨a, -, -, b, -⟩ := grows_ok w
      exact ⟨a, by show (grows s).steps ≤ _; omega⟩
  | widen c r =>
    unfold step
    dsimp only
    split
    · exact ⟨w, by show s.steps ≤ s.steps + 1200; omega⟩
    · rename_i h1
      split
      · exact ⟨w, by show s.steps ≤ s.steps + 1200; omega⟩
      · have h1 : isChan s c = true := by
          cases e : isChan s c with
          | true => rfl
          | false => exact absurd e h1
        rw [isChan_iff] at h1
        exact ⟨setRoom_ok w (c := c - 1) (n := r) (by omega) s.grown, by show s.steps ≤ _; omega⟩
  | process p => exact ⟨w, by show s.steps ≤ _; omega⟩
  | said p => exact ⟨w, by show s.steps ≤ _; omega⟩
  | channel c => exact ⟨w, by show s.steps ≤ _; omega⟩
  | wrote c => exact ⟨w, by show s.steps ≤ _; omega⟩
  | counts => exact ⟨w, by show s.steps ≤ _; omega⟩
end Ro
end part_M3
section part_M4
set_option autoImplicit false
set_option linter.unusedVariables false
set_option linter.unusedSimpArgs false
namespace Ro
open Hs09
def need1 (f : Nat → Call) (ns : List Nat) (k : Nat) (c : Call) (k' : Nat) : Prop := ∃ x, ns[k]? = some x ∧ c = f x ∧ k' = k + 1
def need2 (f : Nat → Nat → Call) (ns : List Nat) (k : Nat) (c : Call) (k' : Nat) : Prop := ∃ x y, ns[k]? = some x ∧ ns[k + 1]? = some y ∧ c = f x y ∧ k' = k + 2
def need0 (f : Call) (ns : List Nat) (k : Nat) (c : Call) (k' : Nat) : Prop := c = f ∧ k' = k
def needR (most : Nat) (f : Nat → List Nat → Call) (ns : List Nat) (k : Nat) (c : Call) (k' : Nat) : Prop := ∃ x m, ns[k]? = some x ∧ ns[k + 1]? = some m ∧ k + 2 + m ≤ ns.length ∧ m ≤ most ∧ c = f x ((ns.drop (k + 2)).take m) ∧ k' = k + 2 + m
/-- which numbers the op-th call wants behind its own -/
def needOf : Nat → List Nat → Nat → Call → Nat → Prop
  | 0 => needR 36 .net
  | 1 => needR 104 .program
  | 2 => need2 .run
  | 3 => need1 .round
  | 4 => need1 .settle
  | 5 => need0 .stuck
  | 6 => need0 .grow
  | 7 => need2 .widen
  | 8 => need1 .process
  | 9 => need1 .said
  | 10 => need1 .channel
  | 11 => need1 .wrote
  | 12 => need0 .counts
  | _ => fun _ _ _ _ => False
abbrev zI (l : List Nat) : List Int := l.map fun (n : Nat) => (n : Int)
section
variable {p : Int} {r t : List Int} {c : List (List Int)}
theorem form0 (hs : PyHs09.shape p = some (0, 0)) (h : PyFlat.call PyHs09.shape (p :: r) = some (c, t)) : c = [[p]] ∧ t = r := by
  unfold PyFlat.call at h
  dsimp only at h
  rw [hs] at h
  simp [PyFlat.rows] at h
  exact ⟨h.1.symm, h.2.symm⟩
theorem form1 (hs : PyHs09.shape p = some (1, 0)) (h : PyFlat.call PyHs09.shape (p :: r) = some (c, t)) : ∃ x, r = x :: t ∧ c = [[p, x]] := by
  unfold PyFlat.call at h
  dsimp only at h
  rw [hs] at h
  cases r with
  | nil => simp at h
  | cons x r =>
    simp [PyFlat.rows] at h
    exact ⟨x, by rw [h.2], h.1.symm⟩
theorem form2 (hs : PyHs09.shape p = some (2, 0)) (h : PyFlat.call PyHs09.shape (p :: r) = some (c, t)) : ∃ x y, r = x :: y :: t ∧ c = [[p, x, y]] := by
  unfold PyFlat.call at h
  dsimp only at h
  rw [hs] at h
  match r, h with
  | [], h => simp at h
  | [x], h => simp at h
  | x :: y :: r, h =>
    have n : ¬ (r.length + 1 + 1 < 2) := by omega
    simp [PyFlat.rows, n] at h
    exact ⟨x, y, by rw [h.2], h.1.symm⟩
theorem formR (hs : PyHs09.shape p = some (1, 1)) (h : PyFlat.call PyHs09.shape (p :: r) = some (c, t)) : ∃ x m r', r = x :: m :: r' ∧ 0 ≤ m ∧ m.toNat ≤ r'.length ∧ c = [[p, x], r'.take m.toNat] ∧ t = r'.drop m.toNat := by
  unfold PyFlat.call at h
  dsimp only at h
  rw [hs] at h
  match r, h with
  | [], h => simp at h
  | [x], h => simp [PyFlat.rows, PyFlat.row] at h
  | x :: m :: r, h =>
    have n : ¬ (r.length + 1 + 1 < 1) := by omega
    by_cases q : 0 ≤ m ∧ m.toNat ≤ r.length
    · simp [PyFlat.rows, PyFlat.row, n, q] at h
      exact ⟨x, m, r, rfl, q.1, q.2, h.1.symm, h.2.symm⟩
    · have q' : ¬ (0 ≤ m ∧ m ≤ (r.length : Int)) := by omega
      simp [PyFlat.rows, PyFlat.row, n, q'] at h
end
theorem callOf_eq {c : List (List Int)} {x : Call} (h : Hs09Neutral.callOf c = some x) : Hs09Neutral.callIn (c.map fun r => r.map Int.toNat) = some x := by
  unfold Hs09Neutral.callOf at h
  split at h
  · cases h
  · exact h
theorem zI_drop (ns : List Nat) (k : Nat) : (zI ns).drop k = zI (ns.drop k) := List.map_drop.symm
theorem zI_toNat : ∀ l : List Nat, (zI l).map Int.toNat = l
  | [] => rfl
  | a :: l => by
    show ((a : Int).toNat) :: (zI l).map Int.toNat = a :: l
    rw [zI_toNat l, Int.toNat_natCast]
theorem zI_take (ns : List Nat) (k : Nat) : (zI ns).take k = zI (ns.take k) := List.map_take.symm
theorem drop_cons2 {α : Type} {l : List α} {k : Nat} {x : α} {r : List α} (h : l.drop k = x :: r) : l[k]? = some x ∧ l.drop (k + 1) = r := by
  constructor
  · have := congrArg (fun q => q[0]?) h
    simpa using this
  · rw [← List.tail_drop, h]; rfl
/-- **one call is read** -/
theorem decode {ns : List Nat} {k : Nat} {c : List (List Int)} {t : List Int} {x : Call} (h : PyFlat.call PyHs09.shape ((zI ns).drop k) = some (c, t)) (hc : Hs09Neutral.callOf (PyHs09.whole c) = some x) (hin : PyInside.call PyHs09.bound c = true) :
    ∃ op k', ns[k]? = some op ∧ op < 13 ∧ needOf op ns (k + 1) x k' ∧ t = (zI ns).drop k' ∧ k < k' := by
  rw [zI_drop] at h
  cases hd : ns.drop k with
  | nil => rw [hd] at h; cases h
  | cons op r =>
    rw [hd] at h
    obtain ⟨h0, h1⟩ := drop_cons2 hd
    have h : PyFlat.call PyHs09.shape ((op : Int) :: zI r) = some (c, t) := h
    have g0 : ∀ (f : Call), PyHs09.shape (op : Int) = some (0, 0) → (∀ c, c = [[(op : Int)]] → Hs09Neutral.callOf (PyHs09.whole c) = some x → x = f) → ∃ k', need0 f ns (k + 1) x k' ∧ t = (zI ns).drop k' ∧ k < k' := fun f hs hf => by
      obtain ⟨e1, e2⟩ := form0 hs h
      exact ⟨k + 1, ⟨hf c e1 hc, rfl⟩, by rw [zI_drop, h1, e2], by omega⟩
    have g1 : ∀ (f : Nat → Call), PyHs09.shape (op : Int) = some (1, 0) → (∀ n : Nat, Hs09Neutral.callOf (PyHs09.whole [[(op : Int), (n : Int)]]) = some x → x = f n) → ∃ k', need1 f ns (k + 1) x k' ∧ t = (zI ns).drop k' ∧ k < k' := fun f hs hf => by
      obtain ⟨y, e1, e2⟩ := form1 hs h
      cases r with
      | nil => cases e1
      | cons n r =>
        obtain ⟨a, b⟩ := List.cons.inj e1
        obtain ⟨h2, h3⟩ := drop_cons2 h1
        rw [e2, ← a] at hc
        exact ⟨k + 1 + 1, ⟨n, h2, hf n hc, rfl⟩, by rw [zI_drop, h3, ← b], by omega⟩
    have g2 : ∀ (f : Nat → Nat → Call), PyHs09.shape (op : Int) = some (2, 0) → (∀ n m : Nat, Hs09Neutral.callOf (PyHs09.whole [[(op : Int), (n : Int), (m : Int)]]) = some x → x = f n m) → ∃ k', need2 f ns (k + 1) x k' ∧ t = (zI ns).drop k' ∧ k < k' := fun f hs hf => by
      obtain ⟨y, z, e1, e2⟩ := form2 hs h
      match r, e1, h1 with
      | [], e1, _ => cases e1
      | [n], e1, _ => cases e1
      | n :: m :: r, e1, h1 =>
        obtain ⟨a, b⟩ := List.cons.inj e1
        obtain ⟨a2, b2⟩ := List.cons.inj b
        obtain ⟨h2, h3⟩ := drop_cons2 h1
        obtain ⟨h4, h5⟩ := drop_cons2 h3
        rw [e2, ← a, ← a2] at hc
        exact ⟨k + 1 + 2, ⟨n, m, h2, h4, hf n m hc, rfl⟩, by rw [zI_drop, h5, ← b2], by omega⟩
    have gR : ∀ (f : Nat → List Nat → Call) (most : Nat), PyHs09.shape (op : Int) = some (1, 1) → (∀ (n : Nat) (l : List Nat), Hs09Neutral.callOf (PyHs09.whole [[(op : Int), (n : Int)], zI l]) = some x → x = f n l) → (∀ (n : Int) (l : List Int), PyInside.call PyHs09.bound [[(op : Int), n], l] = true → l.length ≤ most) → ∃ k', needR most f ns (k + 1) x k' ∧ t = (zI ns).drop k' ∧ k < k' := fun f most hs hf hm => by
      obtain ⟨y, z, r', e1, z0, zl, e2, e3⟩ := formR hs h
      match r, e1, h1 with
      | [], e1, _ => cases e1
      | [n], e1, _ => cases e1
      | n :: m :: r, e1, h1 =>
        obtain ⟨a, b⟩ := List.cons.inj e1
        obtain ⟨a2, b2⟩ := List.cons.inj b
        have b2 : zI r = r' := b2
        have a2 : (m : Int) = z := a2
        have a : (n : Int) = y := a
        obtain ⟨h2, h3⟩ := drop_cons2 h1
        obtain ⟨h4, h5⟩ := drop_cons2 h3
        have h5 : ns.drop (k + 1 + 2) = r := h5
        subst a a2 b2
        rw [Int.toNat_natCast, List.length_map] at zl
        rw [Int.toNat_natCast, zI_take] at e2
        rw [Int.toNat_natCast] at e3
        rw [e2] at hc hin
        have hl := hm _ _ hin
        rw [List.length_map, List.length_take] at hl
        have hlen : r.length = ns.length - (k + 1 + 2) := by rw [← h5, List.length_drop]
        have hk : k + 1 + 1 < ns.length := (List.getElem?_eq_some_iff.mp h4).1
        refine ⟨k + 1 + 2 + m, ⟨n, m, h2, h4, by omega, by omega, ?_, rfl⟩, ?_, by omega⟩
        · rw [h5]; exact hf n _ hc
        · rw [e3, zI_drop, zI_drop, ← h5, List.drop_drop]
    match op, h0, h, g0, g1, g2, gR with
    | 0, h0, h, g0, g1, g2, gR =>
      obtain ⟨k', q⟩ := gR .net 36 rfl (fun n l e => by
        have := callOf_eq e
        rw [show PyHs09.whole [[((0 : Nat) : Int), (n : Int)], zI l] = [[((0 : Nat) : Int), (n : Int)], zI l] from rfl] at this
        simp only [List.map_cons, List.map_nil, zI_toNat, Int.toNat_natCast] at this
        exact (Option.some.inj this).symm) (fun n l e => by simp [PyInside.call, PyHs09.bound, PyInside.lists] at e; exact e.2.1)
      exact ⟨0, k', h0, by omega, q⟩
    | 1, h0, h, g0, g1, g2, gR =>
      obtain ⟨k', q⟩ := gR .program 104 rfl (fun n l e => by
        have := callOf_eq e
        rw [show PyHs09.whole [[((1 : Nat) : Int), (n : Int)], zI l] = [[((1 : Nat) : Int), (n : Int)], zI l] from rfl] at this
        simp only [List.map_cons, List.map_nil, zI_toNat, Int.toNat_natCast] at this
        exact (Option.some.inj this).symm) (fun n l e => by simp [PyInside.call, PyHs09.bound, PyInside.lists] at e; exact e.2.1)
      exact ⟨1, k', h0, by omega, q⟩
    | 2, h0, h, g0, g1, g2, gR =>
      obtain ⟨k', q⟩ := g2 .run rfl (fun n m e => by
        have := callOf_eq e
        rw [show PyHs09.whole [[((2 : Nat) : Int), (n : Int), (m : Int)]] = [[((2 : Nat) : Int), (n : Int), (m : Int)]] from rfl] at this
        simp only [List.map_cons, List.map_nil, zI_toNat, Int.toNat_natCast] at this
        exact (Option.some.inj this).symm)
      exact ⟨2, k', h0, by omega, q⟩
    | 3, h0, h, g0, g1, g2, gR =>
      obtain ⟨k', q⟩ := g1 .round rfl (fun n e => by
        have := callOf_eq e
        rw [show PyHs09.whole [[((3 : Nat) : Int), (n : Int)]] = [[((3 : Nat) : Int), (n : Int)]] from rfl] at this
        simp only [List.map_cons, List.map_nil, zI_toNat, Int.toNat_natCast] at this
        exact (Option.some.inj this).symm)
      exact ⟨3, k', h0, by omega, q⟩
    | 4, h0, h, g0, g1, g2, gR =>
      obtain ⟨k', q⟩ := g1 .settle rfl (fun n e => by
        have := callOf_eq e
        rw [show PyHs09.whole [[((4 : Nat) : Int), (n : Int)]] = [[((4 : Nat) : Int), (n : Int)]] from rfl] at this
        simp only [List.map_cons, List.map_nil, zI_toNat, Int.toNat_natCast] at this
        exact (Option.some.inj this).symm)
      exact ⟨4, k', h0, by omega, q⟩
    | 5, h0, h, g0, g1, g2, gR =>
      obtain ⟨k', q⟩ := g0 .stuck rfl (fun c e1 e => by
        subst e1
        have := callOf_eq e
        exact (Option.some.inj this).symm)
      exact ⟨5, k', h0, by omega, q⟩
    | 6, h0, h, g0, g1, g2, gR =>
      obtain ⟨k', q⟩ := g0 .grow rfl (fun c e1 e => by
        subst e1
        have := callOf_eq e
        exact (Option.some.inj this).symm)
      exact ⟨6, k', h0, by omega, q⟩
    | 7, h0, h, g0, g1, g2, gR =>
      obtain ⟨k', q⟩ := g2 .widen rfl (fun n m e => by
        have := callOf_eq e
        rw [show PyHs09.whole [[((7 : Nat) : Int), (n : Int), (m : Int)]] = [[((7 : Nat) : Int), (n : Int), (m : Int)]] from rfl] at this
        simp only [List.map_cons, List.map_nil, zI_toNat, Int.toNat_natCast] at this
        exact (Option.some.inj this).symm)
      exact ⟨7, k', h0, by omega, q⟩
    | 8, h0, h, g0, g1, g2, gR =>
      obtain ⟨k', q⟩ := g1 .process rfl (fun n e => by
        have := callOf_eq e
        rw [show PyHs09.whole [[((8 : Nat) : Int), (n : Int)]] = [[((8 : Nat) : Int), (n : Int)]] from rfl] at this
        simp only [List.map_cons, List.map_nil, zI_toNat, Int.toNat_natCast] at this
        exact (Option.some.inj this).symm)
      exact ⟨8, k', h0, by omega, q⟩
    | 9, h0, h, g0, g1, g2, gR =>
      obtain ⟨k', q⟩ := g1 .said rfl (fun n e => by
        have := callOf_eq e
        rw [show PyHs09.whole [[((9 : Nat) : Int), (n : Int)]] = [[((9 : Nat) : Int), (n : Int)]] from rfl] at this
        simp only [List.map_cons, List.map_nil, zI_toNat, Int.toNat_natCast] at this
        exact (Option.some.inj this).symm)
      exact ⟨9, k', h0, by omega, q⟩
    | 10, h0, h, g0, g1, g2, gR =>
      obtain ⟨k', q⟩ := g1 .channel rfl (fun n e => by
        have := callOf_eq e
        rw [show PyHs09.whole [[((10 : Nat) : Int), (n : Int)]] = [[((10 : Nat) : Int), (n : Int)]] from rfl] at this
        simp only [List.map_cons, List.map_nil, zI_toNat, Int.toNat_natCast] at this
        exact (Option.some.inj this).symm)
      exact ⟨10, k', h0, by omega, q⟩
    | 11, h0, h, g0, g1, g2, gR =>
      obtain ⟨k', q⟩ := g1 .wrote rfl (fun n e => by
        have := callOf_eq e
        rw [show PyHs09.whole [[((11 : Nat) : Int), (n : Int)]] = [[((11 : Nat) : Int), (n : Int)]] from rfl] at this
        simp only [List.map_cons, List.map_nil, zI_toNat, Int.toNat_natCast] at this
        exact (Option.some.inj this).symm)
      exact ⟨11, k', h0, by omega, q⟩
    | 12, h0, h, g0, g1, g2, gR =>
      obtain ⟨k', q⟩ := g0 .counts rfl (fun c e1 e => by
        subst e1
        have := callOf_eq e
        exact (Option.some.inj this).symm)
      exact ⟨12, k', h0, by omega, q⟩
    | n + 13, h0, h, g0, g1, g2, gR =>
      exfalso
      have hs : PyHs09.shape ((n + 13 : Nat) : Int) = none := by
        unfold PyHs09.shape
        rw [if_neg (by omega), if_neg (by omega), if_neg (by omega), if_neg (by omega), if_neg (by omega), if_neg (by omega), if_neg (by omega), if_neg (by omega), if_neg (by omega), if_neg (by omega), if_neg (by omega), if_neg (by omega), if_neg (by omega)]
      unfold PyFlat.call at h
      dsimp only at h
      rw [hs] at h
      cases h
/-- calls that may be asked, still to come -/
structure Ready (rest : List (List (List Int))) : Prop where
  within : ∀ c ∈ rest, PyInside.call PyHs09.bound c = true
  one : ∀ c ∈ rest, ∃ x, Hs09Neutral.callOf (PyHs09.whole c) = some x
/-- the answers of what is still to come -/
def toldOf (s : St) (rest : List (List (List Int))) : List Int := PyFlat.told (PyFlat.played Hs09Neutral.step s (rest.map PyHs09.whole))
theorem toldOf_nil (s : St) : toldOf s [] = [] := rfl
theorem toldOf_cons {s : St} {c : List (List Int)} {rest : List (List (List Int))} {x : Call} (h : Hs09Neutral.callOf (PyHs09.whole c) = some x) : toldOf s (c :: rest) = (((step s x).2.length : Int) :: (step s x).2) ++ toldOf (step s x).1 rest := by
  have e : Hs09Neutral.step s (PyHs09.whole c) = step s x := by unfold Hs09Neutral.step; rw [h]
  unfold toldOf
  rw [List.map_cons]
  show PyFlat.told ((Hs09Neutral.step s (PyHs09.whole c)).2 :: PyFlat.played Hs09Neutral.step (Hs09Neutral.step s (PyHs09.whole c)).1 (rest.map PyHs09.whole)) = _
  rw [e]
  unfold PyFlat.told
  rw [List.flatMap_cons]
theorem calls_end {f : Nat} {rest : List (List (List Int))} (h : PyFlat.calls PyHs09.shape f [] = some rest) : rest = [] := by
  cases f <;> exact (Option.some.inj h).symm
theorem calls_more {f : Nat} {p : Int} {r : List Int} {rest : List (List (List Int))} (h : PyFlat.calls PyHs09.shape f (p :: r) = some rest) : ∃ g c t rest', f = g + 1 ∧ PyFlat.call PyHs09.shape (p :: r) = some (c, t) ∧ PyFlat.calls PyHs09.shape g t = some rest' ∧ rest = c :: rest' := by
  cases f with
  | zero => cases h
  | succ g =>
    unfold PyFlat.calls at h
    cases e : PyFlat.call PyHs09.shape (p :: r) with
    | none => rw [e] at h; cases h
    | some ct =>
      obtain ⟨c, t⟩ := ct
      rw [e] at h
      dsimp only at h
      cases e2 : PyFlat.calls PyHs09.shape g t with
      | none => rw [e2] at h; cases h
      | some rest' =>
        rw [e2] at h
        exact ⟨g, c, t, rest', rfl, rfl, e2, (Option.some.inj h).symm⟩
/-- **one call is taken from what is to come** -/
theorem next_call {ns : List Nat} {k f : Nat} {rest : List (List (List Int))} (h : PyFlat.calls PyHs09.shape f ((zI ns).drop k) = some rest) (hr : Ready rest) (hk : k < ns.length) :
    ∃ op x k' g rest', ns[k]? = some op ∧ op < 13 ∧ needOf op ns (k + 1) x k' ∧ k < k' ∧ PyFlat.calls PyHs09.shape g ((zI ns).drop k') = some rest' ∧ Ready rest' ∧ rest.length = rest'.length + 1 ∧ ∀ s, toldOf s rest = (((step s x).2.length : Int) :: (step s x).2) ++ toldOf (step s x).1 rest' := by
  cases hd : (zI ns).drop k with
  | nil =>
    have := congrArg List.length hd
    rw [List.length_drop, List.length_map] at this
    simp at this
    omega
  | cons p r =>
    rw [hd] at h
    obtain ⟨g, c, t, rest', -, hc, hg, rfl⟩ := calls_more h
    obtain ⟨x, hx⟩ := hr.one c List.mem_cons_self
    rw [← hd] at hc
    obtain ⟨op, k', h1, h2, h3, h4, h5⟩ := decode hc hx (hr.within c List.mem_cons_self)
    rw [h4] at hg
    exact ⟨op, x, k', g, rest', h1, h2, h3, h5, hg, ⟨fun c hc => hr.within c (List.mem_cons_of_mem _ hc), fun c hc => hr.one c (List.mem_cons_of_mem _ hc)⟩, rfl, fun s => toldOf_cons hx⟩
/-- what is asked -/
theorem asked_of {l : List Int} (h : PyHs09.answers_asked l = true) : ∃ rest, PyFlat.calls PyHs09.shape l.length l = some rest ∧ Ready rest ∧ rest.length ≤ 60 ∧ PyHs09.answers l = toldOf init rest ∧ (PyHs09.answers l).length ≤ 10000000 := by
  unfold PyHs09.answers_asked at h
  cases e : PyFlat.calls PyHs09.shape l.length l with
  | none => rw [e] at h; cases h
  | some rest =>
    rw [e] at h
    dsimp only at h
    simp only [Bool.and_eq_true] at h
    obtain ⟨⟨⟨⟨-, h60⟩, hin⟩, hask⟩, hshort⟩ := h
    refine ⟨rest, rfl, ⟨fun c hc => List.all_eq_true.mp hin c hc, fun c hc => ?_⟩, of_decide_eq_true h60, ?_, of_decide_eq_true hshort⟩
    · unfold Hs09Neutral.asked at hask
      rw [Bool.and_eq_true] at hask
      have := List.all_eq_true.mp hask.1 (PyHs09.whole c) (List.mem_map.mpr ⟨c, hc, rfl⟩)
      exact Option.isSome_iff_exists.mp this
    · unfold PyHs09.answers PyHs09.calls
      rw [e]
      rfl
end Ro
end part_M4
section part_P0
set_option linter.unusedVariables false
set_option maxRecDepth 100000
set_option maxHeartbeats 2000000
namespace Ro
open PySem PySem.Spec PyProof.Rows L2
theorem lk_here {k : Str} {v : V} {r : List (Str × V)} : List.lookup k ((k, v) :: r) = some v := by
  have e : (k == k) = true := beq_self_eq_true k
  simp only [List.lookup, e]
theorem lk_past {k g : Str} {v : V} {r : List (Str × V)} (h : (k == g) = false) : List.lookup k ((g, v) :: r) = List.lookup k r := by
  simp only [List.lookup, h]
theorem put_here {f : Str} {v x : V} {r : List (Str × V)} : putF f v ((f, x) :: r) = (f, v) :: r := if_pos rfl
theorem put_past {f g : Str} {v x : V} {r : List (Str × V)} (h : ¬ g = f) : putF f v ((g, x) :: r) = (g, x) :: putF f v r := if_neg h
theorem putF_end {f : Str} {v : V} {keys : List Str} : ∀ {fs : List (Str × V)}, fs.map (·.1) = keys → (keys.all fun g => decide (¬ g = f)) = true → putF f v fs = fs ++ [(f, v)]
  | [], _, _ => rfl
  | (g, x) :: r, e, h => by
    subst e
    rw [List.map_cons, List.all_cons, Bool.and_eq_true] at h
    rw [put_past (of_decide_eq_true h.1), putF_end (fs := r) rfl h.2]
    rfl
theorem int_dec (a b : Int) : decide (V.int a = V.int b) = decide (a = b) := by
  by_cases e : a = b
  · rw [decide_eq_true e, decide_eq_true (by rw [e])]
  · rw [decide_eq_false e, decide_eq_false (fun z => e (V.int.inj z))]
/-- Channel -/
def chF (a : Int) (b : Int) (c : Int) (d : Addr) (e : Int) : List (Str × V) := [("writer", .int a), ("reader", .int b), ("room", .int c), ("written", .ref d), ("taken", .int e)]
theorem chF_writer (a : Int) (b : Int) (c : Int) (d : Addr) (e : Int) : (chF a b c d e).lookup ("writer" : Str) = some (.int a) := lk_here
theorem chF_put_writer (a : Int) (b : Int) (c : Int) (d : Addr) (e : Int) (z : Int) : putF "writer" (.int z) (chF a b c d e) = chF z b c d e := put_here
theorem chF_reader (a : Int) (b : Int) (c : Int) (d : Addr) (e : Int) : (chF a b c d e).lookup ("reader" : Str) = some (.int b) := (lk_past (by decide +kernel)).trans (lk_here)
theorem chF_put_reader (a : Int) (b : Int) (c : Int) (d : Addr) (e : Int) (z : Int) : putF "reader" (.int z) (chF a b c d e) = chF a z c d e := (put_past (by decide +kernel)).trans (congrArg _ (put_here))
theorem chF_room (a : Int) (b : Int) (c : Int) (d : Addr) (e : Int) : (chF a b c d e).lookup ("room" : Str) = some (.int c) := (lk_past (by decide +kernel)).trans ((lk_past (by decide +kernel)).trans (lk_here))
theorem chF_put_room (a : Int) (b : Int) (c : Int) (d : Addr) (e : Int) (z : Int) : putF "room" (.int z) (chF a b c d e) = chF a b z d e := (put_past (by decide +kernel)).trans (congrArg _ ((put_past (by decide +kernel)).trans (congrArg _ (put_here))))
theorem chF_written (a : Int) (b : Int) (c : Int) (d : Addr) (e : Int) : (chF a b c d e).lookup ("written" : Str) = some (.ref d) := (lk_past (by decide +kernel)).trans ((lk_past (by decide +kernel)).trans ((lk_past (by decide +kernel)).trans (lk_here)))
theorem chF_put_written (a : Int) (b : Int) (c : Int) (d : Addr) (e : Int) (z : Addr) : putF "written" (.ref z) (chF a b c d e) = chF a b c z e := (put_past (by decide +kernel)).trans (congrArg _ ((put_past (by decide +kernel)).trans (congrArg _ ((put_past (by decide +kernel)).trans (congrArg _ (put_here))))))
theorem chF_taken (a : Int) (b : Int) (c : Int) (d : Addr) (e : Int) : (chF a b c d e).lookup ("taken" : Str) = some (.int e) := (lk_past (by decide +kernel)).trans ((lk_past (by decide +kernel)).trans ((lk_past (by decide +kernel)).trans ((lk_past (by decide +kernel)).trans (lk_here))))
theorem chF_put_taken (a : Int) (b : Int) (c : Int) (d : Addr) (e : Int) (z : Int) : putF "taken" (.int z) (chF a b c d e) = chF a b c d z := (put_past (by decide +kernel)).trans (congrArg _ ((put_past (by decide +kernel)).trans (congrArg _ ((put_past (by decide +kernel)).trans (congrArg _ ((put_past (by decide +kernel)).trans (congrArg _ (put_here))))))))
theorem chF_no_is_empty (a : Int) (b : Int) (c : Int) (d : Addr) (e : Int) : (chF a b c d e).lookup ("is_empty" : Str) = none := (lk_past (by decide +kernel)).trans ((lk_past (by decide +kernel)).trans ((lk_past (by decide +kernel)).trans ((lk_past (by decide +kernel)).trans ((lk_past (by decide +kernel)).trans (rfl)))))
theorem chF_no_is_full (a : Int) (b : Int) (c : Int) (d : Addr) (e : Int) : (chF a b c d e).lookup ("is_full" : Str) = none := (lk_past (by decide +kernel)).trans ((lk_past (by decide +kernel)).trans ((lk_past (by decide +kernel)).trans ((lk_past (by decide +kernel)).trans ((lk_past (by decide +kernel)).trans (rfl)))))
theorem chF_no_take (a : Int) (b : Int) (c : Int) (d : Addr) (e : Int) : (chF a b c d e).lookup ("take" : Str) = none := (lk_past (by decide +kernel)).trans ((lk_past (by decide +kernel)).trans ((lk_past (by decide +kernel)).trans ((lk_past (by decide +kernel)).trans ((lk_past (by decide +kernel)).trans (rfl)))))
theorem chF_no_put (a : Int) (b : Int) (c : Int) (d : Addr) (e : Int) : (chF a b c d e).lookup ("put" : Str) = none := (lk_past (by decide +kernel)).trans ((lk_past (by decide +kernel)).trans ((lk_past (by decide +kernel)).trans ((lk_past (by decide +kernel)).trans ((lk_past (by decide +kernel)).trans (rfl)))))
theorem chF_no_on_it (a : Int) (b : Int) (c : Int) (d : Addr) (e : Int) : (chF a b c d e).lookup ("on_it" : Str) = none := (lk_past (by decide +kernel)).trans ((lk_past (by decide +kernel)).trans ((lk_past (by decide +kernel)).trans ((lk_past (by decide +kernel)).trans ((lk_past (by decide +kernel)).trans (rfl)))))
theorem chF_mk1 (a : Int) : putF "writer" (V.int a) ([] : List (Str × V)) = ([("writer", V.int a)] : List (Str × V)) := putF_end (keys := []) rfl (by decide +kernel)
theorem chF_mk2 (a : Int) (b : Int) : putF "reader" (V.int b) ([("writer", V.int a)] : List (Str × V)) = ([("writer", V.int a), ("reader", V.int b)] : List (Str × V)) := putF_end (keys := ["writer"]) rfl (by decide +kernel)
theorem chF_mk3 (a : Int) (b : Int) (c : Int) : putF "room" (V.int c) ([("writer", V.int a), ("reader", V.int b)] : List (Str × V)) = ([("writer", V.int a), ("reader", V.int b), ("room", V.int c)] : List (Str × V)) := putF_end (keys := ["writer", "reader"]) rfl (by decide +kernel)
theorem chF_mk4 (a : Int) (b : Int) (c : Int) (d : Addr) : putF "written" (V.ref d) ([("writer", V.int a), ("reader", V.int b), ("room", V.int c)] : List (Str × V)) = ([("writer", V.int a), ("reader", V.int b), ("room", V.int c), ("written", V.ref d)] : List (Str × V)) := putF_end (keys := ["writer", "reader", "room"]) rfl (by decide +kernel)
theorem chF_mk5 (a : Int) (b : Int) (c : Int) (d : Addr) (e : Int) : putF "taken" (V.int e) ([("writer", V.int a), ("reader", V.int b), ("room", V.int c), ("written", V.ref d)] : List (Str × V)) = chF a b c d e := putF_end (keys := ["writer", "reader", "room", "written"]) rfl (by decide +kernel)
theorem chF_len (a : Int) (b : Int) (c : Int) (d : Addr) (e : Int) : (chF a b c d e).length = 5 := rfl
/-- Process -/
def prF (a : Addr) (b : Int) (c : Addr) (d : Addr) : List (Str × V) := [("program", .ref a), ("place", .int b), ("registers", .ref c), ("said", .ref d)]
theorem prF_program (a : Addr) (b : Int) (c : Addr) (d : Addr) : (prF a b c d).lookup ("program" : Str) = some (.ref a) := lk_here
theorem prF_put_program (a : Addr) (b : Int) (c : Addr) (d : Addr) (z : Addr) : putF "program" (.ref z) (prF a b c d) = prF z b c d := put_here
theorem prF_place (a : Addr) (b : Int) (c : Addr) (d : Addr) : (prF a b c d).lookup ("place" : Str) = some (.int b) := (lk_past (by decide +kernel)).trans (lk_here)
theorem prF_put_place (a : Addr) (b : Int) (c : Addr) (d : Addr) (z : Int) : putF "place" (.int z) (prF a b c d) = prF a z c d := (put_past (by decide +kernel)).trans (congrArg _ (put_here))
theorem prF_registers (a : Addr) (b : Int) (c : Addr) (d : Addr) : (prF a b c d).lookup ("registers" : Str) = some (.ref c) := (lk_past (by decide +kernel)).trans ((lk_past (by decide +kernel)).trans (lk_here))
theorem prF_put_registers (a : Addr) (b : Int) (c : Addr) (d : Addr) (z : Addr) : putF "registers" (.ref z) (prF a b c d) = prF a b z d := (put_past (by decide +kernel)).trans (congrArg _ ((put_past (by decide +kernel)).trans (congrArg _ (put_here))))
theorem prF_said (a : Addr) (b : Int) (c : Addr) (d : Addr) : (prF a b c d).lookup ("said" : Str) = some (.ref d) := (lk_past (by decide +kernel)).trans ((lk_past (by decide +kernel)).trans ((lk_past (by decide +kernel)).trans (lk_here)))
theorem prF_put_said (a : Addr) (b : Int) (c : Addr) (d : Addr) (z : Addr) : putF "said" (.ref z) (prF a b c d) = prF a b c z := (put_past (by decide +kernel)).trans (congrArg _ ((put_past (by decide +kernel)).trans (congrArg _ ((put_past (by decide +kernel)).trans (congrArg _ (put_here))))))
theorem prF_no_begin (a : Addr) (b : Int) (c : Addr) (d : Addr) : (prF a b c d).lookup ("begin" : Str) = none := (lk_past (by decide +kernel)).trans ((lk_past (by decide +kernel)).trans ((lk_past (by decide +kernel)).trans ((lk_past (by decide +kernel)).trans (rfl))))
theorem prF_no_is_at_end (a : Addr) (b : Int) (c : Addr) (d : Addr) : (prF a b c d).lookup ("is_at_end" : Str) = none := (lk_past (by decide +kernel)).trans ((lk_past (by decide +kernel)).trans ((lk_past (by decide +kernel)).trans ((lk_past (by decide +kernel)).trans (rfl))))
theorem prF_no_instruction (a : Addr) (b : Int) (c : Addr) (d : Addr) : (prF a b c d).lookup ("instruction" : Str) = none := (lk_past (by decide +kernel)).trans ((lk_past (by decide +kernel)).trans ((lk_past (by decide +kernel)).trans ((lk_past (by decide +kernel)).trans (rfl))))
theorem prF_mk1 (a : Addr) : putF "program" (V.ref a) ([] : List (Str × V)) = ([("program", V.ref a)] : List (Str × V)) := putF_end (keys := []) rfl (by decide +kernel)
theorem prF_mk2 (a : Addr) (b : Int) : putF "place" (V.int b) ([("program", V.ref a)] : List (Str × V)) = ([("program", V.ref a), ("place", V.int b)] : List (Str × V)) := putF_end (keys := ["program"]) rfl (by decide +kernel)
theorem prF_mk3 (a : Addr) (b : Int) (c : Addr) : putF "registers" (V.ref c) ([("program", V.ref a), ("place", V.int b)] : List (Str × V)) = ([("program", V.ref a), ("place", V.int b), ("registers", V.ref c)] : List (Str × V)) := putF_end (keys := ["program", "place"]) rfl (by decide +kernel)
theorem prF_mk4 (a : Addr) (b : Int) (c : Addr) (d : Addr) : putF "said" (V.ref d) ([("program", V.ref a), ("place", V.int b), ("registers", V.ref c)] : List (Str × V)) = prF a b c d := putF_end (keys := ["program", "place", "registers"]) rfl (by decide +kernel)
theorem prF_len (a : Addr) (b : Int) (c : Addr) (d : Addr) : (prF a b c d).length = 4 := rfl
/-- Net -/
def ntF (a : Addr) (b : Addr) (c : Int) (d : Int) : List (Str × V) := [("processes", .ref a), ("channels", .ref b), ("steps", .int c), ("grown", .int d)]
theorem ntF_processes (a : Addr) (b : Addr) (c : Int) (d : Int) : (ntF a b c d).lookup ("processes" : Str) = some (.ref a) := lk_here
theorem ntF_put_processes (a : Addr) (b : Addr) (c : Int) (d : Int) (z : Addr) : putF "processes" (.ref z) (ntF a b c d) = ntF z b c d := put_here
theorem ntF_channels (a : Addr) (b : Addr) (c : Int) (d : Int) : (ntF a b c d).lookup ("channels" : Str) = some (.ref b) := (lk_past (by decide +kernel)).trans (lk_here)
theorem ntF_put_channels (a : Addr) (b : Addr) (c : Int) (d : Int) (z : Addr) : putF "channels" (.ref z) (ntF a b c d) = ntF a z c d := (put_past (by decide +kernel)).trans (congrArg _ (put_here))
theorem ntF_steps (a : Addr) (b : Addr) (c : Int) (d : Int) : (ntF a b c d).lookup ("steps" : Str) = some (.int c) := (lk_past (by decide +kernel)).trans ((lk_past (by decide +kernel)).trans (lk_here))
theorem ntF_put_steps (a : Addr) (b : Addr) (c : Int) (d : Int) (z : Int) : putF "steps" (.int z) (ntF a b c d) = ntF a b z d := (put_past (by decide +kernel)).trans (congrArg _ ((put_past (by decide +kernel)).trans (congrArg _ (put_here))))
theorem ntF_grown (a : Addr) (b : Addr) (c : Int) (d : Int) : (ntF a b c d).lookup ("grown" : Str) = some (.int d) := (lk_past (by decide +kernel)).trans ((lk_past (by decide +kernel)).trans ((lk_past (by decide +kernel)).trans (lk_here)))
theorem ntF_put_grown (a : Addr) (b : Addr) (c : Int) (d : Int) (z : Int) : putF "grown" (.int z) (ntF a b c d) = ntF a b c z := (put_past (by decide +kernel)).trans (congrArg _ ((put_past (by decide +kernel)).trans (congrArg _ ((put_past (by decide +kernel)).trans (congrArg _ (put_here))))))
theorem ntF_no_lay (a : Addr) (b : Addr) (c : Int) (d : Int) : (ntF a b c d).lookup ("lay" : Str) = none := (lk_past (by decide +kernel)).trans ((lk_past (by decide +kernel)).trans ((lk_past (by decide +kernel)).trans ((lk_past (by decide +kernel)).trans (rfl))))
theorem ntF_no_has_process (a : Addr) (b : Addr) (c : Int) (d : Int) : (ntF a b c d).lookup ("has_process" : Str) = none := (lk_past (by decide +kernel)).trans ((lk_past (by decide +kernel)).trans ((lk_past (by decide +kernel)).trans ((lk_past (by decide +kernel)).trans (rfl))))
theorem ntF_no_process (a : Addr) (b : Addr) (c : Int) (d : Int) : (ntF a b c d).lookup ("process" : Str) = none := (lk_past (by decide +kernel)).trans ((lk_past (by decide +kernel)).trans ((lk_past (by decide +kernel)).trans ((lk_past (by decide +kernel)).trans (rfl))))
theorem ntF_no_has_channel (a : Addr) (b : Addr) (c : Int) (d : Int) : (ntF a b c d).lookup ("has_channel" : Str) = none := (lk_past (by decide +kernel)).trans ((lk_past (by decide +kernel)).trans ((lk_past (by decide +kernel)).trans ((lk_past (by decide +kernel)).trans (rfl))))
theorem ntF_no_channel (a : Addr) (b : Addr) (c : Int) (d : Int) : (ntF a b c d).lookup ("channel" : Str) = none := (lk_past (by decide +kernel)).trans ((lk_past (by decide +kernel)).trans ((lk_past (by decide +kernel)).trans ((lk_past (by decide +kernel)).trans (rfl))))
theorem ntF_mk1 (a : Addr) : putF "processes" (V.ref a) ([] : List (Str × V)) = ([("processes", V.ref a)] : List (Str × V)) := putF_end (keys := []) rfl (by decide +kernel)
theorem ntF_mk2 (a : Addr) (b : Addr) : putF "channels" (V.ref b) ([("processes", V.ref a)] : List (Str × V)) = ([("processes", V.ref a), ("channels", V.ref b)] : List (Str × V)) := putF_end (keys := ["processes"]) rfl (by decide +kernel)
theorem ntF_mk3 (a : Addr) (b : Addr) (c : Int) : putF "steps" (V.int c) ([("processes", V.ref a), ("channels", V.ref b)] : List (Str × V)) = ([("processes", V.ref a), ("channels", V.ref b), ("steps", V.int c)] : List (Str × V)) := putF_end (keys := ["processes", "channels"]) rfl (by decide +kernel)
theorem ntF_mk4 (a : Addr) (b : Addr) (c : Int) (d : Int) : putF "grown" (V.int d) ([("processes", V.ref a), ("channels", V.ref b), ("steps", V.int c)] : List (Str × V)) = ntF a b c d := putF_end (keys := ["processes", "channels", "steps"]) rfl (by decide +kernel)
theorem ntF_len (a : Addr) (b : Addr) (c : Int) (d : Int) : (ntF a b c d).length = 4 := rfl
/-- Calls -/
def clF (a : Addr) (b : Int) : List (Str × V) := [("numbers", .ref a), ("at", .int b)]
theorem clF_numbers (a : Addr) (b : Int) : (clF a b).lookup ("numbers" : Str) = some (.ref a) := lk_here
theorem clF_put_numbers (a : Addr) (b : Int) (z : Addr) : putF "numbers" (.ref z) (clF a b) = clF z b := put_here
theorem clF_at (a : Addr) (b : Int) : (clF a b).lookup ("at" : Str) = some (.int b) := (lk_past (by decide +kernel)).trans (lk_here)
theorem clF_put_at (a : Addr) (b : Int) (z : Int) : putF "at" (.int z) (clF a b) = clF a z := (put_past (by decide +kernel)).trans (congrArg _ (put_here))
theorem clF_no_is_done (a : Addr) (b : Int) : (clF a b).lookup ("is_done" : Str) = none := (lk_past (by decide +kernel)).trans ((lk_past (by decide +kernel)).trans (rfl))
theorem clF_no_number (a : Addr) (b : Int) : (clF a b).lookup ("number" : Str) = none := (lk_past (by decide +kernel)).trans ((lk_past (by decide +kernel)).trans (rfl))
theorem clF_no_row (a : Addr) (b : Int) : (clF a b).lookup ("row" : Str) = none := (lk_past (by decide +kernel)).trans ((lk_past (by decide +kernel)).trans (rfl))
theorem clF_mk1 (a : Addr) : putF "numbers" (V.ref a) ([] : List (Str × V)) = ([("numbers", V.ref a)] : List (Str × V)) := putF_end (keys := []) rfl (by decide +kernel)
theorem clF_mk2 (a : Addr) (b : Int) : putF "at" (V.int b) ([("numbers", V.ref a)] : List (Str × V)) = clF a b := putF_end (keys := ["numbers"]) rfl (by decide +kernel)
theorem clF_len (a : Addr) (b : Int) : (clF a b).length = 2 := rfl
end Ro
end part_P0
section part_P1
set_option linter.unusedVariables false
set_option maxRecDepth 100000
set_option maxHeartbeats 2000000
namespace Ro
open PySem PySem.Spec PyProof.Rows L2
open Hs09 (Instr Proc Chan)

/-- a def that makes lambdas: its table, the lambdas' name -/
abbrev NTab := Addr × Str
abbrev TabsN (T : List NTab) (H : Hp) : Prop := LamX.Tabs T H
inductive Tag where
  | out | net | ps | cs
  | pr (i : Nat) | pp (i : Nat) | rw (i k : Nat) | rg (i : Nat) | sd (i : Nat)
  | ch (j : Nat) | wr (j : Nat)
  deriving DecidableEq
/-- where each part lies, and which part lies there -/
structure Lay where
  addr : Tag → Addr
  dx : Tag → Addr
  tag : Addr → Tag
/-- the classes, and the tuples of the top -/
structure Cs where
  cc : Addr
  cp : Addr
  cn : Addr
  cl : Addr
  kinds : Addr
  kin : List Addr
  doings : Addr
  dos : List Addr
  table : Addr
  cas : List Addr
def vI (l : List Nat) : List V := l.map fun (n : Nat) => V.int (n : Int)
theorem vI_len (l : List Nat) : (vI l).length = l.length := List.length_map ..
theorem vI_get (l : List Nat) (i : Nat) : (vI l)[i]? = (l[i]?).map fun (n : Nat) => V.int (n : Int) := List.getElem?_map ..
theorem vI_app (l r : List Nat) : vI (l ++ r) = vI l ++ vI r := List.map_append ..
theorem vI_set (l : List Nat) (i v : Nat) : vI (l.set i v) = (vI l).set i (V.int (v : Int)) := List.map_set ..
def refs (f : Nat → Addr) (n : Nat) : List V := (List.range n).map fun i => V.ref (f i)
theorem refs_len (f : Nat → Addr) (n : Nat) : (refs f n).length = n := by unfold refs; rw [List.length_map, List.length_range]
theorem refs_get {f : Nat → Addr} {n i : Nat} (h : i < n) : (refs f n)[i]? = some (V.ref (f i)) := by
  unfold refs
  rw [List.getElem?_map, List.getElem?_range h]
  rfl

/-- what lies at each part -/
def cont (C : Cs) (L : Lay) (s : Hs09.St) : Tag → Option HO
  | .out => none
  | .net => some (.ins C.cn (L.dx .net) (ntF (L.addr .ps) (L.addr .cs) (s.steps : Int) (s.grown : Int)))
  | .ps => some (.lst (refs (fun i => L.addr (.pr i)) s.procs.length))
  | .cs => some (.lst (refs (fun j => L.addr (.ch j)) s.chans.length))
  | .pr i => (s.procs[i]?).map fun x => .ins C.cp (L.dx (.pr i)) (prF (L.addr (.pp i)) ((x.next + 1 : Nat) : Int) (L.addr (.rg i)) (L.addr (.sd i)))
  | .pp i => (s.procs[i]?).map fun x => .lst (refs (fun k => L.addr (.rw i k)) x.prog.length)
  | .rw i k => (s.procs[i]?).bind fun x => (x.prog[k]?).map fun q => .lst (vI (rowOf q))
  | .rg i => (s.procs[i]?).map fun x => .lst (vI x.regs)
  | .sd i => (s.procs[i]?).map fun x => .lst (vI x.said)
  | .ch j => (s.chans[j]?).map fun c => .ins C.cc (L.dx (.ch j)) (chF ((c.from_ + 1 : Nat) : Int) ((c.to + 1 : Nat) : Int) (c.room : Int) (L.addr (.wr j)) ((c.wrote.length - c.on.length : Nat) : Int))
  | .wr j => (s.chans[j]?).map fun c => .lst (vI c.wrote)
/-- a list or an instance -/
def plainO : HO → Prop
  | .lst _ => True
  | .ins _ _ _ => True
  | _ => False
theorem cont_plain {C : Cs} {L : Lay} {s : Hs09.St} {t : Tag} {o : HO} (h : cont C L s t = some o) : plainO o := by
  cases t with
  | out => cases h
  | net => cases h; trivial
  | ps => cases h; trivial
  | cs => cases h; trivial
  | pr i => obtain ⟨x, _, e⟩ := Option.map_eq_some_iff.mp h; subst e; trivial
  | pp i => obtain ⟨x, _, e⟩ := Option.map_eq_some_iff.mp h; subst e; trivial
  | rw i k =>
    obtain ⟨x, _, h2⟩ := Option.bind_eq_some_iff.mp h
    obtain ⟨q, _, e⟩ := Option.map_eq_some_iff.mp h2; subst e; trivial
  | rg i => obtain ⟨x, _, e⟩ := Option.map_eq_some_iff.mp h; subst e; trivial
  | sd i => obtain ⟨x, _, e⟩ := Option.map_eq_some_iff.mp h; subst e; trivial
  | ch j => obtain ⟨x, _, e⟩ := Option.map_eq_some_iff.mp h; subst e; trivial
  | wr j => obtain ⟨x, _, e⟩ := Option.map_eq_some_iff.mp h; subst e; trivial

/-- a table stays where a list or an instance is changed -/
theorem tabs_put {T : List NTab} {H : Hp} {a : Addr} {o o' : HO} (t : TabsN T H) (ha : H a = some o) (hp : plainO o) : TabsN T (upd H a o') := fun p hpT => by
  obtain ⟨ps, h1, h2, h3⟩ := t p hpT
  have n1 : p.1 ≠ a := fun e => by
    rw [e, ha] at h1
    cases h1
    exact hp
  refine ⟨ps, by rw [upd_ne n1]; exact h1, h2, fun pos cv hc => ?_⟩
  obtain ⟨c, e, h4⟩ := h3 pos cv hc
  have n2 : c ≠ a := fun e => by
    rw [e, ha] at h4
    have h5 := Option.some.inj h4
    rw [h5] at hp
    exact hp
  exact ⟨c, e, by rw [upd_ne n2]; exact h4⟩

/-- **the net of the state s lies in H** -/
structure NetAt (C : Cs) (T : List NTab) (L : Lay) (H : Hp) (s : Hs09.St) : Prop where
  here : ∀ t o, cont C L s t = some o → H (L.addr t) = some o
  tg : ∀ t o, cont C L s t = some o → L.tag (L.addr t) = t
  dom : ∀ b, L.tag b ≠ .out → ∃ o, H b = some o ∧ plainO o
  tb : TabsN T H
/-- what is no part of the net, and no table, stays -/
def Fr (L : Lay) (H H' : Hp) : Prop := ∀ b o, H b = some o → L.tag b = .out → (∀ ps, o ≠ .tbl ps) → H' b = some o
theorem Fr.refl (L : Lay) (H : Hp) : Fr L H H := fun _ _ h _ _ => h
theorem Fr.trans {L : Lay} {H H1 H2 : Hp} (a : Fr L H H1) (b : Fr L H1 H2) : Fr L H H2 := fun c o h t n => b c o (a c o h t n) t n
theorem Fr.same {L : Lay} {H H' : Hp} (a : Same H H') : Fr L H H' := fun b o h _ _ => a b o h
theorem same_new {H : Hp} {p : Addr} {o : HO} (h : H p = none) : Same H (upd H p o) := fun b u e => by
  rw [upd_ne (ne_of_none e h)]; exact e

section
variable {C : Cs} {T : List NTab} {L : Lay} {H H' : Hp} {s s' : Hs09.St} {t0 : Tag} {o0 o' : HO}
theorem NetAt.same (N : NetAt C T L H s) (S : Same H H') : NetAt C T L H' s :=
  ⟨fun t o e => S _ _ (N.here t o e), N.tg, fun b hb => by obtain ⟨o, e, p⟩ := N.dom b hb; exact ⟨o, S _ _ e, p⟩, LamX.Tabs.ext N.tb S⟩
/-- all but the tables stay -/
theorem NetAt.ext (N : NetAt C T L H s) (S : LamX.ExtN H H') (t : TabsN T H') : NetAt C T L H' s := by
  have np : ∀ {o : HO}, plainO o → ∀ ps, o ≠ .tbl ps := fun p ps z => by subst z; exact p
  exact ⟨fun t o e => S _ _ (N.here t o e) (np (cont_plain e)), N.tg, fun b hb => by obtain ⟨o, e, p⟩ := N.dom b hb; exact ⟨o, S _ _ e (np p), p⟩, t⟩
theorem NetAt.new (N : NetAt C T L H s) {p : Addr} {o : HO} (h : H p = none) : NetAt C T L (upd H p o) s := N.same (same_new h)
theorem NetAt.free (N : NetAt C T L H s) {p : Addr} (h : H p = none) : L.tag p = .out := by
  cases e : L.tag p with
  | out => rfl
  | _ =>
    obtain ⟨o, q, _⟩ := N.dom p (by rw [e]; intro z; cases z)
    rw [h] at q; cases q
/-- one part is changed -/
theorem NetAt.put (N : NetAt C T L H s) (h0 : cont C L s t0 = some o0) (hc : ∀ t, cont C L s' t = if t = t0 then some o' else cont C L s t) : NetAt C T L (upd H (L.addr t0) o') s' := by
  have g0 := N.tg t0 o0 h0
  refine ⟨fun t o e => ?_, fun t o e => ?_, fun b hb => ?_, tabs_put N.tb (N.here _ _ h0) (cont_plain h0)⟩
  · rw [hc t] at e
    by_cases q : t = t0
    · rw [if_pos q] at e; cases e; rw [q]; exact upd_same
    · rw [if_neg q] at e
      have g1 := N.tg t o e
      rw [upd_ne (fun z => q (by rw [← g1, z, g0]))]
      exact N.here t o e
  · rw [hc t] at e
    by_cases q : t = t0
    · rw [q]; exact g0
    · rw [if_neg q] at e; exact N.tg t o e
  · by_cases q : b = L.addr t0
    · exact ⟨o', by rw [q]; exact upd_same, cont_plain ((hc t0).trans (if_pos rfl))⟩
    · obtain ⟨o, e, p⟩ := N.dom b hb; exact ⟨o, by rw [upd_ne q]; exact e, p⟩
theorem NetAt.fr (N : NetAt C T L H s) (h0 : cont C L s t0 = some o0) : Fr L H (upd H (L.addr t0) o') := fun b o e t _ => by
  have g0 := N.tg t0 o0 h0
  rw [upd_ne (fun z => ?_)]
  · exact e
  · rw [z, g0] at t
    rw [t] at h0
    cases h0
end

section
variable {C : Cs} {T : List NTab} {L : Lay} {H : Hp} {s : Hs09.St}
theorem cont_pr {i : Nat} (h : i < s.procs.length) : cont C L s (.pr i) = some (.ins C.cp (L.dx (.pr i)) (prF (L.addr (.pp i)) (((Hs09.proc s i).next + 1 : Nat) : Int) (L.addr (.rg i)) (L.addr (.sd i)))) := by
  show (s.procs[i]?).map _ = _
  rw [proc_get h]; rfl
theorem cont_pp {i : Nat} (h : i < s.procs.length) : cont C L s (.pp i) = some (.lst (refs (fun k => L.addr (.rw i k)) (Hs09.proc s i).prog.length)) := by
  show (s.procs[i]?).map _ = _
  rw [proc_get h]; rfl
theorem cont_rw {i k : Nat} {q : Instr} (h : i < s.procs.length) (hq : (Hs09.proc s i).prog[k]? = some q) : cont C L s (.rw i k) = some (.lst (vI (rowOf q))) := by
  show (s.procs[i]?).bind _ = _
  rw [proc_get h]
  show ((Hs09.proc s i).prog[k]?).map _ = _
  rw [hq]; rfl
theorem cont_rg {i : Nat} (h : i < s.procs.length) : cont C L s (.rg i) = some (.lst (vI (Hs09.proc s i).regs)) := by
  show (s.procs[i]?).map _ = _
  rw [proc_get h]; rfl
theorem cont_sd {i : Nat} (h : i < s.procs.length) : cont C L s (.sd i) = some (.lst (vI (Hs09.proc s i).said)) := by
  show (s.procs[i]?).map _ = _
  rw [proc_get h]; rfl
theorem cont_ch {j : Nat} (h : j < s.chans.length) : cont C L s (.ch j) = some (.ins C.cc (L.dx (.ch j)) (chF (((Hs09.chan s j).from_ + 1 : Nat) : Int) (((Hs09.chan s j).to + 1 : Nat) : Int) ((Hs09.chan s j).room : Int) (L.addr (.wr j)) (((Hs09.chan s j).wrote.length - (Hs09.chan s j).on.length : Nat) : Int))) := by
  show (s.chans[j]?).map _ = _
  rw [chan_get h]; rfl
theorem cont_wr {j : Nat} (h : j < s.chans.length) : cont C L s (.wr j) = some (.lst (vI (Hs09.chan s j).wrote)) := by
  show (s.chans[j]?).map _ = _
  rw [chan_get h]; rfl
theorem NetAt.net (N : NetAt C T L H s) : H (L.addr .net) = some (.ins C.cn (L.dx .net) (ntF (L.addr .ps) (L.addr .cs) (s.steps : Int) (s.grown : Int))) := N.here _ _ rfl
theorem NetAt.ps (N : NetAt C T L H s) : H (L.addr .ps) = some (.lst (refs (fun i => L.addr (.pr i)) s.procs.length)) := N.here _ _ rfl
theorem NetAt.cs (N : NetAt C T L H s) : H (L.addr .cs) = some (.lst (refs (fun i => L.addr (.ch i)) s.chans.length)) := N.here _ _ rfl
theorem NetAt.pr (N : NetAt C T L H s) {i : Nat} (h : i < s.procs.length) : H (L.addr (.pr i)) = some (.ins C.cp (L.dx (.pr i)) (prF (L.addr (.pp i)) (((Hs09.proc s i).next + 1 : Nat) : Int) (L.addr (.rg i)) (L.addr (.sd i)))) := N.here _ _ (cont_pr h)
theorem NetAt.pp (N : NetAt C T L H s) {i : Nat} (h : i < s.procs.length) : H (L.addr (.pp i)) = some (.lst (refs (fun k => L.addr (.rw i k)) (Hs09.proc s i).prog.length)) := N.here _ _ (cont_pp h)
theorem NetAt.rw (N : NetAt C T L H s) {i k : Nat} {q : Instr} (h : i < s.procs.length) (hq : (Hs09.proc s i).prog[k]? = some q) : H (L.addr (.rw i k)) = some (.lst (vI (rowOf q))) := N.here _ _ (cont_rw h hq)
theorem NetAt.rg (N : NetAt C T L H s) {i : Nat} (h : i < s.procs.length) : H (L.addr (.rg i)) = some (.lst (vI (Hs09.proc s i).regs)) := N.here _ _ (cont_rg h)
theorem NetAt.sd (N : NetAt C T L H s) {i : Nat} (h : i < s.procs.length) : H (L.addr (.sd i)) = some (.lst (vI (Hs09.proc s i).said)) := N.here _ _ (cont_sd h)
theorem NetAt.ch (N : NetAt C T L H s) {j : Nat} (h : j < s.chans.length) : H (L.addr (.ch j)) = some (.ins C.cc (L.dx (.ch j)) (chF (((Hs09.chan s j).from_ + 1 : Nat) : Int) (((Hs09.chan s j).to + 1 : Nat) : Int) ((Hs09.chan s j).room : Int) (L.addr (.wr j)) (((Hs09.chan s j).wrote.length - (Hs09.chan s j).on.length : Nat) : Int))) := N.here _ _ (cont_ch h)
theorem NetAt.wr (N : NetAt C T L H s) {j : Nat} (h : j < s.chans.length) : H (L.addr (.wr j)) = some (.lst (vI (Hs09.chan s j).wrote)) := N.here _ _ (cont_wr h)
end

section
variable {C : Cs} {L : Lay} {s : Hs09.St}
open Hs09
theorem set_get {α : Type} {l : List α} {i k : Nat} {x : α} (h : i < l.length) : (l.set i x)[k]? = if k = i then some x else l[k]? := by
  rw [List.getElem?_set]
  by_cases e : i = k
  · subst e; rw [if_pos rfl, if_pos h, if_pos rfl]
  · rw [if_neg e, if_neg (fun z => e z.symm)]
theorem procs_len (s : Hs09.St) (i : Nat) (x : Proc) : (setProc s i x).procs.length = s.procs.length := List.length_set ..
/-- a part of process i is another, all else stays -/
theorem cont_setProc {i : Nat} {x : Proc} {t0 : Tag} {o' : HO} (h : i < s.procs.length)
    (h1 : ∀ t, (t = .pr i ∨ t = .pp i ∨ t = .rg i ∨ t = .sd i ∨ ∃ k, t = .rw i k) → cont C L (setProc s i x) t = if t = t0 then some o' else cont C L s t)
    (ht : t0 = .pr i ∨ t0 = .pp i ∨ t0 = .rg i ∨ t0 = .sd i) : ∀ t, cont C L (setProc s i x) t = if t = t0 then some o' else cont C L s t := fun t => by
  have key : ∀ k, k ≠ i → (setProc s i x).procs[k]? = s.procs[k]? := fun k hk => by
    show (s.procs.set i x)[k]? = _
    rw [set_get h, if_neg hk]
  have oth : ∀ {t : Tag}, ¬ (t = .pr i ∨ t = .pp i ∨ t = .rg i ∨ t = .sd i ∨ ∃ k, t = .rw i k) → t ≠ t0 := fun {t} n z => n (by
    rw [z]
    rcases ht with e | e | e | e
    · exact .inl e
    · exact .inr (.inl e)
    · exact .inr (.inr (.inl e))
    · exact .inr (.inr (.inr (.inl e))))
  by_cases q : t = .pr i ∨ t = .pp i ∨ t = .rg i ∨ t = .sd i ∨ ∃ k, t = .rw i k
  · exact h1 t q
  · rw [if_neg (oth q)]
    cases t with
    | out => rfl
    | net => rfl
    | ps => show some (HO.lst (refs _ (setProc s i x).procs.length)) = _; rw [procs_len]; rfl
    | cs => rfl
    | pr k => show ((setProc s i x).procs[k]?).map _ = _; rw [key k (fun z => q (.inl (by rw [z])))]; rfl
    | pp k => show ((setProc s i x).procs[k]?).map _ = _; rw [key k (fun z => q (.inr (.inl (by rw [z]))))]; rfl
    | rw k m => show ((setProc s i x).procs[k]?).bind _ = _; rw [key k (fun z => q (.inr (.inr (.inr (.inr ⟨m, by rw [z]⟩)))))]; rfl
    | rg k => show ((setProc s i x).procs[k]?).map _ = _; rw [key k (fun z => q (.inr (.inr (.inl (by rw [z])))))]; rfl
    | sd k => show ((setProc s i x).procs[k]?).map _ = _; rw [key k (fun z => q (.inr (.inr (.inr (.inl (by rw [z]))))))]; rfl
    | ch k => rfl
    | wr k => rfl
theorem proc_set {i : Nat} {x : Proc} (h : i < s.procs.length) : proc (setProc s i x) i = x := by
  unfold proc setProc
  rw [List.getD_eq_getElem?_getD]
  show ((s.procs.set i x)[i]?).getD noProc = x
  rw [set_get h, if_pos rfl]; rfl
/-- the five parts of the changed process -/
theorem cont_five {i : Nat} {x : Proc} {t0 : Tag} {o' : HO} (h : i < s.procs.length) (ht : t0 = .pr i ∨ t0 = .pp i ∨ t0 = .rg i ∨ t0 = .sd i)
    (a : cont C L (setProc s i x) (.pr i) = if Tag.pr i = t0 then some o' else cont C L s (.pr i)) (b : cont C L (setProc s i x) (.pp i) = if Tag.pp i = t0 then some o' else cont C L s (.pp i))
    (c : cont C L (setProc s i x) (.rg i) = if Tag.rg i = t0 then some o' else cont C L s (.rg i)) (d : cont C L (setProc s i x) (.sd i) = if Tag.sd i = t0 then some o' else cont C L s (.sd i))
    (e : ∀ k, cont C L (setProc s i x) (.rw i k) = cont C L s (.rw i k)) : ∀ t, cont C L (setProc s i x) t = if t = t0 then some o' else cont C L s t := by
  refine cont_setProc h (fun t q => ?_) ht
  rcases q with q | q | q | q | ⟨k, q⟩
  · rw [q]; exact a
  · rw [q]; exact b
  · rw [q]; exact c
  · rw [q]; exact d
  · rw [q, e k, if_neg]
    intro z
    rcases ht with y | y | y | y <;> (rw [y] at z; cases z)
theorem len_set {i : Nat} {x : Proc} (h : i < s.procs.length) : i < (setProc s i x).procs.length := by rw [procs_len]; exact h
/-- process i goes to another place -/
theorem cont_place {i n : Nat} (h : i < s.procs.length) : ∀ t, cont C L (setProc s i (goesTo (proc s i) n)) t = if t = .pr i then some (.ins C.cp (L.dx (.pr i)) (prF (L.addr (.pp i)) ((n + 1 : Nat) : Int) (L.addr (.rg i)) (L.addr (.sd i)))) else cont C L s t := by
  refine cont_five h (.inl rfl) ?_ ?_ ?_ ?_ fun k => ?_
  · rw [if_pos rfl, cont_pr (len_set h), proc_set h]; rfl
  · rw [if_neg (by intro z; cases z), cont_pp (len_set h), proc_set h, cont_pp h]; rfl
  · rw [if_neg (by intro z; cases z), cont_rg (len_set h), proc_set h, cont_rg h]; rfl
  · rw [if_neg (by intro z; cases z), cont_sd (len_set h), proc_set h, cont_sd h]; rfl
  · show ((setProc s i _).procs[i]?).bind _ = (s.procs[i]?).bind _
    rw [proc_get (len_set h), proc_set h, proc_get h]; rfl
/-- a register of process i holds another number -/
theorem cont_reg {i r v : Nat} (h : i < s.procs.length) : ∀ t, cont C L (setProc s i { proc s i with regs := (proc s i).regs.set r v }) t = if t = .rg i then some (.lst ((vI (proc s i).regs).set r (V.int (v : Int)))) else cont C L s t := by
  refine cont_five h (.inr (.inr (.inl rfl))) ?_ ?_ ?_ ?_ fun k => ?_
  · rw [if_neg (by intro z; cases z), cont_pr (len_set h), proc_set h, cont_pr h]
  · rw [if_neg (by intro z; cases z), cont_pp (len_set h), proc_set h, cont_pp h]
  · rw [if_pos rfl, cont_rg (len_set h), proc_set h, vI_set]
  · rw [if_neg (by intro z; cases z), cont_sd (len_set h), proc_set h, cont_sd h]
  · show ((setProc s i _).procs[i]?).bind _ = (s.procs[i]?).bind _
    rw [proc_get (len_set h), proc_set h, proc_get h]; rfl
/-- process i says a number -/
theorem cont_said {i v : Nat} (h : i < s.procs.length) : ∀ t, cont C L (setProc s i { proc s i with said := (proc s i).said ++ [v] }) t = if t = .sd i then some (.lst (vI (proc s i).said ++ [V.int (v : Int)])) else cont C L s t := by
  refine cont_five h (.inr (.inr (.inr rfl))) ?_ ?_ ?_ ?_ fun k => ?_
  · rw [if_neg (by intro z; cases z), cont_pr (len_set h), proc_set h, cont_pr h]
  · rw [if_neg (by intro z; cases z), cont_pp (len_set h), proc_set h, cont_pp h]
  · rw [if_neg (by intro z; cases z), cont_rg (len_set h), proc_set h, cont_rg h]
  · rw [if_pos rfl, cont_sd (len_set h), proc_set h, vI_app]; rfl
  · show ((setProc s i _).procs[i]?).bind _ = (s.procs[i]?).bind _
    rw [proc_get (len_set h), proc_set h, proc_get h]; rfl
theorem chan_set {j : Nat} {c : Chan} (h : j < s.chans.length) : chan (setChan s j c) j = c := by
  unfold chan setChan
  rw [List.getD_eq_getElem?_getD]
  show ((s.chans.set j c)[j]?).getD noChan = c
  rw [set_get h, if_pos rfl]; rfl
theorem lenC_set {j : Nat} {c : Chan} (h : j < s.chans.length) : j < (setChan s j c).chans.length := by
  show j < (s.chans.set j c).length
  rw [List.length_set]; exact h
theorem cont_setChan {j : Nat} {c : Chan} {t0 : Tag} {o' : HO} (h : j < s.chans.length) (ht : t0 = .ch j ∨ t0 = .wr j)
    (a : cont C L (setChan s j c) (.ch j) = if Tag.ch j = t0 then some o' else cont C L s (.ch j)) (b : cont C L (setChan s j c) (.wr j) = if Tag.wr j = t0 then some o' else cont C L s (.wr j)) :
    ∀ t, cont C L (setChan s j c) t = if t = t0 then some o' else cont C L s t := fun t => by
  have key : ∀ k, k ≠ j → (setChan s j c).chans[k]? = s.chans[k]? := fun k hk => by
    show (s.chans.set j c)[k]? = _
    rw [set_get h, if_neg hk]
  by_cases q : t = .ch j ∨ t = .wr j
  · rcases q with q | q
    · rw [q]; exact a
    · rw [q]; exact b
  · have n : t ≠ t0 := fun z => q (by rw [z]; exact ht)
    rw [if_neg n]
    cases t with
    | cs => show some (HO.lst (refs _ (s.chans.set j c).length)) = _; rw [List.length_set]; rfl
    | ch k => show ((setChan s j c).chans[k]?).map _ = _; rw [key k (fun z => q (.inl (by rw [z])))]; rfl
    | wr k => show ((setChan s j c).chans[k]?).map _ = _; rw [key k (fun z => q (.inr (by rw [z])))]; rfl
    | _ => rfl
/-- another room -/
theorem cont_room {j n : Nat} (h : j < s.chans.length) : ∀ t, cont C L (setChan s j { chan s j with room := n }) t = if t = .ch j then some (.ins C.cc (L.dx (.ch j)) (chF (((chan s j).from_ + 1 : Nat) : Int) (((chan s j).to + 1 : Nat) : Int) (n : Int) (L.addr (.wr j)) (((chan s j).wrote.length - (chan s j).on.length : Nat) : Int))) else cont C L s t := by
  refine cont_setChan h (.inl rfl) ?_ ?_
  · rw [if_pos rfl, cont_ch (lenC_set h), chan_set h]
  · rw [if_neg (by intro z; cases z), cont_wr (lenC_set h), chan_set h, cont_wr h]
/-- one number less is on it -/
theorem cont_take {j : Nat} {l : List Nat} (h : j < s.chans.length) : ∀ t, cont C L (setChan s j { chan s j with on := l }) t = if t = .ch j then some (.ins C.cc (L.dx (.ch j)) (chF (((chan s j).from_ + 1 : Nat) : Int) (((chan s j).to + 1 : Nat) : Int) ((chan s j).room : Int) (L.addr (.wr j)) (((chan s j).wrote.length - l.length : Nat) : Int))) else cont C L s t := by
  refine cont_setChan h (.inl rfl) ?_ ?_
  · rw [if_pos rfl, cont_ch (lenC_set h), chan_set h]
  · rw [if_neg (by intro z; cases z), cont_wr (lenC_set h), chan_set h, cont_wr h]
/-- one number more is on it -/
theorem cont_putC {j v : Nat} (h : j < s.chans.length) : ∀ t, cont C L (setChan s j { chan s j with on := (chan s j).on ++ [v], wrote := (chan s j).wrote ++ [v] }) t = if t = .wr j then some (.lst (vI (chan s j).wrote ++ [V.int (v : Int)])) else cont C L s t := by
  refine cont_setChan h (.inr rfl) ?_ ?_
  · rw [if_neg (by intro z; cases z), cont_ch (lenC_set h), chan_set h, cont_ch h]
    have e : ((chan s j).wrote ++ [v]).length - ((chan s j).on ++ [v]).length = (chan s j).wrote.length - (chan s j).on.length := by
      rw [List.length_append, List.length_append]; omega
    dsimp only
    rw [e]
  · rw [if_pos rfl, cont_wr (lenC_set h), chan_set h, vI_app]; rfl
/-- other counts -/
theorem cont_steps {n : Nat} : ∀ t, cont C L { s with steps := n } t = if t = .net then some (.ins C.cn (L.dx .net) (ntF (L.addr .ps) (L.addr .cs) (n : Int) (s.grown : Int))) else cont C L s t := fun t => by
  by_cases q : t = .net
  · rw [if_pos q, q]; rfl
  · rw [if_neg q]; cases t <;> first | rfl | exact absurd rfl q
theorem cont_grown {n : Nat} : ∀ t, cont C L { s with grown := n } t = if t = .net then some (.ins C.cn (L.dx .net) (ntF (L.addr .ps) (L.addr .cs) (s.steps : Int) (n : Int))) else cont C L s t := fun t => by
  by_cases q : t = .net
  · rw [if_pos q, q]; rfl
  · rw [if_neg q]; cases t <;> first | rfl | exact absurd rfl q
end
end Ro
end part_P1
section part_P2
set_option linter.unusedVariables false
set_option maxRecDepth 100000
set_option maxHeartbeats 2000000
namespace Ro
open PySem PySem.Spec PyProof.Rows L2
open Hs09 (Instr Proc Chan noProc fresh threes)
def Lay.put (L : Lay) (t : Tag) (a d : Addr) : Lay := ⟨fun u => if u = t then a else L.addr u, fun u => if u = t then d else L.dx u, fun b => if b = a then t else L.tag b⟩
section
variable {L : Lay} {t u : Tag} {a b d : Addr}
theorem put_addr : (L.put t a d).addr t = a := if_pos rfl
theorem put_addr_ne (h : u ≠ t) : (L.put t a d).addr u = L.addr u := if_neg h
theorem put_dx : (L.put t a d).dx t = d := if_pos rfl
theorem put_dx_ne (h : u ≠ t) : (L.put t a d).dx u = L.dx u := if_neg h
theorem put_tag : (L.put t a d).tag a = t := if_pos rfl
theorem put_tag_ne (h : b ≠ a) : (L.put t a d).tag b = L.tag b := if_neg h
end
abbrev zeroV : List V := [.int 0, .int 0, .int 0, .int 0]
/-- k new processes -/
structure NewP (C : Cs) (L : Lay) (H : Hp) (k : Nat) : Prop where
  pr : ∀ i, i < k → H (L.addr (.pr i)) = some (.ins C.cp (L.dx (.pr i)) (prF (L.addr (.pp i)) 1 (L.addr (.rg i)) (L.addr (.sd i)))) ∧ L.tag (L.addr (.pr i)) = .pr i
  pp : ∀ i, i < k → H (L.addr (.pp i)) = some (.lst []) ∧ L.tag (L.addr (.pp i)) = .pp i
  rg : ∀ i, i < k → H (L.addr (.rg i)) = some (.lst zeroV) ∧ L.tag (L.addr (.rg i)) = .rg i
  sd : ∀ i, i < k → H (L.addr (.sd i)) = some (.lst []) ∧ L.tag (L.addr (.sd i)) = .sd i
/-- new channels -/
structure NewC (C : Cs) (L : Lay) (H : Hp) (cs : List (Nat × Nat × Nat)) : Prop where
  ch : ∀ j x, cs[j]? = some x → H (L.addr (.ch j)) = some (.ins C.cc (L.dx (.ch j)) (chF (x.1 : Int) (x.2.1 : Int) (x.2.2 : Int) (L.addr (.wr j)) 0)) ∧ L.tag (L.addr (.ch j)) = .ch j
  wr : ∀ j x, cs[j]? = some x → H (L.addr (.wr j)) = some (.lst []) ∧ L.tag (L.addr (.wr j)) = .wr j
/-- what was there is no part of it; what is a part is there -/
structure Rest (L : Lay) (H0 H : Hp) : Prop where
  old : ∀ b o, H0 b = some o → H b = some o ∧ L.tag b = .out
  dom : ∀ b, L.tag b ≠ .out → ∃ o, H b = some o ∧ plainO o
section
variable {C : Cs} {L : Lay} {H0 H H1 : Hp} {k : Nat} {cs : List (Nat × Nat × Nat)}
theorem NewP.same (p : NewP C L H k) (S : Same H H1) : NewP C L H1 k :=
  ⟨fun i h => ⟨S _ _ (p.pr i h).1, (p.pr i h).2⟩, fun i h => ⟨S _ _ (p.pp i h).1, (p.pp i h).2⟩, fun i h => ⟨S _ _ (p.rg i h).1, (p.rg i h).2⟩, fun i h => ⟨S _ _ (p.sd i h).1, (p.sd i h).2⟩⟩
theorem NewC.same (p : NewC C L H cs) (S : Same H H1) : NewC C L H1 cs := ⟨fun j x h => ⟨S _ _ (p.ch j x h).1, (p.ch j x h).2⟩, fun j x h => ⟨S _ _ (p.wr j x h).1, (p.wr j x h).2⟩⟩
theorem Rest.same (p : Rest L H0 H) (S : Same H H1) : Rest L H0 H1 := ⟨fun b o h => ⟨S _ _ (p.old b o h).1, (p.old b o h).2⟩, fun b h => by obtain ⟨o, e, q⟩ := p.dom b h; exact ⟨o, S _ _ e, q⟩⟩
/-- one more part, at an address that was free -/
theorem Rest.put (p : Rest L H0 H) {t : Tag} {a d : Addr} {o : HO} (ha : H0 a = none) (ho : H a = some o) (hp : plainO o) : Rest (L.put t a d) H0 H := by
  refine ⟨fun b u e => ⟨(p.old b u e).1, ?_⟩, fun b h => ?_⟩
  · rw [put_tag_ne (ne_of_none e ha)]; exact (p.old b u e).2
  · by_cases z : b = a
    · rw [z]; exact ⟨o, ho, hp⟩
    · rw [put_tag_ne z] at h; exact p.dom b h
/-- a part that does not concern the first k processes -/
theorem NewP.put (p : NewP C L H k) {t : Tag} {a d : Addr} (ht : ∀ i, i < k → Tag.pr i ≠ t ∧ Tag.pp i ≠ t ∧ Tag.rg i ≠ t ∧ Tag.sd i ≠ t) (ha : ∀ b o, H b = some o → L.tag b ≠ .out → b ≠ a) : NewP C (L.put t a d) H k := by
  have nt : ∀ {u : Tag} {o : HO}, H (L.addr u) = some o → L.tag (L.addr u) = u → u ≠ .out → L.addr u ≠ a := fun h1 h2 h3 => ha _ _ h1 (by rw [h2]; exact h3)
  refine ⟨fun i h => ?_, fun i h => ?_, fun i h => ?_, fun i h => ?_⟩
  · obtain ⟨h1, h2, h3, h4⟩ := ht i h
    obtain ⟨e1, e2⟩ := p.pr i h
    rw [put_addr_ne h1, put_dx_ne h1, put_addr_ne h2, put_addr_ne h3, put_addr_ne h4, put_tag_ne (nt e1 e2 (by intro z; cases z))]
    exact ⟨e1, e2⟩
  · obtain ⟨h1, h2, h3, h4⟩ := ht i h
    obtain ⟨e1, e2⟩ := p.pp i h
    rw [put_addr_ne h2, put_tag_ne (nt e1 e2 (by intro z; cases z))]
    exact ⟨e1, e2⟩
  · obtain ⟨h1, h2, h3, h4⟩ := ht i h
    obtain ⟨e1, e2⟩ := p.rg i h
    rw [put_addr_ne h3, put_tag_ne (nt e1 e2 (by intro z; cases z))]
    exact ⟨e1, e2⟩
  · obtain ⟨h1, h2, h3, h4⟩ := ht i h
    obtain ⟨e1, e2⟩ := p.sd i h
    rw [put_addr_ne h4, put_tag_ne (nt e1 e2 (by intro z; cases z))]
    exact ⟨e1, e2⟩
theorem NewC.put (p : NewC C L H cs) {t : Tag} {a d : Addr} (ht : ∀ j, j < cs.length → Tag.ch j ≠ t ∧ Tag.wr j ≠ t) (ha : ∀ b o, H b = some o → L.tag b ≠ .out → b ≠ a) : NewC C (L.put t a d) H cs := by
  have nt : ∀ {u : Tag} {o : HO}, H (L.addr u) = some o → L.tag (L.addr u) = u → u ≠ .out → L.addr u ≠ a := fun h1 h2 h3 => ha _ _ h1 (by rw [h2]; exact h3)
  refine ⟨fun j x h => ?_, fun j x h => ?_⟩
  · obtain ⟨h1, h2⟩ := ht j (List.getElem?_eq_some_iff.mp h).1
    obtain ⟨e1, e2⟩ := p.ch j x h
    rw [put_addr_ne h1, put_dx_ne h1, put_addr_ne h2, put_tag_ne (nt e1 e2 (by intro z; cases z))]
    exact ⟨e1, e2⟩
  · obtain ⟨h1, h2⟩ := ht j (List.getElem?_eq_some_iff.mp h).1
    obtain ⟨e1, e2⟩ := p.wr j x h
    rw [put_addr_ne h2, put_tag_ne (nt e1 e2 (by intro z; cases z))]
    exact ⟨e1, e2⟩
/-- one process more -/
theorem NewP.add (p : NewP C L H k) (r : Rest L H0 H) {x dx g rg sd : Addr} (hx : H x = none) (hg : H g = none) (hr : H rg = none) (hd : H sd = none) (xg : x ≠ g) (xr : x ≠ rg) (xd : x ≠ sd) (gr : g ≠ rg) (gd : g ≠ sd) (rd : rg ≠ sd)
    (S : Same H H1) (e1 : H1 x = some (.ins C.cp dx (prF g 1 rg sd))) (e2 : H1 g = some (.lst [])) (e3 : H1 rg = some (.lst zeroV)) (e4 : H1 sd = some (.lst [])) :
    ∃ L', NewP C L' H1 (k + 1) ∧ Rest L' H0 H1 ∧ L'.addr (.pr k) = x ∧ (∀ i, i < k → L'.addr (.pr i) = L.addr (.pr i)) ∧ (∀ b o, H b = some o → L'.tag b = L.tag b) := by
  have fr : ∀ a, H a = none → H0 a = none := fun a h => by
    cases q : H0 a with
    | none => rfl
    | some o => rw [(r.old a o q).1] at h; cases h
  have p1 := p.same S
  have r1 := r.same S
  have tagged : ∀ {L : Lay}, Rest L H0 H → ∀ a, H a = none → ∀ b o, H b = some o → L.tag b ≠ .out → b ≠ a := fun _ a h b o e _ z => by rw [z, h] at e; cases e
  have key : ∀ a, H a = none → ∀ b o, H1 b = some o → L.tag b ≠ .out → b ≠ a := fun a h b o _ t z => by
    obtain ⟨u, e, _⟩ := r.dom b t
    rw [z, h] at e; cases e
  have cl : ∀ (i : Nat), i < k → (Tag.pr i ≠ .pr k ∧ Tag.pp i ≠ .pr k ∧ Tag.rg i ≠ .pr k ∧ Tag.sd i ≠ .pr k) ∧ (Tag.pr i ≠ .pp k ∧ Tag.pp i ≠ .pp k ∧ Tag.rg i ≠ .pp k ∧ Tag.sd i ≠ .pp k) ∧ (Tag.pr i ≠ .rg k ∧ Tag.pp i ≠ .rg k ∧ Tag.rg i ≠ .rg k ∧ Tag.sd i ≠ .rg k) ∧ (Tag.pr i ≠ .sd k ∧ Tag.pp i ≠ .sd k ∧ Tag.rg i ≠ .sd k ∧ Tag.sd i ≠ .sd k) := fun i h => by
    have : i ≠ k := by omega
    simp [this]
  have kx := key x hx
  have kg : ∀ b o, H1 b = some o → (L.put (.pr k) x dx).tag b ≠ .out → b ≠ g := fun b o e t z => by
    rw [z, put_tag_ne xg.symm] at t
    exact key g hg b o e (by rw [z]; exact t) z
  have kr : ∀ b o, H1 b = some o → ((L.put (.pr k) x dx).put (.pp k) g 0).tag b ≠ .out → b ≠ rg := fun b o e t z => by
    rw [z, put_tag_ne gr.symm, put_tag_ne xr.symm] at t
    exact key rg hr b o e (by rw [z]; exact t) z
  have kd : ∀ b o, H1 b = some o → (((L.put (.pr k) x dx).put (.pp k) g 0).put (.rg k) rg 0).tag b ≠ .out → b ≠ sd := fun b o e t z => by
    rw [z, put_tag_ne rd.symm, put_tag_ne gd.symm, put_tag_ne xd.symm] at t
    exact key sd hd b o e (by rw [z]; exact t) z
  have q4 := (((p1.put (d := dx) (fun i h => (cl i h).1) kx).put (d := 0) (fun i h => (cl i h).2.1) kg).put (d := 0) (fun i h => (cl i h).2.2.1) kr).put (d := 0) (fun i h => (cl i h).2.2.2) kd
  have s4 := (((r1.put (t := .pr k) (d := dx) (fr x hx) e1 trivial).put (t := .pp k) (d := 0) (fr g hg) e2 trivial).put (t := .rg k) (d := 0) (fr rg hr) e3 trivial).put (t := .sd k) (d := 0) (fr sd hd) e4 trivial
  have c1 : ∀ {a b : Nat}, Tag.pr a ≠ .sd b := fun z => by cases z
  have c2 : ∀ {a b : Nat}, Tag.pr a ≠ .rg b := fun z => by cases z
  have c3 : ∀ {a b : Nat}, Tag.pr a ≠ .pp b := fun z => by cases z
  have c4 : ∀ {a b : Nat}, Tag.pp a ≠ .sd b := fun z => by cases z
  have c5 : ∀ {a b : Nat}, Tag.pp a ≠ .rg b := fun z => by cases z
  have c6 : ∀ {a b : Nat}, Tag.rg a ≠ .sd b := fun z => by cases z
  have ax : ((((L.put (.pr k) x dx).put (.pp k) g 0).put (.rg k) rg 0).put (.sd k) sd 0).addr (.pr k) = x := by rw [put_addr_ne c1, put_addr_ne c2, put_addr_ne c3, put_addr]
  have dx' : ((((L.put (.pr k) x dx).put (.pp k) g 0).put (.rg k) rg 0).put (.sd k) sd 0).dx (.pr k) = dx := by rw [put_dx_ne c1, put_dx_ne c2, put_dx_ne c3, put_dx]
  have ag : ((((L.put (.pr k) x dx).put (.pp k) g 0).put (.rg k) rg 0).put (.sd k) sd 0).addr (.pp k) = g := by rw [put_addr_ne c4, put_addr_ne c5, put_addr]
  have ar : ((((L.put (.pr k) x dx).put (.pp k) g 0).put (.rg k) rg 0).put (.sd k) sd 0).addr (.rg k) = rg := by rw [put_addr_ne c6, put_addr]
  have ad : ((((L.put (.pr k) x dx).put (.pp k) g 0).put (.rg k) rg 0).put (.sd k) sd 0).addr (.sd k) = sd := put_addr
  refine ⟨_, ⟨fun i h => ?_, fun i h => ?_, fun i h => ?_, fun i h => ?_⟩, s4, ax, fun i h => ?_, fun b o h => ?_⟩
  · by_cases z : i = k
    · rw [z, ax, dx', ag, ar, ad]
      exact ⟨e1, by rw [put_tag_ne xd, put_tag_ne xr, put_tag_ne xg, put_tag]⟩
    · exact q4.pr i (by omega)
  · by_cases z : i = k
    · rw [z, ag]
      exact ⟨e2, by rw [put_tag_ne gd, put_tag_ne gr, put_tag]⟩
    · exact q4.pp i (by omega)
  · by_cases z : i = k
    · rw [z, ar]
      exact ⟨e3, by rw [put_tag_ne rd, put_tag]⟩
    · exact q4.rg i (by omega)
  · by_cases z : i = k
    · rw [z, ad]
      exact ⟨e4, put_tag⟩
    · exact q4.sd i (by omega)
  · have ne : Tag.pr i ≠ .pr k := (cl i h).1.1
    rw [put_addr_ne c1, put_addr_ne c2, put_addr_ne c3, put_addr_ne ne]
  · rw [put_tag_ne (ne_of_none h hd), put_tag_ne (ne_of_none h hr), put_tag_ne (ne_of_none h hg), put_tag_ne (ne_of_none h hx)]
/-- one channel more -/
theorem NewC.add {y : Nat × Nat × Nat} (c : NewC C L H cs) (p : NewP C L H k) (r : Rest L H0 H) {x dx w : Addr} (hx : H x = none) (hw : H w = none) (xw : x ≠ w)
    (S : Same H H1) (e1 : H1 x = some (.ins C.cc dx (chF (y.1 : Int) (y.2.1 : Int) (y.2.2 : Int) w 0))) (e2 : H1 w = some (.lst [])) :
    ∃ L', NewC C L' H1 (cs ++ [y]) ∧ NewP C L' H1 k ∧ Rest L' H0 H1 ∧ L'.addr (.ch cs.length) = x ∧ (∀ j, j < cs.length → L'.addr (.ch j) = L.addr (.ch j)) ∧ (∀ i, L'.addr (.pr i) = L.addr (.pr i)) ∧ (∀ b o, H b = some o → L'.tag b = L.tag b) := by
  have fr : ∀ a, H a = none → H0 a = none := fun a h => by
    cases q : H0 a with
    | none => rfl
    | some o => rw [(r.old a o q).1] at h; cases h
  have p1 := p.same S
  have r1 := r.same S
  have g1 := c.same S
  have key : ∀ a, H a = none → ∀ b o, H1 b = some o → L.tag b ≠ .out → b ≠ a := fun a h b o _ t z => by
    obtain ⟨u, e, _⟩ := r.dom b t
    rw [z, h] at e; cases e
  have kx := key x hx
  have kw : ∀ b o, H1 b = some o → (L.put (.ch cs.length) x dx).tag b ≠ .out → b ≠ w := fun b o e t z => by
    rw [z, put_tag_ne xw.symm] at t
    exact key w hw b o e (by rw [z]; exact t) z
  have cl : ∀ (j : Nat), j < cs.length → (Tag.ch j ≠ .ch cs.length ∧ Tag.wr j ≠ .ch cs.length) ∧ (Tag.ch j ≠ .wr cs.length ∧ Tag.wr j ≠ .wr cs.length) := fun j h => by
    have : j ≠ cs.length := by omega
    simp [this]
  have q2 := (g1.put (d := dx) (fun j h => (cl j h).1) kx).put (d := 0) (fun j h => (cl j h).2) kw
  have m2 := (p1.put (t := .ch cs.length) (d := dx) (fun i h => by simp) kx).put (t := .wr cs.length) (d := 0) (fun i h => by simp) kw
  have s2 := (r1.put (t := .ch cs.length) (d := dx) (fr x hx) e1 trivial).put (t := .wr cs.length) (d := 0) (fr w hw) e2 trivial
  have c1 : ∀ {a b : Nat}, Tag.ch a ≠ .wr b := fun z => by cases z
  have ax : ((L.put (.ch cs.length) x dx).put (.wr cs.length) w 0).addr (.ch cs.length) = x := by rw [put_addr_ne c1, put_addr]
  have dx' : ((L.put (.ch cs.length) x dx).put (.wr cs.length) w 0).dx (.ch cs.length) = dx := by rw [put_dx_ne c1, put_dx]
  have aw : ((L.put (.ch cs.length) x dx).put (.wr cs.length) w 0).addr (.wr cs.length) = w := put_addr
  have last : ∀ {j : Nat} {z : Nat × Nat × Nat}, (cs ++ [y])[j]? = some z → (j = cs.length ∧ z = y) ∨ (j < cs.length ∧ cs[j]? = some z) := fun {j z} h => by
    by_cases q : j < cs.length
    · rw [List.getElem?_append_left q] at h
      exact .inr ⟨q, h⟩
    · obtain ⟨l, _⟩ := List.getElem?_eq_some_iff.mp h
      rw [List.length_append, List.length_singleton] at l
      have e : j = cs.length := by omega
      subst e
      rw [List.getElem?_append_right (Nat.le_refl _), Nat.sub_self] at h
      exact .inl ⟨rfl, (Option.some.inj h).symm⟩
  refine ⟨_, ⟨fun j z h => ?_, fun j z h => ?_⟩, m2, s2, ax, fun j h => ?_, fun i => ?_, fun b o h => ?_⟩
  · rcases last h with ⟨q, e⟩ | ⟨q, e⟩
    · rw [q, e, ax, dx', aw]
      exact ⟨e1, by rw [put_tag_ne xw, put_tag]⟩
    · exact q2.ch j z e
  · rcases last h with ⟨q, e⟩ | ⟨q, e⟩
    · rw [q, aw]
      exact ⟨e2, put_tag⟩
    · exact q2.wr j z e
  · rw [put_addr_ne c1, put_addr_ne (cl j h).1.1]
  · rw [put_addr_ne (by intro z; cases z), put_addr_ne (by intro z; cases z)]
  · rw [put_tag_ne (ne_of_none h hw), put_tag_ne (ne_of_none h hx)]
theorem NewP.out (p : NewP C L H k) {a : Addr} {o : HO} (h : L.tag a = .out) : NewP C L (upd H a o) k := by
  have ne : ∀ {b : Addr} {t : Tag}, L.tag b = t → t ≠ .out → b ≠ a := fun e n z => n (by rw [← e, z, h])
  refine ⟨fun i q => ?_, fun i q => ?_, fun i q => ?_, fun i q => ?_⟩
  · obtain ⟨e1, e2⟩ := p.pr i q
    exact ⟨by rw [upd_ne (ne e2 (by intro z; cases z))]; exact e1, e2⟩
  · obtain ⟨e1, e2⟩ := p.pp i q
    exact ⟨by rw [upd_ne (ne e2 (by intro z; cases z))]; exact e1, e2⟩
  · obtain ⟨e1, e2⟩ := p.rg i q
    exact ⟨by rw [upd_ne (ne e2 (by intro z; cases z))]; exact e1, e2⟩
  · obtain ⟨e1, e2⟩ := p.sd i q
    exact ⟨by rw [upd_ne (ne e2 (by intro z; cases z))]; exact e1, e2⟩
theorem NewC.out (p : NewC C L H cs) {a : Addr} {o : HO} (h : L.tag a = .out) : NewC C L (upd H a o) cs := by
  have ne : ∀ {b : Addr} {t : Tag}, L.tag b = t → t ≠ .out → b ≠ a := fun e n z => n (by rw [← e, z, h])
  refine ⟨fun j x q => ?_, fun j x q => ?_⟩
  · obtain ⟨e1, e2⟩ := p.ch j x q
    exact ⟨by rw [upd_ne (ne e2 (by intro z; cases z))]; exact e1, e2⟩
  · obtain ⟨e1, e2⟩ := p.wr j x q
    exact ⟨by rw [upd_ne (ne e2 (by intro z; cases z))]; exact e1, e2⟩
theorem Rest.out (p : Rest L H0 H) {a : Addr} {o : HO} (h0 : H0 a = none) (h : L.tag a = .out) : Rest L H0 (upd H a o) :=
  ⟨fun b u e => ⟨by rw [upd_ne (ne_of_none e h0)]; exact (p.old b u e).1, (p.old b u e).2⟩, fun b t => by
    obtain ⟨u, e, q⟩ := p.dom b t
    exact ⟨u, by rw [upd_ne (fun z => t (by rw [z]; exact h))]; exact e, q⟩⟩
theorem refs_more {f g : Nat → Addr} {n : Nat} {x : Addr} (h : ∀ i, i < n → g i = f i) (hx : g n = x) : refs g (n + 1) = refs f n ++ [V.ref x] := by
  unfold refs
  rw [List.range_succ, List.map_append, ← hx]
  congr 1
  exact List.map_congr_left fun i hi => by rw [h i (List.mem_range.mp hi)]
theorem refs_congr {f g : Nat → Addr} {n : Nat} (h : ∀ i, i < n → g i = f i) : refs g n = refs f n := List.map_congr_left fun i hi => by rw [h i (List.mem_range.mp hi)]
/-- **all parts are there: the net is laid** -/
theorem NetAt.laid {T : List NTab} {net dn dp dc : Addr} (p : NewP C L H k) (c : NewC C L H cs) (r : Rest L H0 H) (hn : H net = some (.ins C.cn dn (ntF dp dc 0 0))) (hp : H dp = some (.lst (refs (fun i => L.addr (.pr i)) k))) (hc : H dc = some (.lst (refs (fun j => L.addr (.ch j)) cs.length)))
    (n0 : H0 net = none) (p0 : H0 dp = none) (c0 : H0 dc = none) (tn : L.tag net = .out) (tp : L.tag dp = .out) (tc : L.tag dc = .out) (np : dp ≠ dc) (hT : TabsN T H) (hok : ∀ x ∈ cs, 1 ≤ x.1 ∧ 1 ≤ x.2.1) :
    ∃ L', NetAt C T L' H (fresh k cs) ∧ L'.addr .net = net ∧ ∀ b o, H0 b = some o → L'.tag b = .out := by
  have n1 : net ≠ dp := ne_of hn hp (by intro z; cases z)
  have n2 : net ≠ dc := ne_of hn hc (by intro z; cases z)
  have kn : ∀ b o, H b = some o → L.tag b ≠ .out → b ≠ net := fun b o _ t z => t (by rw [z]; exact tn)
  have kp : ∀ b o, H b = some o → (L.put .net net dn).tag b ≠ .out → b ≠ dp := fun b o _ t z => t (by rw [z, put_tag_ne n1.symm]; exact tp)
  have kc : ∀ b o, H b = some o → ((L.put .net net dn).put .ps dp 0).tag b ≠ .out → b ≠ dc := fun b o _ t z => t (by rw [z, put_tag_ne np.symm, put_tag_ne n2.symm]; exact tc)
  have P3 := ((p.put (t := .net) (d := dn) (fun i _ => by simp) kn).put (t := .ps) (d := 0) (fun i _ => by simp) kp).put (t := .cs) (d := 0) (fun i _ => by simp) kc
  have C3 := ((c.put (t := .net) (d := dn) (fun i _ => by simp) kn).put (t := .ps) (d := 0) (fun i _ => by simp) kp).put (t := .cs) (d := 0) (fun i _ => by simp) kc
  have R3 := ((r.put (t := .net) (d := dn) n0 hn trivial).put (t := .ps) (d := 0) p0 hp trivial).put (t := .cs) (d := 0) c0 hc trivial
  have a1 : (((L.put .net net dn).put .ps dp 0).put .cs dc 0).addr .net = net := by rw [put_addr_ne (by intro z; cases z), put_addr_ne (by intro z; cases z), put_addr]
  have a2 : (((L.put .net net dn).put .ps dp 0).put .cs dc 0).addr .ps = dp := by rw [put_addr_ne (by intro z; cases z), put_addr]
  have a3 : (((L.put .net net dn).put .ps dp 0).put .cs dc 0).addr .cs = dc := put_addr
  have d1 : (((L.put .net net dn).put .ps dp 0).put .cs dc 0).dx .net = dn := by rw [put_dx_ne (by intro z; cases z), put_dx_ne (by intro z; cases z), put_dx]
  have g1 : (((L.put .net net dn).put .ps dp 0).put .cs dc 0).tag net = .net := by rw [put_tag_ne n2, put_tag_ne n1, put_tag]
  have g2 : (((L.put .net net dn).put .ps dp 0).put .cs dc 0).tag dp = .ps := by rw [put_tag_ne np, put_tag]
  have g3 : (((L.put .net net dn).put .ps dp 0).put .cs dc 0).tag dc = .cs := put_tag
  have ap : ∀ i, (((L.put .net net dn).put .ps dp 0).put .cs dc 0).addr (.pr i) = L.addr (.pr i) := fun i => by rw [put_addr_ne (by intro z; cases z), put_addr_ne (by intro z; cases z), put_addr_ne (by intro z; cases z)]
  have ac : ∀ i, (((L.put .net net dn).put .ps dp 0).put .cs dc 0).addr (.ch i) = L.addr (.ch i) := fun i => by rw [put_addr_ne (by intro z; cases z), put_addr_ne (by intro z; cases z), put_addr_ne (by intro z; cases z)]
  generalize ((L.put .net net dn).put .ps dp 0).put .cs dc 0 = L' at *
  have lp : ∀ {i : Nat} {x : Proc}, (fresh k cs).procs[i]? = some x → i < k ∧ x = noProc := fun {i x} e => by
    have e : ((List.range k).map fun _ => noProc)[i]? = some x := e
    rw [List.getElem?_map] at e
    obtain ⟨j, ej, ex⟩ := Option.map_eq_some_iff.mp e
    obtain ⟨l, _⟩ := List.getElem?_eq_some_iff.mp ej
    rw [List.length_range] at l
    exact ⟨l, ex.symm⟩
  have lc : ∀ {j : Nat} {x : Chan}, (fresh k cs).chans[j]? = some x → ∃ y, cs[j]? = some y ∧ x = ⟨y.1 - 1, y.2.1 - 1, y.2.2, [], []⟩ := fun {j x} e => by
    have e : (cs.map fun x => (⟨x.1 - 1, x.2.1 - 1, x.2.2, [], []⟩ : Chan))[j]? = some x := e
    rw [List.getElem?_map] at e
    obtain ⟨y, ej, ex⟩ := Option.map_eq_some_iff.mp e
    exact ⟨y, ej, ex.symm⟩
  have len1 : (fresh k cs).procs.length = k := by show ((List.range k).map _).length = k; rw [List.length_map, List.length_range]
  have len2 : (fresh k cs).chans.length = cs.length := List.length_map ..
  have both : ∀ t o, cont C L' (fresh k cs) t = some o → H (L'.addr t) = some o ∧ L'.tag (L'.addr t) = t := fun t o e => by
    cases t with
    | out => cases e
    | net =>
      have e := Option.some.inj e
      subst e
      rw [a1, a2, a3, d1, g1]
      exact ⟨hn, rfl⟩
    | ps =>
      have e := Option.some.inj e
      subst e
      rw [a2, len1, refs_congr (fun i _ => ap i), g2]
      exact ⟨hp, rfl⟩
    | cs =>
      have e := Option.some.inj e
      subst e
      rw [a3, len2, refs_congr (fun i _ => ac i), g3]
      exact ⟨hc, rfl⟩
    | pr i =>
      obtain ⟨x, ex, rfl⟩ := Option.map_eq_some_iff.mp e
      obtain ⟨hi, rfl⟩ := lp ex
      exact P3.pr i hi
    | pp i =>
      obtain ⟨x, ex, rfl⟩ := Option.map_eq_some_iff.mp e
      obtain ⟨hi, rfl⟩ := lp ex
      exact P3.pp i hi
    | rw i m =>
      obtain ⟨x, ex, e2⟩ := Option.bind_eq_some_iff.mp e
      obtain ⟨hi, rfl⟩ := lp ex
      cases e2
    | rg i =>
      obtain ⟨x, ex, rfl⟩ := Option.map_eq_some_iff.mp e
      obtain ⟨hi, rfl⟩ := lp ex
      exact P3.rg i hi
    | sd i =>
      obtain ⟨x, ex, rfl⟩ := Option.map_eq_some_iff.mp e
      obtain ⟨hi, rfl⟩ := lp ex
      exact P3.sd i hi
    | ch j =>
      obtain ⟨x, ex, rfl⟩ := Option.map_eq_some_iff.mp e
      obtain ⟨y, hy, rfl⟩ := lc ex
      obtain ⟨h1, h2⟩ := hok y (List.mem_of_getElem? hy)
      have := C3.ch j y hy
      dsimp only
      rw [Nat.sub_add_cancel h1, Nat.sub_add_cancel h2]
      exact this
    | wr j =>
      obtain ⟨x, ex, rfl⟩ := Option.map_eq_some_iff.mp e
      obtain ⟨y, hy, rfl⟩ := lc ex
      exact C3.wr j y hy
  exact ⟨L', ⟨fun t o e => (both t o e).1, fun t o e => (both t o e).2, R3.dom, hT⟩, a1, fun b o e => (R3.old b o e).2⟩
end
end Ro
end part_P2
section part_P3
set_option linter.unusedVariables false
set_option maxRecDepth 100000
set_option maxHeartbeats 2000000
namespace Ro
open PySem PySem.Spec PyProof.Rows L2
open Hs09 (Instr Proc Chan proc chan setProc noProc)
/-- new rows of process i -/
structure NewR (L0 L : Lay) (H0 H : Hp) (i : Nat) (rows : List (List Nat)) : Prop where
  row : ∀ k r, rows[k]? = some r → H (L.addr (.rw i k)) = some (.lst (vI r)) ∧ L.tag (L.addr (.rw i k)) = .rw i k
  oth : ∀ t, (∀ k, t ≠ .rw i k) → L.addr t = L0.addr t ∧ L.dx t = L0.dx t
  old : ∀ b o, H0 b = some o → H b = some o ∧ L.tag b = L0.tag b
  dom : ∀ b, L.tag b ≠ .out → ∃ o, H b = some o ∧ plainO o
section
variable {L0 L : Lay} {H0 H H1 : Hp} {i : Nat} {rows : List (List Nat)}
theorem NewR.out (p : NewR L0 L H0 H i rows) {a : Addr} {o : HO} (h0 : H0 a = none) (h : L.tag a = .out) : NewR L0 L H0 (upd H a o) i rows := by
  refine ⟨fun k r e => ?_, p.oth, fun b u e => ?_, fun b t => ?_⟩
  · obtain ⟨e1, e2⟩ := p.row k r e
    exact ⟨by rw [upd_ne (fun z => by rw [z, h] at e2; cases e2)]; exact e1, e2⟩
  · obtain ⟨e1, e2⟩ := p.old b u e
    exact ⟨by rw [upd_ne (ne_of_none e h0)]; exact e1, e2⟩
  · obtain ⟨u, e, q⟩ := p.dom b t
    exact ⟨u, by rw [upd_ne (fun z => t (by rw [z]; exact h))]; exact e, q⟩
theorem NewR.add (p : NewR L0 L H0 H i rows) {x : Addr} {r : List Nat} (hx : H x = none) : ∃ L', NewR L0 L' H0 (upd H x (.lst (vI r))) i (rows ++ [r]) ∧ L'.addr (.rw i rows.length) = x ∧ (∀ k, k < rows.length → L'.addr (.rw i k) = L.addr (.rw i k)) ∧ (∀ b o, H b = some o → L'.tag b = L.tag b) := by
  refine ⟨L.put (.rw i rows.length) x 0, ⟨fun k s e => ?_, fun t n => ?_, fun b u e => ?_, fun b t => ?_⟩, put_addr, fun k h => ?_, fun b o e => ?_⟩
  · by_cases q : k < rows.length
    · rw [List.getElem?_append_left q] at e
      obtain ⟨e1, e2⟩ := p.row k s e
      have n1 : Tag.rw i k ≠ .rw i rows.length := fun z => by
        injection z with _ z2
        omega
      have n2 := ne_of_none e1 hx
      rw [put_addr_ne n1, upd_ne n2, put_tag_ne n2]
      exact ⟨e1, e2⟩
    · obtain ⟨l, _⟩ := List.getElem?_eq_some_iff.mp e
      rw [List.length_append, List.length_singleton] at l
      have z : k = rows.length := by omega
      subst z
      rw [List.getElem?_append_right (Nat.le_refl _), Nat.sub_self] at e
      obtain rfl : r = s := Option.some.inj e
      rw [put_addr]
      exact ⟨upd_same, put_tag⟩
  · rw [put_addr_ne (n _), put_dx_ne (n _)]
    exact p.oth t n
  · obtain ⟨e1, e2⟩ := p.old b u e
    have n := ne_of_none e1 hx
    rw [upd_ne n, put_tag_ne n]
    exact ⟨e1, e2⟩
  · by_cases z : b = x
    · rw [z]; exact ⟨_, upd_same, trivial⟩
    · rw [put_tag_ne z] at t
      obtain ⟨u, e, q⟩ := p.dom b t
      exact ⟨u, by rw [upd_ne z]; exact e, q⟩
  · exact put_addr_ne fun z => by
      injection z with _ z2
      omega
  · exact put_tag_ne (ne_of_none e hx)
end
/-- **process i has the program qs now** -/
theorem NetAt.program {C : Cs} {T : List NTab} {L0 L : Lay} {H0 H H1 : Hp} {s : Hs09.St} {i : Nat} {qs : List Instr} {D r' : Addr} (N : NetAt C T L0 H0 s) (hi : i < s.procs.length) (hs : (proc s i).said = []) (R : NewR L0 L H0 H i (qs.map rowOf))
    (hD : H D = some (.lst (refs (fun k => L.addr (.rw i k)) qs.length))) (tD : L.tag D = .out) (hD0 : H0 D = none) (hr0 : H r' = none) (hr : H1 r' = some (.lst zeroV)) (hp : H1 (L0.addr (.pr i)) = some (.ins C.cp (L0.dx (.pr i)) (prF D 1 r' (L0.addr (.sd i)))))
    (keep : ∀ b o, H b = some o → b ≠ L0.addr (.pr i) → H1 b = some o) (hT : TabsN T H1) :
    ∃ L', NetAt C T L' H1 (setProc s i { noProc with prog := qs }) ∧ L'.addr .net = L0.addr .net ∧ ∀ b o, H0 b = some o → L'.tag b = L0.tag b := by
  have gp : L0.tag (L0.addr (.pr i)) = .pr i := N.tg _ _ (cont_pr hi)
  have hpr0 := N.pr hi
  have tr : L.tag r' = .out := by
    cases e : L.tag r' with
    | out => rfl
    | _ =>
      obtain ⟨o, z, _⟩ := R.dom r' (by rw [e]; intro z; cases z)
      rw [hr0] at z; cases z
  have nDr : D ≠ r' := ne_of_none hD hr0
  have nDp : D ≠ L0.addr (.pr i) := fun z => by
    rw [z] at tD
    rw [(R.old _ _ hpr0).2, gp] at tD
    cases tD
  have nrp : r' ≠ L0.addr (.pr i) := fun z => by
    rw [z, (R.old _ _ hpr0).1] at hr0
    cases hr0
  -- a part that stays
  have stay : ∀ t o, cont C L0 s t = some o → t ≠ .pr i → (∀ k, t ≠ .rw i k) → t ≠ .pp i → t ≠ .rg i → H1 (((L.put (.pp i) D 0).put (.rg i) r' 0).addr t) = some o ∧ ((L.put (.pp i) D 0).put (.rg i) r' 0).tag (((L.put (.pp i) D 0).put (.rg i) r' 0).addr t) = t ∧ ((L.put (.pp i) D 0).put (.rg i) r' 0).addr t = L0.addr t := fun t o e n1 n2 n3 n4 => by
    have h0 := N.here t o e
    have t0 := N.tg t o e
    obtain ⟨hH, hL⟩ := R.old _ _ h0
    have a : ((L.put (.pp i) D 0).put (.rg i) r' 0).addr t = L0.addr t := by rw [put_addr_ne n4, put_addr_ne n3]; exact (R.oth t n2).1
    have m1 : L0.addr t ≠ r' := ne_of_none hH hr0
    have m2 : L0.addr t ≠ D := fun z => by
      rw [z, tD] at hL
      rw [← z, t0] at hL
      rw [← hL] at e
      cases e
    have m3 : L0.addr t ≠ L0.addr (.pr i) := fun z => n1 (by rw [← t0, z, gp])
    rw [a, put_tag_ne m1, put_tag_ne m2, hL]
    exact ⟨keep _ _ hH m3, t0, rfl⟩
  have oa : ∀ t, (∀ k, t ≠ .rw i k) → t ≠ .pp i → t ≠ .rg i → ((L.put (.pp i) D 0).put (.rg i) r' 0).addr t = L0.addr t ∧ ((L.put (.pp i) D 0).put (.rg i) r' 0).dx t = L0.dx t := fun t n2 n3 n4 => by
    rw [put_addr_ne n4, put_addr_ne n3, put_dx_ne n4, put_dx_ne n3]
    exact R.oth t n2
  have app : ((L.put (.pp i) D 0).put (.rg i) r' 0).addr (.pp i) = D := by rw [put_addr_ne (by intro z; cases z), put_addr]
  have arg : ((L.put (.pp i) D 0).put (.rg i) r' 0).addr (.rg i) = r' := put_addr
  have tpp : ((L.put (.pp i) D 0).put (.rg i) r' 0).tag D = .pp i := by rw [put_tag_ne nDr, put_tag]
  have trg : ((L.put (.pp i) D 0).put (.rg i) r' 0).tag r' = .rg i := put_tag
  have arw : ∀ k, ((L.put (.pp i) D 0).put (.rg i) r' 0).addr (.rw i k) = L.addr (.rw i k) := fun k => by rw [put_addr_ne (by intro z; cases z), put_addr_ne (by intro z; cases z)]
  have told : ∀ b o, H0 b = some o → ((L.put (.pp i) D 0).put (.rg i) r' 0).tag b = L0.tag b ∨ b = D := fun b o e => by
    by_cases z : b = D
    · exact .inr z
    · rw [put_tag_ne (ne_of_none (R.old b o e).1 hr0), put_tag_ne z]
      exact .inl (R.old b o e).2
  have dom2 : ∀ b, ((L.put (.pp i) D 0).put (.rg i) r' 0).tag b ≠ .out → ∃ o, H1 b = some o ∧ plainO o := fun b t => by
    by_cases z1 : b = r'
    · rw [z1]; exact ⟨_, hr, trivial⟩
    · rw [put_tag_ne z1] at t
      by_cases z2 : b = D
      · rw [z2]; exact ⟨_, keep _ _ hD nDp, trivial⟩
      · rw [put_tag_ne z2] at t
        by_cases z3 : b = L0.addr (.pr i)
        · rw [z3]; exact ⟨_, hp, trivial⟩
        · obtain ⟨o, e, q⟩ := R.dom b t
          exact ⟨o, keep b o e z3, q⟩
  have trow : ∀ k q, qs[k]? = some q → H1 (L.addr (.rw i k)) = some (.lst (vI (rowOf q))) ∧ ((L.put (.pp i) D 0).put (.rg i) r' 0).tag (L.addr (.rw i k)) = .rw i k := fun k q e => by
    obtain ⟨e1, e2⟩ := R.row k (rowOf q) (by rw [List.getElem?_map, e]; rfl)
    have m1 := ne_of_none e1 hr0
    have m2 : L.addr (.rw i k) ≠ D := fun z => by rw [z, tD] at e2; cases e2
    have m3 : L.addr (.rw i k) ≠ L0.addr (.pr i) := fun z => by
      rw [z, (R.old _ _ hpr0).2, gp] at e2; cases e2
    rw [put_tag_ne m1, put_tag_ne m2]
    exact ⟨keep _ _ e1 m3, e2⟩
  generalize (L.put (.pp i) D 0).put (.rg i) r' 0 = L' at *
  have hne : ∀ k, k ≠ i → (setProc s i { noProc with prog := qs }).procs[k]? = s.procs[k]? := fun k hk => by
    show (s.procs.set i _)[k]? = _
    rw [set_get hi, if_neg hk]
  have both : ∀ t o, cont C L' (setProc s i { noProc with prog := qs }) t = some o → H1 (L'.addr t) = some o ∧ L'.tag (L'.addr t) = t := fun t o e => by
    have same : ∀ t o, cont C L0 s t = some o → t ≠ .pr i → (∀ k, t ≠ .rw i k) → t ≠ .pp i → t ≠ .rg i → H1 (L'.addr t) = some o ∧ L'.tag (L'.addr t) = t := fun t o e n1 n2 n3 n4 => ⟨(stay t o e n1 n2 n3 n4).1, (stay t o e n1 n2 n3 n4).2.1⟩
    cases t with
    | out => cases e
    | net =>
      have e := Option.some.inj e
      subst e
      have := same .net _ rfl (by intro z; cases z) (fun k z => by cases z) (by intro z; cases z) (by intro z; cases z)
      rw [(oa .ps (fun k z => by cases z) (by intro z; cases z) (by intro z; cases z)).1, (oa .cs (fun k z => by cases z) (by intro z; cases z) (by intro z; cases z)).1, (oa .net (fun k z => by cases z) (by intro z; cases z) (by intro z; cases z)).2]
      exact this
    | ps =>
      have e := Option.some.inj e
      subst e
      have := same .ps _ rfl (by intro z; cases z) (fun k z => by cases z) (by intro z; cases z) (by intro z; cases z)
      rw [procs_len, refs_congr (f := fun i => L0.addr (.pr i)) (fun k _ => (oa (.pr k) (fun k z => by cases z) (by intro z; cases z) (by intro z; cases z)).1)]
      exact this
    | cs =>
      have e := Option.some.inj e
      subst e
      have := same .cs _ rfl (by intro z; cases z) (fun k z => by cases z) (by intro z; cases z) (by intro z; cases z)
      rw [refs_congr (f := fun i => L0.addr (.ch i)) (fun k _ => (oa (.ch k) (fun k z => by cases z) (by intro z; cases z) (by intro z; cases z)).1)]
      exact this
    | pr k =>
      have ak := oa (.pr k) (fun k z => by cases z) (by intro z; cases z) (by intro z; cases z)
      by_cases z : k = i
      · subst z
        rw [cont_pr (len_set hi), proc_set hi] at e
        have e := Option.some.inj e
        subst e
        rw [ak.1, ak.2, app, arg, (oa (.sd k) (fun k z => by cases z) (by intro z; cases z) (by intro z; cases z)).1]
        refine ⟨hp, ?_⟩
        rcases told _ _ hpr0 with y | y
        · rw [y]; exact gp
        · exact absurd y.symm nDp
      · have e1 : cont C L0 s (.pr k) = some o := by
          rw [← e]
          show (s.procs[k]?).map _ = ((setProc s i { noProc with prog := qs }).procs[k]?).map _
          rw [hne k z, ak.2, (oa (.pp k) (fun k z => by cases z) (fun y => by injection y with y; exact z y) (by intro z; cases z)).1, (oa (.rg k) (fun k z => by cases z) (by intro z; cases z) (fun y => by injection y with y; exact z y)).1, (oa (.sd k) (fun k z => by cases z) (by intro z; cases z) (by intro z; cases z)).1]
        exact same _ _ e1 (fun y => by injection y with y; exact z y) (fun k z => by cases z) (by intro z; cases z) (by intro z; cases z)
    | pp k =>
      by_cases z : k = i
      · subst z
        rw [cont_pp (len_set hi), proc_set hi] at e
        have e := Option.some.inj e
        subst e
        rw [app, refs_congr (f := fun j => L.addr (.rw k j)) (fun j _ => arw j), tpp]
        exact ⟨keep _ _ hD nDp, rfl⟩
      · have e1 : cont C L0 s (.pp k) = some o := by
          rw [← e]
          show (s.procs[k]?).map _ = ((setProc s i { noProc with prog := qs }).procs[k]?).map _
          rw [hne k z]
          congr 1
          funext x
          rw [refs_congr (g := fun j => L'.addr (.rw k j)) (f := fun j => L0.addr (.rw k j)) (fun j _ => (oa (.rw k j) (fun m y => by injection y with y; exact z y) (by intro z; cases z) (by intro z; cases z)).1)]
        exact same _ _ e1 (by intro z; cases z) (fun k z => by cases z) (fun y => by injection y with y; exact z y) (by intro z; cases z)
    | rw k m =>
      by_cases z : k = i
      · subst z
        obtain ⟨x, ex, e2⟩ := Option.bind_eq_some_iff.mp e
        rw [proc_get (len_set hi), proc_set hi] at ex
        have ex := Option.some.inj ex
        subst ex
        obtain ⟨qq, eq, rfl⟩ := Option.map_eq_some_iff.mp e2
        rw [arw]
        exact trow m qq eq
      · have e1 : cont C L0 s (.rw k m) = some o := by
          rw [← e]
          show (s.procs[k]?).bind _ = ((setProc s i { noProc with prog := qs }).procs[k]?).bind _
          rw [hne k z]
        exact same _ _ e1 (by intro z; cases z) (fun m' y => by injection y with y; exact z y) (by intro z; cases z) (by intro z; cases z)
    | rg k =>
      by_cases z : k = i
      · subst z
        rw [cont_rg (len_set hi), proc_set hi] at e
        have e := Option.some.inj e
        subst e
        rw [arg, trg]
        exact ⟨hr, rfl⟩
      · have e1 : cont C L0 s (.rg k) = some o := by
          rw [← e]
          show (s.procs[k]?).map _ = ((setProc s i { noProc with prog := qs }).procs[k]?).map _
          rw [hne k z]
        exact same _ _ e1 (by intro z; cases z) (fun k z => by cases z) (by intro z; cases z) (fun y => by injection y with y; exact z y)
    | sd k =>
      have e1 : cont C L0 s (.sd k) = some o := by
        by_cases z : k = i
        · subst z
          rw [cont_sd (len_set hi), proc_set hi] at e
          rw [cont_sd hi, hs]
          exact e
        · rw [← e]
          show (s.procs[k]?).map _ = ((setProc s i { noProc with prog := qs }).procs[k]?).map _
          rw [hne k z]
      exact same _ _ e1 (by intro z; cases z) (fun k z => by cases z) (by intro z; cases z) (by intro z; cases z)
    | ch k =>
      have e1 : cont C L0 s (.ch k) = some o := by
        rw [← e]
        show (s.chans[k]?).map _ = (s.chans[k]?).map _
        rw [(oa (.ch k) (fun k z => by cases z) (by intro z; cases z) (by intro z; cases z)).2, (oa (.wr k) (fun k z => by cases z) (by intro z; cases z) (by intro z; cases z)).1]
      exact same _ _ e1 (by intro z; cases z) (fun k z => by cases z) (by intro z; cases z) (by intro z; cases z)
    | wr k => exact same _ _ e (by intro z; cases z) (fun k z => by cases z) (by intro z; cases z) (by intro z; cases z)
  refine ⟨L', ⟨fun t o e => (both t o e).1, fun t o e => (both t o e).2, dom2, hT⟩, (oa .net (fun k z => by cases z) (by intro z; cases z) (by intro z; cases z)).1, fun b o e => ?_⟩
  rcases told b o e with y | y
  · exact y
  · rw [y, hD0] at e; cases e
end Ro
end part_P3
section part_R1
set_option linter.unusedVariables false
set_option maxRecDepth 100000
set_option maxHeartbeats 2000000
namespace Ro
open PySem PySem.Spec PyProof.Rows L2
/-- xs[i](e, ..): what stands there is a def with a promise -/
def tCallE (X : Cx) (k : Nat) (tf : TE) (t : TA) : TE := fun σ H Q => tf σ H fun x H1 => ∃ f sp, x = .ref f ∧ Held X.prog X.w X.K X.mg X.base k f sp ∧ t σ H1 fun vs H2 => sp vs H2 Q (fun _ _ _ => False)
theorem arm_call_sub (a b : Expr) (p : Pos) (args : List Expr) (pos : Pos) (env : Env) : eval (.Call (.Subscript a b p) args [] pos) env = (do
    callWith pos (← eval (.Subscript a b p) env) [] (backTo pos (starEach args env)) (backToKw pos (keywordEach [] env))) := rfl
section
variable {X : Cx} {k j : Nat} {C : Addr} {x : Str} {sp : Sp} {dvs : List V} {p pos : Pos} {e a b : Expr} {es : List Expr} {tf : TE} {t : TA}
theorem pe_callE (hr : Room j X.A) (hk : k ≤ j) (hf : PE X (.Subscript a b p) tf) (ha : PA X (e :: es) t)
    (he : starEach (e :: es) X.env = (false, eval e X.env) :: starEach es X.env := by rfl) (hpl : (backTo pos (starEach es X.env)).any (·.1) = false := by rfl) : PE X (.Call (.Subscript a b p) (e :: es) [] pos) (tCallE X k tf t) := by
  refine ⟨fun pins s σ H Q I h => ?_⟩
  rw [arm_call_sub]
  refine wpAny_bind (thn (hf.run pins s σ H _ I h) fun u s1 ⟨v, H1, I1, r1, f, sp, ev, hS, ht⟩ => ?_)
  subst ev
  cases r1
  obtain ⟨fd, ps, F, kp, hb⟩ := hS.ex
  refine PySem.W.callWith_K (h₀ := X.base) I.ok.mod.kin kp (thn (ha.run pos pins s1 σ _ _ I1 ht) fun us s2 ⟨vs, H2, I2, r, q⟩ => ⟨I2.kIn, ?_⟩) he hpl
  exact run_fn F (hr.mono hk) hb .nil (fun _ _ _ _ _ _ _ z => z.elim) I2 r (by rw [List.append_nil]; exact q)
theorem pe_mk0 (c : C8.Mak X.prog X.w X.K X.mg X.base k x C sp dvs) (hr : Room j X.A) (hk : k + 1 ≤ j) (hg : Gl X x) (hdb : (x == ("__debug__" : Str)) = false := by decide) :
    PE X (.Call (.Name x p) [] [] pos) (tMake C sp dvs C8.E0 tNil) := by
  obtain ⟨f, fd, ps, ds, M, F, hm, b, d⟩ := c.ex
  exact pe_make0 M F (hr.mono hk) hg hm b d C8.pass0 hdb
end
/-- a comprehension over a range with a step -/
theorem lc_rangeC {lo c : Int} {n : Nat} {g : TG} {tt : TT} {te : TE} {vs : List Nat} {σ : L2.St} {H1 : Hp} {D : Addr} {Qd : Hp → Prop} (Pv : Nat → Hp → Prop) (h0 : Pv 0 (upd H1 D (.lst [])))
    (hs : ∀ i H, i < n → Pv i H → g (.int (lo + (i : Nat) * c)) (wipe σ vs) H fun σ2 H2 => wipe σ2 vs = wipe σ vs ∧ tt σ2 H2 fun b H3 =>
      if b = true then te σ2 H3 fun y H4 => ∃ acc, H4 D = some (.lst acc) ∧ acc.length < sizeLine ∧ Pv (i + 1) (upd H4 D (.lst (acc ++ [y]))) else Pv (i + 1) H3) (hd : ∀ H, Pv n H → Qd H) :
    ∃ W : Nat → Nat → Hp → Prop, (∃ m, W 0 m (upd H1 D (.lst []))) ∧ ∀ i m H, W i m H →
      ((Itc lo c n).stop i H ∧ Qd H) ∨ ((Itc lo c n).go i H ∧ ∃ Nx : Hp → Prop, (∀ H', Nx H' → ∃ m', m' < m ∧ W (i + 1) m' H') ∧ ∀ x H', (Itc lo c n).yld i H x H' → g x (wipe σ vs) H' fun σ2 H2 => wipe σ2 vs = wipe σ vs ∧ tt σ2 H2 fun b H3 =>
        if b = true then te σ2 H3 fun y H4 => ∃ acc, H4 D = some (.lst acc) ∧ acc.length < sizeLine ∧ Nx (upd H4 D (.lst (acc ++ [y]))) else Nx H3) := by
  refine ⟨fun i m H => m = n - i ∧ i ≤ n ∧ Pv i H, ⟨n, by simp, Nat.zero_le _, h0⟩, ?_⟩
  rintro i m H ⟨rfl, hi, p⟩
  by_cases hlt : i < n
  · refine .inr ⟨hlt, Pv (i + 1), fun H' p' => ⟨n - (i + 1), by omega, rfl, hlt, p'⟩, fun x H' y => ?_⟩
    obtain ⟨e, y⟩ := y
    subst e y
    exact hs i _ hlt p
  · have e : i = n := by omega
    subst e
    exact .inl ⟨Nat.le_refl _, hd H p⟩
end Ro
end part_R1
section part_R2
set_option linter.unusedVariables false
set_option maxRecDepth 100000
set_option maxHeartbeats 2000000
namespace Ro
open PySem PySem.Spec PyProof.Rows L2 LamX
open NdefX (NF ncx envF startF NScope CellsAt)
/-- a lambda's words, as the layer has them of a def within a def -/
abbrev lamF (qual : Str) (params : Arguments) (scope : Scope) (cl : List (Str × Addr)) (c : Addr) : NF := ⟨"<lambda>", qual, params, [], scope, cl, c⟩
section
variable {X : Cx} {pins : List (Addr × Obj)} {σ : L2.St} {H : Hp} {s : Shared} {Q : VK} {f c' : Addr} {qual : Str} {params : Arguments} {body : Expr} {scope : Scope} {cl : List (Str × Addr)} {pm ctv : Value} {N ps fr : List Str} {ws : List (Option V)} {us : List Value} {vs : List V} {k : Nat} {A' : Around} {tb : TE} {E : Value → Shared → Prop}
theorem lam_call (I : Inv X pins σ H s) (e0 : Env0 X.prog X.w X.K X.mg X.base A' X.stack s H) (hr : Room (k + 1) A') (S : NScope N ps fr scope)
    (hf : s.heap.get? f = some (PySem.W.kla_obj "<lambda>" qual params body scope cl pm c' ctv)) (hc : H c' = some (CodeO c' qual)) (C : CellsAt cl fr ws s.heap H)
    (hb : bindArgs (PySem.W.kla_fn "<lambda>" qual params body scope cl pm (.ref c') ctv) ⟨us, []⟩ = pure (ps.zip us)) (hl : vs.length = ps.length) (r : Vals vs us)
    (hbody : ∀ (A : Around) (outer : List Env) (s : Shared) (H : Hp), Room k (A.deeper (envF (lamF qual params scope cl c') f s.heap.objs.size)) → PE (ncx L2.CX0 X.prog X.w X.K X.mg X.base N (lamF qual params scope cl c') f A outer s H L2.E0) body tb)
    (q : tb (startF N vs ws) H Q) : wpAny (model X.prog X.w) A' (call (.ref f) us) (EP X pins σ Q) E s := by
  have room := hr.depth
  have nolim : s.heap.NoLimit := e0.mod.nolimit.keeps fun b o z => (e0.bs b o z).1
  have coded := NdefX.codeO_at e0.hok hc
  have run : codeAny (model X.prog X.w) A' (.call (.ref f) ⟨us, []⟩) (CR L2.CX0 X.stack X.prog X.w H s Q L2.E0) s := by
    refine PySem.W.kla_callFunE room hf rfl S.co S.gen rfl coded ?_
    rw [hb]
    refine wpAny_pure (wpAny_newFunctionEnv S.nocell (fun y hy => S.par y.1 (List.of_mem_zip hy).1) (fun hN ns1 sb1 => ⟨nolim.fresh _ sb1, ?_⟩) S.kind)
    show codeAny _ _ (.expr body (envF (lamF qual params scope cl c') f s.heap.objs.size)) _ _
    have grown : ∀ b o, s.heap.get? b = some o → hN.get? b = some o := fun b o z => sb1.extBut b o (Nat.ne_of_lt (Heap.lt_size z)) (Heap.get?_push_of_some _ z)
    have J : Inv (ncx L2.CX0 X.prog X.w X.K X.mg X.base N (lamF qual params scope cl c') f A' X.stack s H L2.E0) [] (startF N vs ws) H { s with heap := hN, toks := s.toks + (ps.zip us).length } := NdefX.inv_startN S hr.hd e0 hl r C ns1 grown
    refine PySem.W.kla_codeExpr (wpAny_mono ((hbody A' X.stack s H (hr.deeper _)).run [] _ _ H Q J q) (fun v s' hq => ?_) fun e s' hq => hq)
    obtain ⟨v2, H2, J2, rv, q2⟩ := hq
    exact ⟨v2, H2, J2.os, J2.bare, J2.base, J2.hok, rv, q2⟩
  refine wpAny_call (codeAny_mono run fun res s' hq => ?_)
  cases res with
  | error e => exact False.elim hq
  | ok fl =>
    cases fl with
    | ret u => exact I.after hq
    | next => exact False.elim hq
    | brk => exact False.elim hq
    | cont => exact False.elim hq
end
theorem lexLt_irrefl : ∀ a : List Int, HT.lexLt a a = false
  | [] => rfl
  | x :: a => by unfold HT.lexLt; simp [lexLt_irrefl a]
theorem lexLt_trans : ∀ {a b c : List Int}, HT.lexLt a b = true → HT.lexLt b c = true → HT.lexLt a c = true
  | [], [], _, h, _ => by cases h
  | [], _ :: _, [], _, h => by cases h
  | [], _ :: _, _ :: _, _, _ => rfl
  | _ :: _, [], _, h, _ => by cases h
  | _ :: _, _ :: _, [], _, h => by cases h
  | x :: a, y :: b, z :: c, h1, h2 => by
    rw [HT.lexLt_cons] at h1 h2 ⊢
    by_cases e1 : x = y
    · subst e1
      rw [if_pos rfl] at h1
      by_cases e2 : x = z
      · rw [if_pos e2] at h2 ⊢
        exact lexLt_trans h1 h2
      · rw [if_neg e2] at h2 ⊢
        exact h2
    · rw [if_neg e1] at h1
      have l1 := of_decide_eq_true h1
      by_cases e2 : y = z
      · subst e2
        rw [if_neg e1]
        exact h1
      · rw [if_neg e2] at h2
        have l2 := of_decide_eq_true h2
        rw [if_neg (by omega)]
        exact decide_eq_true (by omega)
section
variable {X : Cx} {pins : List (Addr × Obj)} {σ : L2.St} {R : Result → Shared → Prop} {xs : List Int} {l q it bs : Addr} {G : Hp → Prop} {kk : Int → List Int}
/-- what holds of an object of min's own while it may turn -/
structure Own (X : Cx) (pins : List (Addr × Obj)) (b : Addr) : Prop where
  loc : b ≠ X.env.locals
  fs : b ∉ X.fs
  age : X.s_0.heap.objs.size ≤ b
  cel : ∀ x c, X.env.cells.lookup x = some c → c ≠ b
  pin : ∀ p ∈ X.pn ++ pins, p.1 ≠ b
theorem Own.add {b : Addr} (o : Own X pins b) {p : Addr × Obj} (h : p.1 ≠ b) : Own X (pins ++ [p]) b := ⟨o.loc, o.fs, o.age, o.cel, fun r hr => by
  rw [← List.append_assoc] at hr
  rcases List.mem_append.mp hr with z | z
  · exact o.pin r z
  · rw [List.mem_singleton.mp z]; exact h⟩
theorem Inv.addPin {H : Hp} {s : Shared} {b : Addr} {o : Obj} (I : Inv X pins σ H s) (w : Own X pins b) (hn : H b = none) (ho : s.heap.get? b = some o) (hd : ∀ v, o.data ≠ .cell v) : Inv X (pins ++ [(b, o)]) σ H s := by
  refine I.pins_of fun p hp => ?_
  rcases List.mem_append.mp hp with z | z
  · exact I.pin p (List.mem_append_right _ z)
  · rw [List.mem_singleton.mp z]
    exact ⟨ho, hn, w.loc, w.fs, hd⟩
theorem Inv.dropPin {H : Hp} {s : Shared} {p : Addr × Obj} (I : Inv X (pins ++ [p]) σ H s) : Inv X pins σ H s := I.unpinned
theorem Inv.turnOwn {H : Hp} {s : Shared} {b : Addr} {h' : Heap} {t' : Nat} (I : Inv X pins σ H s) (w : Own X pins b) (hn : H b = none) (k : ∀ a o, a ≠ b → s.heap.get? a = some o → h'.get? a = some o) : Inv X pins σ H { s with heap := h', toks := t' } :=
  I.turned k hn w.loc (.inr w.age) w.cel w.pin
/-- a call of the key -/
def KeyTurn (X : Cx) (σ : L2.St) (pins : List (Addr × Obj)) (q : Addr) (xs : List Int) (G : Hp → Prop) (kk : Int → List Int) : Prop :=
  ∀ (z : Int) (u : Value) (more : List (Addr × Obj)) (H : Hp) (s : Shared) (E : Value → Shared → Prop), z ∈ xs → RelV (.int z) u → Inv X (pins ++ more) σ H s → G H →
    wpAny (model X.prog X.w) X.A.in1 (call (.ref q) [u]) (EP X (pins ++ more) σ fun k H2 => G H2 ∧ Same H H2 ∧ ∃ a, k = .ref a ∧ H2 a = some (.tup ((kk z).map V.int))) E s
def bestObj (vb kb : Value) (c : Nat) : Obj := seqObj "list" #[vb, kb] c
theorem min_loop (hh : X.A.in1.handled = none) (hu : X.A.in1.units < cLine) (hl : ∀ H, G H → SqL X.K H l (xs.map V.int)) (tn : KeyTurn X σ pins q xs G kk) (wI : Own X pins it) (wS : Own X pins bs) (nl : l ≠ it) (nb : bs ≠ it)
    (hR : ∀ (vb : Value) (zb : Int) (H : Hp) (s : Shared), Inv X pins σ H s → G H → RelV (.int zb) vb → zb ∈ xs → (∀ z ∈ xs, HT.lexLt (kk z) (kk zb) = false) → R (.ok (.ret vb)) s) :
    ∀ (r j : Nat) (s : Shared) (H : Hp) (vb : Value) (zb : Int) (a : Addr) (c : Nat) (oI : Obj), xs.length - (j + 1) = r → j + 1 ≤ xs.length → Inv X ((pins ++ [(bs, bestObj vb (.ref a) c)]) ++ [(it, oI)]) σ H s → G H → s.heap.IsListIter it l (j + 1) →
      RelV (.int zb) vb → H a = some (.tup ((kk zb).map V.int)) → zb ∈ xs → (∀ i z, i ≤ j → xs[i]? = some z → HT.lexLt (kk z) (kk zb) = false) →
      codeAny (model X.prog X.w) X.A (.builtin "min.loop" ⟨[.ref it, .ref q, .ref bs], []⟩) R s := by
  intro r
  induction r with
  | zero =>
    intro j s H vb zb a c oI hr hj I g hit rb ha hz hbest
    have hin : j + 1 = xs.length := by omega
    obtain ⟨its, rv, pl, _⟩ := I.list (hl H g)
    have hlen : its.length = xs.length := by rw [← rv.length, List.length_map]
    have I1 := Inv.dropPin I
    have pS := I.pin (bs, bestObj vb (.ref a) c) (List.mem_append_right _ (List.mem_append_left _ (List.mem_append_right _ (List.mem_singleton.mpr rfl))))
    have pI := I.pin (it, oI) (List.mem_append_right _ (List.mem_append_right _ (List.mem_singleton.mpr rfl)))
    have W := Walks.list (prog := X.prog) (w := X.w) (A := X.A.in1) hh it l nl its.toArray
    refine codeAny_builtin PySem.F.entry_min_loop ?_
    rw [Around.under_plainId PySem.F.plain_min_loop _]
    show wpAny _ X.A.in1 (seqItems? (.ref bs) >>= _) _ _ s
    refine wpAny_bind (wpAny_seqItems pS.1 rfl ?_)
    show wpAny _ X.A.in1 (tryCatch (pyNext (.ref it)) _ >>= _) _ _ s
    refine wpAny_bind (wpAny_tryCatch (W.done s _ _ ⟨by rw [List.size_toArray, hlen, ← hin]; exact hit, pl.isList⟩ fun h1 t1 k1 => ?_))
    have I2 : Inv X (pins ++ [(bs, bestObj vb (.ref a) c)]) σ H { s with heap := h1, toks := t1 } := Inv.turnOwn I1 (wI.add nb) pI.2.1 fun b o hb => k1 b o (fun z => hb (List.mem_singleton.mp z))
    have pS2 := I2.pin (bs, bestObj vb (.ref a) c) (List.mem_append_right _ (List.mem_append_right _ (List.mem_singleton.mpr rfl)))
    show wpAny _ X.A.in1 (updateSeq bs (fun _ => #[]) >>= _) _ _ _
    refine wpAny_bind ?_
    refine wpAny_updateSeq pS2.1 rfl (wpAny_bind (wpAny_letGo (wpAny_pure ?_)))
    have sb := Heap.SameBut.update h1 bs (Obj.mapSeq fun _ => (#[] : Array Value))
    have I3 := Inv.turnOwn (t' := t1) (Inv.dropPin I2) wS pS2.2.1 fun b o hb e => (sb.2 b hb).trans e
    refine hR vb zb H _ I3 g rb hz fun z hz' => ?_
    obtain ⟨i, hi, e⟩ := List.getElem_of_mem hz'
    exact hbest i z (by omega) (by rw [List.getElem?_eq_getElem hi, e])
  | succ r ih =>
    intro j s H vb zb a c oI hr hj I g hit rb ha hz hbest
    have hlt : j + 1 < xs.length := by omega
    obtain ⟨its, rv, pl, _⟩ := I.list (hl H g)
    have hlen : its.length = xs.length := by rw [← rv.length, List.length_map]
    have I1 := Inv.dropPin I
    have pS := I.pin (bs, bestObj vb (.ref a) c) (List.mem_append_right _ (List.mem_append_left _ (List.mem_append_right _ (List.mem_singleton.mpr rfl))))
    have pI := I.pin (it, oI) (List.mem_append_right _ (List.mem_append_right _ (List.mem_singleton.mpr rfl)))
    have W := Walks.list (prog := X.prog) (w := X.w) (A := X.A.in1) hh it l nl its.toArray
    refine codeAny_builtin PySem.F.entry_min_loop ?_
    rw [Around.under_plainId PySem.F.plain_min_loop _]
    show wpAny _ X.A.in1 (seqItems? (.ref bs) >>= _) _ _ s
    refine wpAny_bind (wpAny_seqItems pS.1 rfl ?_)
    show wpAny _ X.A.in1 (tryCatch (pyNext (.ref it)) _ >>= _) _ _ s
    refine wpAny_bind (wpAny_tryCatch (W.item (j + 1) s _ _ (by rw [List.size_toArray, hlen]; exact hlt) ⟨hit, pl.isList⟩ fun v h1 t1 hP hst1 k1 => ?_))
    have I2 : Inv X (pins ++ [(bs, bestObj vb (.ref a) c)]) σ H { s with heap := h1, toks := t1 } := Inv.turnOwn I1 (wI.add nb) pI.2.1 fun b o hb => k1 b o (fun z => hb (List.mem_singleton.mp z))
    obtain ⟨oI2, hoI2, hoc2, hod2⟩ := id hst1.1
    have I3 : Inv X ((pins ++ [(bs, bestObj vb (.ref a) c)]) ++ [(it, oI2)]) σ H { s with heap := h1, toks := t1 } := Inv.addPin I2 (wI.add nb) pI.2.1 hoI2 fun v z => by rw [hod2] at z; cases z
    obtain ⟨z, hzj⟩ : ∃ z, xs[j + 1]? = some z := ⟨_, List.getElem?_eq_getElem hlt⟩
    have hzm : z ∈ xs := List.mem_of_getElem? hzj
    obtain ⟨u, hu1, hu2⟩ := rv.get (i := j + 1) (x := V.int z) (by rw [List.getElem?_map, hzj]; rfl)
    have hv : its[j + 1]? = some v := by simpa using hP
    obtain rfl : u = v := by rw [hu1] at hv; exact Option.some.inj hv
    show wpAny _ X.A.in1 (tryCatch (holding [u] (call (.ref q) [u])) _ >>= _) _ _ _
    rw [List.append_assoc] at I3
    refine wpAny_bind (wpAny_tryCatch (wpAny_holding (wpAny_mono (tn z u _ H _ (fun _ _ => False) hzm hu2 I3 g) (fun kx s2 he => ?_) fun _ _ hF => hF.elim)))
    obtain ⟨k2, H2, I4, rk, g2, sm, a2, rfl, ha2⟩ := he
    cases rk
    rw [← List.append_assoc] at I4
    obtain ⟨t2, r2, p2, _⟩ := I4.tuple (SqT.of ha2)
    obtain ⟨t3, r3, p3, _⟩ := I4.tuple (SqT.of (sm _ _ ha))
    have pS4 := I4.pin (bs, bestObj vb (.ref a) c) (List.mem_append_right _ (List.mem_append_left _ (List.mem_append_right _ (List.mem_singleton.mpr rfl))))
    have pI4 := I4.pin (it, oI2) (List.mem_append_right _ (List.mem_append_right _ (List.mem_singleton.mpr rfl)))
    show wpAny _ X.A.in1 (tryCatch (holding [u, .ref a2] (richCompare .Lt (.ref a2) (.ref a) >>= _)) _ >>= _) _ _ _
    have cmp : ∀ {Q : Value → Shared → Prop} {E : Value → Shared → Prop}, Q (.bool (HT.lexLt (kk z) (kk zb))) s2 → wpAny (model X.prog X.w) X.A.in1 (richCompare .Lt (.ref a2) (.ref a)) Q E s2 := fun hq =>
      HT.lt_tupInts p2 p3 (intsAre_of r2) (intsAre_of r3) hu hq
    refine wpAny_bind (wpAny_tryCatch (wpAny_holding (wpAny_bind (cmp ?_))))
    refine wpAny_bind (wpAny_holding (wpAny_truthy_bool ?_))
    refine wpAny_bind (wpAny_letGo (wpAny_pure ?_))
    have hit4 : s2.heap.IsListIter it l (j + 1 + 1) := ⟨oI2, pI4.1, hoc2, hod2⟩
    have again : (toString "min" ++ toString ".loop" : String) = "min.loop" := by decide
    cases hb : HT.lexLt (kk z) (kk zb) with
    | true =>
      simp only [if_true]
      refine wpAny_bind ?_
      refine wpAny_updateSeq pS4.1 rfl (wpAny_bind (wpAny_letGo ?_))
      rw [again]
      have sb := Heap.SameBut.update s2.heap bs (Obj.mapSeq fun _ => #[u, .ref a2])
      obtain ⟨c3, hc3⟩ : ∃ c3, (s2.heap.update bs (Obj.mapSeq fun _ => #[u, .ref a2])).get? bs = some (bestObj u (.ref a2) c3) := ⟨_, get?_update_seq pS4.1 fun _ => #[u, .ref a2]⟩
      have I5 := Inv.turnOwn (t' := s2.toks) (Inv.dropPin (Inv.dropPin I4)) wS pS4.2.1 fun b o hb' e => (sb.2 b hb').trans e
      have I6 := Inv.addPin I5 wS pS4.2.1 hc3 fun v z => by cases z
      have I7 := Inv.addPin I6 (wI.add nb) pI4.2.1 ((sb.2 it nb.symm).trans pI4.1) fun v z => by rw [hod2] at z; cases z
      refine wpAny_pure ⟨plainId_quiet PySem.F.plain_min_loop _, ih (j + 1) _ H2 u z a2 c3 oI2 (by omega) hlt I7 g2 ⟨oI2, (sb.2 it nb.symm).trans pI4.1, hoc2, hod2⟩ hu2 ha2 hzm fun i y hi hy => ?_⟩
      by_cases e : i = j + 1
      · subst e
        rw [hzj] at hy
        cases hy
        exact lexLt_irrefl _
      · have h1 := hbest i y (by omega) hy
        cases h2 : HT.lexLt (kk y) (kk z) with
        | false => rfl
        | true =>
          rw [lexLt_trans h2 hb] at h1
          cases h1
    | false =>
      simp only [Bool.false_eq_true, if_false]
      refine wpAny_bind (wpAny_letGo ?_)
      rw [again]
      refine wpAny_pure ⟨plainId_quiet PySem.F.plain_min_loop _, ih (j + 1) _ H2 vb zb a c oI2 (by omega) hlt I4 g2 hit4 rb (sm _ _ ha) hz fun i y hi hy => ?_⟩
      by_cases e : i = j + 1
      · subst e
        rw [hzj] at hy
        cases hy
        exact hb
      · exact hbest i y (by omega) hy
theorem min_call {H : Hp} {s : Shared} {Q : Value → Shared → Prop} {E : Value → Shared → Prop} (hh : X.A.in1.handled = none) (hu : X.A.in1.units < cLine) (hl : ∀ H, G H → SqL X.K H l (xs.map V.int)) (tn : KeyTurn X σ pins q xs G kk) (I : Inv X pins σ H s) (g : G H) (hne : 0 < xs.length)
    (hQ : ∀ (vb : Value) (zb : Int) (H : Hp) (s : Shared), Inv X pins σ H s → G H → RelV (.int zb) vb → zb ∈ xs → (∀ z ∈ xs, HT.lexLt (kk z) (kk zb) = false) → Q vb s) :
    wpAny (model X.prog X.w) X.A (call (.builtin "min") [.ref l] [(Str.ofString "key", .ref q)]) Q E s := by
  have again : (toString "min" ++ toString ".loop" : String) = "min.loop" := by decide
  obtain ⟨its, rv, pl, _⟩ := I.list (hl H g)
  have hlen : its.length = xs.length := by rw [← rv.length, List.length_map]
  have hls := pl.isList
  obtain ⟨ol, hol, _⟩ := id hls
  refine kmk_tree PySem.F.kind_min PySem.F.plain_min PySem.F.entry_min (kmk_min_key _ _) ?_
  show wpAny _ X.A.in1 (Builtin.Builtins.bindParams "min" ["key", "default"] 0 ⟨[], [(Str.ofString "key", .ref q)]⟩ >>= _) _ _ s
  refine wpAny_bind (wpAny_of_eq (show _ = pure [some (.ref q), none] from rfl) ?_)
  refine wpAny_bind (wpAny_pure ?_)
  refine wpAny_bind (wpAny_pyIter_list hls ?_)
  refine wpAny_bind (wpAny_newList ?_ (Nat.zero_le _))
  rw [again]
  refine wpAny_pure ⟨plainId_quiet PySem.F.plain_min_loop _, ?_⟩
  generalize hI0 : ({ cls := .type "list_iterator", data := .fields #[.ref l, .int 0 0] } : Obj) = o0
  have sz1 : (s.heap.push o0).objs.size = s.heap.objs.size + 1 := size_push' ..
  have nl : l ≠ s.heap.objs.size := Nat.ne_of_lt (Heap.lt_size hol)
  have nb : (s.heap.push o0).objs.size ≠ s.heap.objs.size := by rw [sz1]; omega
  have own : ∀ b, s.heap.objs.size ≤ b → Own X pins b := fun b hb => by
    obtain ⟨_, f1, f2, _, f4, f5⟩ := I.fpOk (H' := H) hb (I.hok.fresh hb)
    exact ⟨f1, f2, Nat.le_trans I.sz hb, f4, f5⟩
  have wI := own _ (Nat.le_refl _)
  have wS := own (s.heap.push o0).objs.size (by rw [sz1]; omega)
  have hnI : H s.heap.objs.size = none := I.hok.fresh (Nat.le_refl _)
  have hnS : H (s.heap.push o0).objs.size = none := I.hok.fresh (by rw [sz1]; omega)
  have g1 : ((s.heap.push o0).push (seqObj "list" #[] 0)).get? s.heap.objs.size = some o0 := Heap.get?_push_of_some _ (Heap.get?_push_size _ (by rw [← hI0]; rfl))
  have g2 : ((s.heap.push o0).push (seqObj "list" #[] 0)).get? (s.heap.push o0).objs.size = some (seqObj "list" #[] 0) := Heap.get?_push_size _ rfl
  have up : ∀ b o, s.heap.get? b = some o → ((s.heap.push o0).push (seqObj "list" #[] 0)).get? b = some o := fun b o e => Heap.get?_push_of_some _ (Heap.get?_push_of_some _ e)
  generalize hS0 : (s.heap.push o0).objs.size = bs at *
  generalize hB0 : s.heap.objs.size = it at *
  have I0 : Inv X pins σ H { s with heap := (s.heap.push o0).push (seqObj "list" #[] 0) } := I.kept (t' := s.toks) up
  generalize (s.heap.push o0).push (seqObj "list" #[] 0) = h0 at *
  have hls0 : h0.IsList l its.toArray := let ⟨o, e, r⟩ := hls; ⟨o, up _ _ e, r⟩
  have hit0 : h0.IsListIter it l 0 := ⟨o0, g1, by rw [← hI0], by rw [← hI0]; rfl⟩
  have W := Walks.list (prog := X.prog) (w := X.w) (A := X.A.in1) hh it l nl its.toArray
  refine codeAny_builtin PySem.F.entry_min_loop ?_
  rw [Around.under_plainId PySem.F.plain_min_loop _]
  show wpAny _ X.A.in1 (seqItems? (.ref bs) >>= _) _ _ _
  refine wpAny_bind (wpAny_seqItems g2 rfl ?_)
  show wpAny _ X.A.in1 (tryCatch (pyNext (.ref it)) _ >>= _) _ _ _
  refine wpAny_bind (wpAny_tryCatch (W.item 0 _ _ _ (by rw [List.size_toArray, hlen]; exact hne) ⟨hit0, hls0⟩ fun v h1 t1 hP hst1 k1 => ?_))
  have I1 : Inv X pins σ H { s with heap := h1, toks := t1 } := Inv.turnOwn (s := { s with heap := h0 }) (h' := h1) (t' := t1) I0 wI hnI fun b o hb => k1 b o (fun z => hb (List.mem_singleton.mp z))
  have g3 : h1.get? bs = some (seqObj "list" #[] 0) := k1 _ _ (fun z => nb (List.mem_singleton.mp z)) g2
  obtain ⟨oI2, hoI2, hoc2, hod2⟩ := id hst1.1
  have I2 : Inv X (pins ++ [(bs, seqObj "list" #[] 0)]) σ H { s with heap := h1, toks := t1 } := Inv.addPin I1 wS hnS g3 fun v z => by cases z
  have I3 : Inv X ((pins ++ [(bs, seqObj "list" #[] 0)]) ++ [(it, oI2)]) σ H { s with heap := h1, toks := t1 } := Inv.addPin I2 (wI.add nb) hnI hoI2 fun v z => by rw [hod2] at z; cases z
  obtain ⟨z, hzj⟩ : ∃ z, xs[0]? = some z := ⟨_, List.getElem?_eq_getElem hne⟩
  have hzm : z ∈ xs := List.mem_of_getElem? hzj
  obtain ⟨u, hu1, hu2⟩ := rv.get (i := 0) (x := V.int z) (by rw [List.getElem?_map, hzj]; rfl)
  have hv : its[0]? = some v := by simpa using hP
  obtain rfl : u = v := by rw [hu1] at hv; exact Option.some.inj hv
  show wpAny _ X.A.in1 (tryCatch (holding [u] (call (.ref q) [u])) _ >>= _) _ _ _
  rw [List.append_assoc] at I3
  refine wpAny_bind (wpAny_tryCatch (wpAny_holding (wpAny_mono (tn z u _ H _ (fun _ _ => False) hzm hu2 I3 g) (fun kx s2 he => ?_) fun _ _ hF => hF.elim)))
  obtain ⟨k2, H2, I4, rk, gg2, sm, a2, rfl, ha2⟩ := he
  cases rk
  rw [← List.append_assoc] at I4
  have pS4 := I4.pin (bs, seqObj "list" #[] 0) (List.mem_append_right _ (List.mem_append_left _ (List.mem_append_right _ (List.mem_singleton.mpr rfl))))
  have pI4 := I4.pin (it, oI2) (List.mem_append_right _ (List.mem_append_right _ (List.mem_singleton.mpr rfl)))
  show wpAny _ X.A.in1 (updateSeq bs (fun _ => #[u, .ref a2]) >>= _) _ _ _
  refine wpAny_bind ?_
  refine wpAny_updateSeq pS4.1 rfl ?_
  rw [again]
  have sb := Heap.SameBut.update s2.heap bs (Obj.mapSeq fun _ => #[u, .ref a2])
  obtain ⟨c3, hc3⟩ : ∃ c3, (s2.heap.update bs (Obj.mapSeq fun _ => #[u, .ref a2])).get? bs = some (bestObj u (.ref a2) c3) := ⟨_, get?_update_seq pS4.1 fun _ => #[u, .ref a2]⟩
  have I5 := Inv.turnOwn (t' := s2.toks) (Inv.dropPin (Inv.dropPin I4)) wS pS4.2.1 fun b o hb' e => (sb.2 b hb').trans e
  have I6 := Inv.addPin I5 wS pS4.2.1 hc3 fun v z => by cases z
  have I7 := Inv.addPin I6 (wI.add nb) pI4.2.1 ((sb.2 it nb.symm).trans pI4.1) fun v z => by rw [hod2] at z; cases z
  refine wpAny_pure ⟨plainId_quiet PySem.F.plain_min_loop _, min_loop hh hu hl tn wI wS nl nb hQ _ 0 _ H2 u z a2 c3 oI2 rfl hne I7 gg2 ⟨oI2, (sb.2 it nb.symm).trans pI4.1, hoc2, hod2⟩ hu2 ha2 hzm fun i y hi hy => ?_⟩
  have e : i = 0 := by omega
  subst e
  rw [hzj] at hy
  cases hy
  exact lexLt_irrefl _
end
/-- what a lambda captures are cells (or captured ones) of the def -/
def capB (sc scope : Scope) : Bool := scope.names.all fun y => !decide (y.2 = .free) || (decide (sc.names.lookup y.1 = some .cell) || decide (sc.names.lookup y.1 = some .free))
theorem caps_by {sc scope : Scope} (h : capB sc scope = true) : ∀ y ∈ scope.names, y.2 = .free → sc.names.lookup y.1 = some .cell ∨ sc.names.lookup y.1 = some .free := fun y hy e => by
  have z := List.all_eq_true.mp h y hy
  simp only [e, decide_true, Bool.not_true, Bool.false_or, Bool.or_eq_true, decide_eq_true_eq] at z
  exact z
/-- nN: the lambda's names (its parameter, then the captured ones); js: where the captured ones stand among the def's -/
def tMinLam (T : List (Addr × Str)) (K : PySem.W.Frag) (t : TA) (tb : TE) (nN : List Str) (js : List Nat) : TE := fun σ H Q => t σ H fun vs H1 => ∃ l : Addr, vs = [.ref l] ∧ TabsN T H1 ∧ ∀ H2, ExtN H1 H2 → TabsN T H2 → ∃ (xs : List Int) (kk : Int → List Int), SqL K H2 l (xs.map V.int) ∧ 0 < xs.length ∧
  (∀ z ∈ xs, ∀ H3, Same H2 H3 → tb (startF nN [.int z] (js.map (NdefX.slotAt σ))) H3 fun k H4 => Same H3 H4 ∧ ∃ a, k = .ref a ∧ H4 a = some (.tup ((kk z).map V.int))) ∧
  ∀ zb H3, Same H2 H3 → zb ∈ xs → (∀ z ∈ xs, HT.lexLt (kk z) (kk zb) = false) → Q (.int zb) H3
section
variable {X : Cx} {T : List (Addr × Str)} {c P : Addr} {params : Arguments} {body e : Expr} {scope : Scope} {p pos lpos kpos : Pos} {t : TA} {tb : TE} {nN fr : List Str} {x : Str} {js : List Nat} {j k : Nat}
theorem pe_minlam (TB : TabB X.base X.mg c P) (hcode : X.env.code = .ref c) (hm : (P, X.env.qual ++ "<lambda>") ∈ T) (hu : ∀ p ∈ T, p.1 = P → p.2 = X.env.qual ++ "<lambda>") (hr : Room j X.A) (hk : k + 2 ≤ j)
    (hstk : X.stack = X.env :: X.outer) (hfrm : X.env.frame = some X.env.locals) (hc : X.calm = true) (hg : Gl X "min") (hmg : X.mg "min" = none) (ha : PA X [e] t)
    (hdef : defaultsOf params X.env = ([], [])) (hfreeB : capB X.env.scope scope = true) (hfr : ∀ y ∈ fr, (y, NameKind.free) ∈ scope.names) (hjs : js.map (fun j => X.N[j]?) = fr.map some)
    (S : NScope nN [x] fr scope) (hb : ∀ (cl : List (Str × Addr)) (pm ctv : Value) (c' : Addr) (u : Value), bindArgs (PySem.W.kla_fn "<lambda>" (X.env.qual ++ "<lambda>") params body scope cl pm (.ref c') ctv) ⟨[u], []⟩ = pure [(x, u)])
    (hbody : ∀ (cl : List (Str × Addr)) (f c' : Addr) (A : Around) (outer : List Env) (s : Shared) (H : Hp), Room k (A.deeper (envF (lamF (X.env.qual ++ "<lambda>") params scope cl c') f s.heap.objs.size)) → PE (ncx L2.CX0 X.prog X.w X.K X.mg X.base nN (lamF (X.env.qual ++ "<lambda>") params scope cl c') f A outer s H L2.E0) body tb)
    (he : backTo pos (starEach [e] X.env) = (false, eval e X.env) :: backTo pos (starEach [] X.env) := by rfl) (hpl : (backTo pos (starEach [e] X.env)).any (·.1) = false := by rfl) :
    PE X (.Call (.Name "min" p) [e] [⟨some "key", .Lambda params body scope lpos, kpos⟩] pos) (tMinLam T X.K t tb nN js) := by
  have hfree := caps_by hfreeB
  refine ⟨fun pins s σ H Q I h => ?_⟩
  refine wpAny_Call_Name_kw (ld_blt I hg hmg (show bootBuiltins "min" = some (.builtin "min") by decide +kernel) ?_ (by decide) (by decide))
  refine PyProof.Rows.callWith_kw (thn (ha.run pos pins s σ H _ I h) fun us s1 ⟨vs, H1, I1, r1, q1⟩ => ?_) he hpl rfl rfl
  obtain ⟨l, ev, hT, q1⟩ := q1
  subst ev
  show wpAny _ _ (evalAll ((do let v ← eval (.Lambda params body scope lpos) X.env; standAt pos; pure v) :: [])) _ _ s1
  refine wpAny_evalAll_cons (wpAny_bind (lam_make2 I1 TB hcode hm hu hT hdef (fun y hy ey => ?_) fun f c' pm ctv H2 s2 I2 hE hT2 of2 nf nfr hco => ?_))
  · exact I1.ok.has _ ((hfree y hy ey).elim .inl .inr)
  obtain ⟨xs, kk, hsq, hpos, hkey, hfin⟩ := q1 H2 hE hT2
  have nloc : f ≠ X.env.locals := fun z => nfr (by
    rw [hstk]
    unfold frs
    rw [List.filterMap_cons, hfrm, z]
    exact List.mem_cons_self)
  have nfs : f ∉ X.fs := fun z => nfr (by
    rw [hstk]
    unfold frs
    rw [List.filterMap_cons, hfrm]
    exact List.mem_cons_of_mem _ z)
  have I3 : Inv X (pins ++ [(f, PySem.W.kla_obj "<lambda>" (X.env.qual ++ "<lambda>") params body scope (cloFrom X.env.cells scope.names []) pm c' ctv)]) σ H2 s2 := by
    refine I2.pins_of fun r hr' => ?_
    rcases List.mem_append.mp hr' with z | z
    · exact I2.pin r (List.mem_append_right _ z)
    · rw [List.mem_singleton.mp z]
      exact ⟨of2, nf, nloc, nfs, fun v y => by cases y⟩
  refine wpAny_bind (wpAny_standAt (wpAny_pure (wpAny_evalAll_nil ?_)))
  obtain rfl : us = [.ref l] := Vals.ref1 r1
  have rm : Room (k + 1) X.A.in1 := Room.in1 (hr.mono hk)
  have turn : KeyTurn X σ (pins ++ [(f, PySem.W.kla_obj "<lambda>" (X.env.qual ++ "<lambda>") params body scope (cloFrom X.env.cells scope.names []) pm c' ctv)]) f xs (fun H3 => Same H2 H3) kk := fun z u more H3 s3 E hz ru I4 sm => by
    have of4 := (I4.pin (f, PySem.W.kla_obj "<lambda>" (X.env.qual ++ "<lambda>") params body scope (cloFrom X.env.cells scope.names []) pm c' ctv) (List.mem_append_right _ (List.mem_append_left _ (List.mem_append_right _ (List.mem_singleton.mpr rfl))))).1
    have caps := NdefX.Caps.made (X := X) (scope := scope) (fr := fr) (js := js) I4.ok hfree hfr hjs
    refine wpAny_mono (lam_call (E := fun _ _ => False) I4 I4.env0.in1 rm S of4 (sm _ _ hco) (NdefX.cells_of I4 caps) (ps := [x]) (us := [u]) (vs := [.int z]) (hb _ pm ctv c' u) rfl (.cons ru .nil) (fun A outer s H => hbody _ f c' A outer s H) (hkey z hz H3 sm)) (fun v s4 hq => ?_) fun _ _ hF => hF.elim
    obtain ⟨v2, H4, I5, rv, s5, a, ea, ha4⟩ := hq
    exact ⟨v2, H4, I5, rv, sm.trans s5, s5, a, ea, ha4⟩
  refine min_call rm.hd rm.units0 (fun H3 sm => sm.seq hsq) turn I3 (Same.refl _) hpos fun vb zb H3 s3 I6 sm rb hz hmin => ?_
  exact ⟨.int zb, H3, Inv.dropPin I6, rb, hfin zb H3 sm hz hmin⟩
end
end Ro
end part_R2
section part_R3
set_option linter.unusedVariables false
set_option maxRecDepth 100000
set_option maxHeartbeats 2000000
namespace Ro
open PySem PySem.Spec PyProof.Rows L2
open PySem.W (Codec OpenSpec WData WellAll ReadsW)
theorem call_tab {Pr : Program} {w : World} {K : PySem.W.Frag} {mg mb : Str → Option Value} {k : Nat} {fa c P : Addr} {fd : FuncData} {ps : List Str} {sp : Sp} {s1 : Shared} {vals : List Value} {ds : List WData} {R : PySem.W.WRecords} {cl : Str → Option Addr} {d0 : WData}
    (KX : K.In s1.heap) (gN : s1.heap.Ns mainGlobals mg) (bN : s1.heap.Ns builtinsNs mb) (bB : ∀ x : Str, x ≠ "__name__" → mb x = bootBuiltins x) (lim : s1.heap.NoLimit) (noG : s1.gens = #[])
    (oP : s1.heap.get? P = some { cls := .none, data := .fields #[] }) (nP : K.lookup P = none) (hd : PySem.W.CodeHd s1.heap c P)
    (bm : ∃ (m : Addr) (ob : Obj), mg "__builtins__" = some (.ref m) ∧ m ≠ builtinsNs ∧ s1.heap.get? m = some ob ∧ ob.cls = .type "module" ∧ ob.dict = some builtinsNs ∧ ob.data = .plain)
    (wl : WellAll w.params s1.heap vals ds) (plain : plWs ds = true) (wt : ∀ d ∈ ds, d.weight ≤ 1048576) (hr : Room k callerA)
    (F : ∀ base : Heap, K.In base → base.Ns mainGlobals mg → LamX.TabB base mg c P → FnOk Pr w K mg base L2.CX0 k fa fd ps sp) (bind : ∀ (s : Shared) (us : List Value), us.length = ps.length → BindsTo s fd ⟨us, []⟩ (ps.zip us)) (len : ds.length = ps.length)
    (spOk : ∀ (H0 H : Hp) (xs : List V), Same H0 H → H P = some (.tbl #[]) → DwAll K H0 xs ds → sp xs H (fun v H2 => Dw K H2 v d0) fun _ _ _ => False) :
    codeAny (model Pr w) callerA (.call (.ref fa) ⟨vals, []⟩) (fun r s2 => ∃ u as, r = .ok (.ret u) ∧ ReadsW R cl s2.heap u d0 as ∧ OldK s1.heap s2.heap ∧ s2.os = s1.os ∧ AllBare s2.gens) s1 := by
  obtain ⟨A, inA, ar⟩ := area_all ds vals wl plain wt
  have only := argH_only (K := K) ar
  have ok0 : HOk Pr w (argH K s1.heap A) s1.heap := argH_ok ar
  have dw := dw_all KX ar ds vals wl plain inA
  have vv := vals_toV inA
  -- what is tracked is a list or a tuple
  have seqs : ∀ {b : Addr} {o : Obj}, s1.heap.get? b = some o → (∀ vs n, o.data ≠ .seq vs n) → argH K s1.heap A b = none := fun {b o} e n => by
    cases q : argH K s1.heap A b with
    | none => rfl
    | some u =>
      obtain ⟨_, vs, _, _, ⟨e2, _⟩ | ⟨e2, _⟩⟩ := argH_is ar q
      · rw [e2] at e
        cases e
        exact (n _ _ rfl).elim
      · rw [e2] at e
        cases e
        exact (n _ _ rfl).elim
  have kNone : ∀ b u, argH K s1.heap A b = some u → K.lookup b = none := fun b u q => (argH_is ar q).1
  have p0 : argH K s1.heap A P = none := seqs oP (fun vs n z => by cases z)
  generalize argH K s1.heap A = H0 at only ok0 dw seqs kNone p0
  have sm : Same H0 (upd H0 P (.tbl #[])) := fun b o e => by rw [upd_ne (ne_of_none e p0)]; exact e
  have hP : upd H0 P (.tbl #[]) P = some (.tbl #[]) := upd_same
  have kinds : ∀ b, upd H0 P (.tbl #[]) b = none ∨ b = P ∨ ∃ o u, upd H0 P (.tbl #[]) b = some (.frz o u) := fun b => by
    by_cases z : b = P
    · exact .inr (.inl z)
    · rw [upd_ne z]
      rcases only b with y | ⟨o, u, y⟩
      · exact .inl y
      · exact .inr (.inr ⟨o, u, y⟩)
  have ok : HOk Pr w (upd H0 P (.tbl #[])) s1.heap := fun b u q => by
    by_cases z : b = P
    · subst z
      rw [upd_same] at q
      cases q
      exact oP
    · rw [upd_ne z] at q
      exact (ok0 b u q).stay (fun _ _ _ e => e) (fun a e => sm _ _ e) (fun a xs e => sm _ _ e)
  have off : ∀ {b : Addr} {o : Obj}, s1.heap.get? b = some o → (∀ vs n, o.data ≠ .seq vs n) → o.data ≠ .fields #[] → upd H0 P (.tbl #[]) b = none := fun {b o} e n1 n2 => by
    have z : b ≠ P := fun z => by
      rw [z, oP] at e
      cases e
      exact n2 rfl
    rw [upd_ne z]
    exact seqs e n1
  have offK : ∀ b o, K.lookup b = some o → upd H0 P (.tbl #[]) b = none := fun b o e => by
    have z : b ≠ P := fun z => by rw [z, nP] at e; cases e
    rw [upd_ne z]
    cases q : H0 b with
    | none => rfl
    | some u => rw [kNone b u q] at e; cases e
  generalize upd H0 P (.tbl #[]) = H at sm hP kinds ok off offK
  have inB : ∀ {b : Addr} {o : Obj}, s1.heap.get? b = some o → H b = none → (hidT s1.heap H).get? b = some o := fun e n => hidT_get e n
  have nsB : ∀ {b : Addr} {m : Str → Option Value}, s1.heap.Ns b m → (hidT s1.heap H).Ns b m := fun {b m} ⟨o, es, ep, e, d, r⟩ => ⟨o, es, ep, inB e (off e (fun vs n z => by rw [d] at z; cases z) (fun z => by rw [d] at z; cases z)), d, r⟩
  have kB : K.In (hidT s1.heap H) := fun b o e => inB (KX b o e) (offK b o e)
  have md : L2.Mod K mg (hidT s1.heap H) := ⟨kB, nsB gN, ⟨mb, nsB bN, bB⟩, let ⟨mc, h1, h2⟩ := lim; ⟨mc, nsB h1, h2⟩⟩
  have gP : mainGlobals ≠ P := fun z => by
    obtain ⟨o, es, ep, e, d, _⟩ := gN
    rw [z, oP] at e
    cases e
    cases d
  have TB : LamX.TabB (hidT s1.heap H) mg c P := by
    refine ⟨?_, ?_, gP⟩
    · obtain ⟨o, us, file, tf, flags, tg, inF, text, tt, f1, r1, r2, r3, r4, r5, r6, r7, r8, ne⟩ := hd
      refine ⟨o, us, file, tf, flags, tg, inF, text, tt, inB f1 (off f1 (fun vs n z => by rw [r2] at z; cases z) (fun z => ?_)), r1, r2, r3, r4, r5, r6, r7, r8, ne⟩
      rw [r2] at z
      cases z
      simp at r3
    · obtain ⟨m, ob, b1, b2, b3, b4, b5, b6⟩ := bm
      have nG : m ≠ mainGlobals := fun z => by
        obtain ⟨o, es, ep, e, d, _⟩ := gN
        rw [z, e] at b3
        cases b3
        rw [d] at b6
        cases b6
      have nmP : m ≠ P := fun z => by
        rw [z, oP] at b3
        cases b3
        cases b6
      exact ⟨m, ob, b1, b2, nG, nmP, inB b3 (off b3 (fun vs n z => by rw [b6] at z; cases z) (fun z => by rw [b6] at z; cases z)), b4, b5, b6⟩
  have e0 : Env0 Pr w K mg (hidT s1.heap H) callerA [] s1 H := ⟨rfl, md, fun b o e => of_hidT e, Nat.le_of_eq (hidT_size _ _), trivial, fun b hb => absurd (show b ∈ ([] : List Addr) from hb) (by simp), ok, .of_eq noG⟩
  have vl : vals.length = ps.length := by rw [wellAll_len wl]; exact len
  refine codeAny_mono ((F _ kB (nsB gN) TB).run callerA [] s1 H ⟨vals, []⟩ vals (vals.map toV) _ _ hr e0 (bind s1 vals vl) vv (spOk H0 H _ sm hP dw)) fun r s2 x => ?_
  cases r with
  | error e => exact False.elim x
  | ok fl =>
    cases fl with
    | next => exact False.elim x
    | brk => exact False.elim x
    | cont => exact False.elim x
    | ret u =>
      obtain ⟨v, H2, os, bare, un, ok2, rv, q⟩ := x
      have stays : ∀ b o, b ≠ P → s1.heap.get? b = some o → s2.heap.get? b = some o := fun b o nb e => by
        rcases kinds b with z | z | ⟨ob, u2, z⟩
        · exact un.keep b o e z (by intro y; exact absurd (show b ∈ ([] : List Addr) from y) (by simp)) (by simp)
        · exact absurd z nb
        · obtain ⟨f1, _⟩ := ok b _ z
          obtain ⟨f2, _⟩ := ok2 b _ (un.frzs b ob _ z)
          rw [e] at f1
          cases f1
          exact f2
      obtain ⟨more, mP⟩ : ∃ more : Array Value, s2.heap.get? P = some { cls := .none, data := .fields more } := by
        obtain ⟨more, z⟩ := un.tbls P #[] hP
        exact ⟨_, ok2 P _ z⟩
      have KX2 : K.In s2.heap := fun b o e => stays b o (fun z => by rw [z, nP] at e; cases e) (KX b o e)
      obtain ⟨as, hrd⟩ := Dw.reads (R := R) (cl := cl) ok2 KX2 d0 v u q rv
      refine ⟨u, as, rfl, hrd, ⟨fun b o e => ?_, fun b o e => ?_⟩, os, bare⟩
      · by_cases z : b = P
        · rw [z] at e ⊢
          rw [oP] at e
          cases e
          exact .inr (.inl ⟨(hd.tab oP).isCodeTable, rfl, #[], more, rfl, by rw [Array.empty_append]; exact mP⟩)
        · exact .inl (stays b o z e)
      · by_cases z : b = P
        · rw [z]; exact ⟨_, mP⟩
        · exact ⟨o, stays b o z e⟩
/-- the goal that the head leaves, from the promise of the row's def and of the table of the def x -/
theorem walk_tab {r : OpenSpec} {k : Nat} {q : Program} {loose : List Str} {XP : (Str → Option Value) → Heap → Prop} {YP : World → Heap → Prop} {d : DefRec} {K : Params → PySem.W.Frag} {ps : List Str} {x : Str} {tb : Addr × Addr} {sp : PySem.W.Frag → Sp}
    (well : r.wellSaid = true) (nodef : d.params.defaults = []) (len : r.args.length = ps.length) (hr : Room k callerA) (hY : ∀ (w : World) (h : Heap), YP w h → (K w.params).In h)
    (hrec : ((recsOf q).any fun e => e.name == x) = true) (htb : ∀ w : World, PySem.W.tabIn (K w.params) x = some tb) (hnP : ∀ w : World, (K w.params).lookup tb.2 = none)
    (F : ∀ (w : World) (mg : Str → Option Value) (fa : Addr) (h : Heap), YP w h → (K w.params).In h → h.Ns mainGlobals mg → mg d.name = some (.ref fa) →
      ∃ fd : FuncData, (∀ (s : Shared) (us : List Value), us.length = ps.length → BindsTo s fd ⟨us, []⟩ (ps.zip us)) ∧
        ∀ base : Heap, (K w.params).In base → base.Ns mainGlobals mg → LamX.TabB base mg tb.1 tb.2 → FnOk r.prog w (K w.params) mg base L2.CX0 k fa fd ps (sp (K w.params)))
    (spOk : ∀ (K : PySem.W.Frag) (H0 H : Hp) (xs : List V) (a : Codec.denoteAll r.args), Same H0 H → H tb.2 = some (.tbl #[]) → Codec.withinAll r.args a = true → Codec.app r.args r.asked a = true → DwAll K H0 xs (Codec.encAll r.args a) →
      sp K xs H (fun v H2 => Dw K H2 v (r.ret.enc (Codec.app r.args r.f a))) fun _ _ _ => False) :
    PySem.W.WalkOS q loose XP YP r d [] (fun f vs => PySem.call f vs) := by
  intro w s0 s1 mg mb G Y fa o pm cd doc dV kV ho hd hcd hD hmg hg args vals as hpre hlay hrd hwl hlo
  obtain ⟨a, e1, e2⟩ := PySem.W.os_pre_some hpre
  obtain ⟨e3, hwi⟩ := Codec.encAll_of_decAll r.args args a e1
  subst e3
  have KX := hY w _ Y
  obtain ⟨fd, hb, hF⟩ := F w mg fa _ Y KX G.T.g hmg
  obtain ⟨dg, hdg⟩ : ∃ dg, (recsOf q).find? (fun e => e.name == x) = some dg := by
    cases z : (recsOf q).find? (fun e => e.name == x) with
    | some dg => exact ⟨dg, rfl⟩
    | none =>
      obtain ⟨y, hy, hy2⟩ := List.any_eq_true.mp hrec
      exact absurd hy2 (List.find?_eq_none.mp z y hy)
  obtain ⟨ch, oP⟩ := PySem.W.tab_of (c := tb.1) (P := tb.2) G.T KX hdg (htb w)
  refine PySem.W.enter_call (codeAny_mono (call_tab (R := []) (cl := classAt s0.heap) (d0 := r.ret.enc (Codec.app r.args r.f a)) KX G.T.g G.T.b G.T.builtins G.T.nolimit hg oP (hnP w) ch G.T.bmain hwl (pl_encAll _ _) (layable_weight hlay) hr hF hb (by rw [encAll_len]; exact len)
    (fun H0 H xs sm hP hS => spOk (K w.params) H0 H xs a sm hP hwi e2 hS)) fun r2 s2 hq => ?_)
  obtain ⟨u, as2, rfl, h1, h2, h3, h4⟩ := hq
  exact ⟨.inl ⟨u, _, as2, rfl, fun _ => rfl, h1, (OpenSpec.post_iff well hwi _ _).mpr rfl, fun z => Bool.noConfusion (show false = true from z)⟩, h2, h3, h4⟩
end Ro
end part_R3
section part_D1
set_option linter.unusedVariables false
set_option maxRecDepth 100000
set_option maxHeartbeats 2000000
namespace Ro
open PySem PySem.Spec PyProof.Rows L2
def top (i : Nat) : Stmt := PySem.Challenge.pw_fullrooms_s01_answers.main.body.getD i (.Pass ⟨0, 0, 0, 0⟩)
def kindRows : List (List Str) := [["cell", "source", "zero"], ["cell", "target", "zero"], ["cell", "value", "zero"], ["cell", "cell", "zero"], ["cell", "cell", "zero"], ["cell", "cell", "zero"], ["cell", "cell", "zero"], ["place", "zero", "zero"], ["cell", "place", "zero"], ["cell", "cell", "place"], ["cell", "zero", "zero"]]
/-- what the top has written -/
structure Txt (K : PySem.W.Frag) (mg : Str → Option Value) (C : Cs) : Prop where
  cl_Channel : Cls K C.cc
  n_writer : NoAttr K C.cc "writer"
  n_reader : NoAttr K C.cc "reader"
  n_room : NoAttr K C.cc "room"
  n_written : NoAttr K C.cc "written"
  n_taken : NoAttr K C.cc "taken"
  cl_Process : Cls K C.cp
  n_program : NoAttr K C.cp "program"
  n_place : NoAttr K C.cp "place"
  n_registers : NoAttr K C.cp "registers"
  n_said : NoAttr K C.cp "said"
  cl_Net : Cls K C.cn
  n_processes : NoAttr K C.cn "processes"
  n_channels : NoAttr K C.cn "channels"
  n_steps : NoAttr K C.cn "steps"
  n_grown : NoAttr K C.cn "grown"
  cl_Calls : Cls K C.cl
  n_numbers : NoAttr K C.cl "numbers"
  n_at : NoAttr K C.cl "at"
  g_MOST_CHANNELS : ∃ u, mg "MOST_CHANNELS" = some u ∧ RelV (.int 10) u
  g_MOST_ROOM : ∃ u, mg "MOST_ROOM" = some u ∧ RelV (.int 50) u
  g_MOST_INSTRUCTIONS : ∃ u, mg "MOST_INSTRUCTIONS" = some u ∧ RelV (.int 24) u
  g_LAST_REGISTER : ∃ u, mg "LAST_REGISTER" = some u ∧ RelV (.int 3) u
  g_MOST_VALUE : ∃ u, mg "MOST_VALUE" = some u ∧ RelV (.int 65535) u
  g_CAN_STEP : ∃ u, mg "CAN_STEP" = some u ∧ RelV (.int 0) u
  g_AT_END : ∃ u, mg "AT_END" = some u ∧ RelV (.int 1) u
  g_WAITS_TO_READ : ∃ u, mg "WAITS_TO_READ" = some u ∧ RelV (.int 2) u
  g_WAITS_TO_WRITE : ∃ u, mg "WAITS_TO_WRITE" = some u ∧ RelV (.int 3) u
  g_GET : ∃ u, mg "GET" = some u ∧ RelV (.int 0) u
  g_PUT : ∃ u, mg "PUT" = some u ∧ RelV (.int 1) u
  g_MODULUS : ∃ u, mg "MODULUS" = some u ∧ RelV (.int 65536) u
  g_MOST_PROCESSES : ∃ u, mg "MOST_PROCESSES" = some u ∧ RelV (.int 6) u
  g_MOST_RUN : ∃ u, mg "MOST_RUN" = some u ∧ RelV (.int 200) u
  g_MOST_ROUND : ∃ u, mg "MOST_ROUND" = some u ∧ RelV (.int 20) u
  g_MOST_SETTLE : ∃ u, mg "MOST_SETTLE" = some u ∧ RelV (.int 200) u
  g_MOST_WIDENED : ∃ u, mg "MOST_WIDENED" = some u ∧ RelV (.int 1000) u
  g_KINDS : ∃ u, mg "KINDS" = some u ∧ RelV (.ref C.kinds) u
  g_DOINGS : ∃ u, mg "DOINGS" = some u ∧ RelV (.ref C.doings) u
  g_CALLS : ∃ u, mg "CALLS" = some u ∧ RelV (.ref C.table) u
  t_KINDS : ∀ H, SqT K H C.kinds (C.kin.map V.ref)
  t_DOINGS : ∀ H, SqT K H C.doings (C.dos.map V.ref)
  t_CALLS : ∀ H, SqT K H C.table (C.cas.map V.ref)
  n_kin : C.kin.length = 11
  n_dos : C.dos.length = 11
  n_cas : C.cas.length = 13
  t_kin : ∀ (i : Nat) (l : List Str), kindRows[i]? = some l → ∃ a, C.kin[i]? = some a ∧ ∀ H, SqT K H a (l.map V.str)
  len : mg "len" = none
  range : mg "range" = none
  min : mg "min" = none
abbrev zeros : List V := [.int 0, .int 0, .int 0, .int 0]
def sp_Channel_init (K : PySem.W.Frag) (C : Cs) (TT : List NTab) : Sp := fun vs H Q _ => ∃ (p dx : Addr) (a b c : Int), vs = [.ref p, .int a, .int b, .int c] ∧ H p = some (.ins C.cc dx []) ∧
  ∀ (H' : Hp) (w : Addr), H w = none → w ≠ p → H' w = some (.lst []) → H' p = some (.ins C.cc dx (chF a b c w 0)) → (∀ x o, H x = some o → x ≠ p → H' x = some o) → Q .non H'
def sp_Channel_is_empty (K : PySem.W.Frag) (C : Cs) (TT : List NTab) : Sp := fun vs H Q _ => ∃ (p dx : Addr) (a b c : Int) (w : Addr) (k : Int) (xs : List V), vs = [.ref p] ∧ H p = some (.ins C.cc dx (chF a b c w k)) ∧ H w = some (.lst xs) ∧ Q (.bl (decide (k = (xs.length : Int)))) H
def sp_Channel_is_full (K : PySem.W.Frag) (C : Cs) (TT : List NTab) : Sp := fun vs H Q _ => ∃ (p dx : Addr) (a b c : Int) (w : Addr) (k : Int) (xs : List V), vs = [.ref p] ∧ H p = some (.ins C.cc dx (chF a b c w k)) ∧ H w = some (.lst xs) ∧ Q (.bl (decide (c ≤ (xs.length : Int) - k))) H
def sp_Channel_take (K : PySem.W.Frag) (C : Cs) (TT : List NTab) : Sp := fun vs H Q _ => ∃ (p dx : Addr) (a b c : Int) (w : Addr) (k : Nat) (xs : List V) (v : V), vs = [.ref p] ∧ H p = some (.ins C.cc dx (chF a b c w (k : Int))) ∧ H w = some (.lst xs) ∧ xs[k]? = some v ∧ Q v (upd H p (.ins C.cc dx (chF a b c w ((k : Int) + 1))))
def sp_Channel_put (K : PySem.W.Frag) (C : Cs) (TT : List NTab) : Sp := fun vs H Q _ => ∃ (p dx : Addr) (a b c : Int) (w : Addr) (k : Int) (xs : List V) (v : V), vs = [.ref p, v] ∧ H p = some (.ins C.cc dx (chF a b c w k)) ∧ H w = some (.lst xs) ∧ xs.length < sizeLine ∧ Q .non (upd H w (.lst (xs ++ [v])))
def sp_Channel_on_it (K : PySem.W.Frag) (C : Cs) (TT : List NTab) : Sp := fun vs H Q _ => ∃ (p dx : Addr) (a b c : Int) (w : Addr) (k : Int) (xs : List V), vs = [.ref p] ∧ H p = some (.ins C.cc dx (chF a b c w k)) ∧ H w = some (.lst xs) ∧ ∀ r, H r = none → Q (.ref r) (upd H r (.lst (cutV xs (some k) none)))
def sp_Process_init (K : PySem.W.Frag) (C : Cs) (TT : List NTab) : Sp := fun vs H Q _ => ∃ (p dx : Addr), vs = [.ref p] ∧ H p = some (.ins C.cp dx []) ∧
  ∀ (H' : Hp) (g r d : Addr), H g = none → H r = none → H d = none → g ≠ r → g ≠ d → r ≠ d → H' g = some (.lst []) → H' r = some (.lst zeros) → H' d = some (.lst []) → H' p = some (.ins C.cp dx (prF g 1 r d)) → (∀ x o, H x = some o → x ≠ p → H' x = some o) → Q .non H'
def sp_Process_begin (K : PySem.W.Frag) (C : Cs) (TT : List NTab) : Sp := fun vs H Q _ => ∃ (p dx g : Addr) (k : Int) (r d g' : Addr), vs = [.ref p, .ref g'] ∧ H p = some (.ins C.cp dx (prF g k r d)) ∧
  ∀ (H' : Hp) (r' : Addr), H r' = none → H' r' = some (.lst zeros) → H' p = some (.ins C.cp dx (prF g' 1 r' d)) → (∀ x o, H x = some o → x ≠ p → H' x = some o) → Q .non H'
def sp_Process_is_at_end (K : PySem.W.Frag) (C : Cs) (TT : List NTab) : Sp := fun vs H Q _ => ∃ (p dx g : Addr) (k : Int) (r d : Addr) (xs : List V), vs = [.ref p] ∧ H p = some (.ins C.cp dx (prF g k r d)) ∧ H g = some (.lst xs) ∧ Q (.bl (decide ((xs.length : Int) < k))) H
def sp_Process_instruction (K : PySem.W.Frag) (C : Cs) (TT : List NTab) : Sp := fun vs H Q _ => ∃ (p dx g : Addr) (k : Nat) (r d : Addr) (xs : List V) (v : V), vs = [.ref p] ∧ H p = some (.ins C.cp dx (prF g ((k + 1 : Nat) : Int) r d)) ∧ H g = some (.lst xs) ∧ xs[k]? = some v ∧ Q v H
def sp_Net_has_process (K : PySem.W.Frag) (C : Cs) (TT : List NTab) : Sp := fun vs H Q _ => ∃ (p dx a b : Addr) (c d : Int) (xs : List V) (n : Int), vs = [.ref p, .int n] ∧ H p = some (.ins C.cn dx (ntF a b c d)) ∧ H a = some (.lst xs) ∧ Q (.bl (decide (1 ≤ n ∧ n ≤ (xs.length : Int)))) H
def sp_Net_has_channel (K : PySem.W.Frag) (C : Cs) (TT : List NTab) : Sp := fun vs H Q _ => ∃ (p dx a b : Addr) (c d : Int) (xs : List V) (n : Int), vs = [.ref p, .int n] ∧ H p = some (.ins C.cn dx (ntF a b c d)) ∧ H b = some (.lst xs) ∧ Q (.bl (decide (1 ≤ n ∧ n ≤ (xs.length : Int)))) H
def sp_Net_process (K : PySem.W.Frag) (C : Cs) (TT : List NTab) : Sp := fun vs H Q _ => ∃ (p dx a b : Addr) (c d : Int) (xs : List V) (k : Nat) (v : V), vs = [.ref p, .int ((k + 1 : Nat) : Int)] ∧ H p = some (.ins C.cn dx (ntF a b c d)) ∧ H a = some (.lst xs) ∧ xs[k]? = some v ∧ Q v H
def sp_Net_channel (K : PySem.W.Frag) (C : Cs) (TT : List NTab) : Sp := fun vs H Q _ => ∃ (p dx a b : Addr) (c d : Int) (xs : List V) (k : Nat) (v : V), vs = [.ref p, .int ((k + 1 : Nat) : Int)] ∧ H p = some (.ins C.cn dx (ntF a b c d)) ∧ H b = some (.lst xs) ∧ xs[k]? = some v ∧ Q v H
theorem atI_of {α : Type} {xs : List α} {k : Nat} {v : α} (h : xs[k]? = some v) : atI xs ((k : Nat) : Int) = some v := by
  obtain ⟨l, _⟩ := List.getElem?_eq_some_iff.mp h
  unfold atI ixN
  rw [if_pos (by omega), if_pos (by omega)]
  exact h
theorem pred_cast (k : Nat) : ((k + 1 : Nat) : Int) - 1 = ((k : Nat) : Int) := by omega
section
variable {P : Program} {w : World} {K : PySem.W.Frag} {mg : Str → Option Value} {base : Heap} {C : Cs} {TT : List NTab}
abbrev s_Channel_init : Stmt := inClass (top 15) 0
theorem sc_Channel_init : FnScope ["self", "writer", "reader", "room"] ["self", "writer", "reader", "room"] (defScope s_Channel_init) := ⟨rfl, rfl, rfl, by decide +kernel, rfl, by decide +kernel, by decide +kernel⟩
theorem ok_Channel_init {f : Addr} {fd : FuncData} (F : L2.Fun K "__init__" "Channel.__init__" s_Channel_init f fd) (T : Txt K mg C)  : FnOk P w K mg base L2.CX0 1 f fd ["self", "writer", "reader", "room"] (sp_Channel_init K C TT) := by
  refine F.ok sc_Channel_init (fun vs H Q E h => ?_) (fun cdv A outer s0 H vs Q E hr h => ?_)
  · obtain ⟨p, dx, a, b, c, rfl, _⟩ := h
    rfl
  · obtain ⟨p, dx, a, b, c, rfl, hp, k⟩ := h
    refine ⟨_, (pss_cons (ps_fld (pv 0) (pv 1) rfl) (pss_cons (ps_fld (pv 0) (pv 2) rfl) (pss_cons (ps_fld (pv 0) (pv 3) rfl) (pss_cons (ps_fld (pv 0) (pe_lst pa_nil) rfl) (pss_one (ps_fld (pv 0) pe_int rfl)))))), ?_⟩
    refine ⟨_, rfl, _, rfl, p, C.cc, dx, [], rfl, hp, T.cl_Channel, T.n_writer, (by show 0 < 1000; decide), ?_⟩
    refine ⟨_, rfl, _, rfl, p, C.cc, dx, _, rfl, upd_same, T.cl_Channel, T.n_reader, (by show 1 < 1000; decide), ?_⟩
    refine ⟨_, rfl, _, rfl, p, C.cc, dx, _, rfl, upd_same, T.cl_Channel, T.n_room, (by rw [chF_mk1, chF_mk2]; show 2 < 1000; decide), ?_⟩
    refine ⟨Nat.zero_le _, fun w hw => ?_⟩
    rw [upd_upd, upd_upd] at hw ⊢
    have npw : p ≠ w := fun z => by rw [z, upd_same] at hw; cases hw
    have hw0 : H w = none := by rw [upd_ne npw.symm] at hw; exact hw
    refine ⟨_, rfl, p, C.cc, dx, _, rfl, (by rw [upd_ne npw]; exact upd_same), T.cl_Channel, T.n_written, (by rw [chF_mk1, chF_mk2, chF_mk3]; show 3 < 1000; decide), ?_⟩
    refine ⟨_, rfl, p, C.cc, dx, _, rfl, upd_same, T.cl_Channel, T.n_taken, (by rw [chF_mk1, chF_mk2, chF_mk3, chF_mk4]; show 4 < 1000; decide), ?_⟩
    rw [chF_mk1, chF_mk2, chF_mk3, chF_mk4, chF_mk5, upd_upd]
    refine k _ w hw0 npw.symm (by rw [upd_ne npw.symm]; exact upd_same) upd_same fun x o hx hxp => ?_
    rw [upd_ne hxp, upd_ne (ne_of_none hx hw0), upd_ne hxp]
    exact hx
abbrev s_Channel_is_empty : Stmt := inClass (top 15) 1
theorem sc_Channel_is_empty : FnScope ["self"] ["self"] (defScope s_Channel_is_empty) := ⟨rfl, rfl, rfl, by decide +kernel, rfl, by decide +kernel, by decide +kernel⟩
theorem ok_Channel_is_empty {f : Addr} {fd : FuncData} (F : L2.Fun K "is_empty" "Channel.is_empty" s_Channel_is_empty f fd) (T : Txt K mg C)  : FnOk P w K mg base L2.CX0 1 f fd ["self"] (sp_Channel_is_empty K C TT) := by
  refine F.ok sc_Channel_is_empty (fun vs H Q E h => ?_) (fun cdv A outer s0 H vs Q E hr h => ?_)
  · obtain ⟨p, dx, a, b, c, w, k, xs, rfl, _⟩ := h
    rfl
  · obtain ⟨p, dx, a, b, c, w, k, xs, rfl, hp, hw, q⟩ := h
    refine ⟨_, (pss_one (ps_ret (pe_cmpR op_eq (pe_fld (pv 0) rfl) (pe_callB call_len_seq (by rfl) T.len PySem.boot_len (pa_cons (pe_fld (pv 0) rfl) pa_nil)) (nomark _)))), ?_⟩
    refine ⟨_, rfl, p, C.cc, dx, _, _, rfl, hp, T.cl_Channel, T.n_taken, chF_taken .., _, rfl, p, C.cc, dx, _, _, rfl, hp, T.cl_Channel, T.n_written, chF_written .., w, _, rfl, .inl (SqL.of hw), rfl, ?_⟩
    rw [int_dec]
    exact q
abbrev s_Channel_is_full : Stmt := inClass (top 15) 2
theorem sc_Channel_is_full : FnScope ["self"] ["self"] (defScope s_Channel_is_full) := ⟨rfl, rfl, rfl, by decide +kernel, rfl, by decide +kernel, by decide +kernel⟩
theorem ok_Channel_is_full {f : Addr} {fd : FuncData} (F : L2.Fun K "is_full" "Channel.is_full" s_Channel_is_full f fd) (T : Txt K mg C)  : FnOk P w K mg base L2.CX0 1 f fd ["self"] (sp_Channel_is_full K C TT) := by
  refine F.ok sc_Channel_is_full (fun vs H Q E h => ?_) (fun cdv A outer s0 H vs Q E hr h => ?_)
  · obtain ⟨p, dx, a, b, c, w, k, xs, rfl, _⟩ := h
    rfl
  · obtain ⟨p, dx, a, b, c, w, k, xs, rfl, hp, hw, q⟩ := h
    refine ⟨_, (pss_one (ps_ret (pe_cmpR op_ge (pe_op op_sub (pe_callB call_len_seq (by rfl) T.len PySem.boot_len (pa_cons (pe_fld (pv 0) rfl) pa_nil)) (pe_fld (pv 0) rfl)) (pe_fld (pv 0) rfl) (nomark _)))), ?_⟩
    exact ⟨_, rfl, p, C.cc, dx, _, _, rfl, hp, T.cl_Channel, T.n_written, chF_written .., w, _, rfl, .inl (SqL.of hw), _, rfl, p, C.cc, dx, _, _, rfl, hp, T.cl_Channel, T.n_taken, chF_taken .., _, _, rfl, rfl, _, rfl, p, C.cc, dx, _, _, rfl, hp, T.cl_Channel, T.n_room, chF_room .., _, _, rfl, rfl, q⟩
abbrev s_Channel_take : Stmt := inClass (top 15) 3
theorem sc_Channel_take : FnScope ["self", "number"] ["self"] (defScope s_Channel_take) := ⟨rfl, rfl, rfl, by decide +kernel, rfl, by decide +kernel, by decide +kernel⟩
theorem ok_Channel_take {f : Addr} {fd : FuncData} (F : L2.Fun K "take" "Channel.take" s_Channel_take f fd) (T : Txt K mg C)  : FnOk P w K mg base L2.CX0 1 f fd ["self"] (sp_Channel_take K C TT) := by
  refine F.ok sc_Channel_take (fun vs H Q E h => ?_) (fun cdv A outer s0 H vs Q E hr h => ?_)
  · obtain ⟨p, dx, a, b, c, w, k, xs, v, rfl, _⟩ := h
    rfl
  · obtain ⟨p, dx, a, b, c, w, k, xs, v, rfl, hp, hw, hv, q⟩ := h
    refine ⟨_, (pss_cons (ps_set (i := 1) sc_Channel_take.nd rfl (Or.inl rfl) (pe_ix ix_list (pe_fld (pv 0) rfl) (pe_fld (pv 0) rfl) (fun _ _ => rfl))) (pss_cons (ps_fldaug (pv 0) pe_int in_add) (pss_one (ps_ret (pv 1))))), ?_⟩
    refine ⟨_, rfl, p, C.cc, dx, _, _, rfl, hp, T.cl_Channel, T.n_written, chF_written .., _, rfl, p, C.cc, dx, _, _, rfl, hp, T.cl_Channel, T.n_taken, chF_taken .., w, xs, _, v, rfl, rfl, SqL.of hw, atI_of hv, ?_⟩
    refine ⟨_, rfl, p, C.cc, dx, _, _, rfl, hp, T.cl_Channel, T.n_taken, chF_taken .., _, _, rfl, rfl, dx, _, hp, (by show 5 < 1000; decide), ?_⟩
    rw [chF_put_taken]
    exact ⟨_, rfl, q⟩
abbrev s_Channel_put : Stmt := inClass (top 15) 4
theorem sc_Channel_put : FnScope ["self", "number"] ["self", "number"] (defScope s_Channel_put) := ⟨rfl, rfl, rfl, by decide +kernel, rfl, by decide +kernel, by decide +kernel⟩
theorem ok_Channel_put {f : Addr} {fd : FuncData} (F : L2.Fun K "put" "Channel.put" s_Channel_put f fd) (T : Txt K mg C)  : FnOk P w K mg base L2.CX0 1 f fd ["self", "number"] (sp_Channel_put K C TT) := by
  refine F.ok sc_Channel_put (fun vs H Q E h => ?_) (fun cdv A outer s0 H vs Q E hr h => ?_)
  · obtain ⟨p, dx, a, b, c, w, k, xs, v, rfl, _⟩ := h
    rfl
  · obtain ⟨p, dx, a, b, c, w, k, xs, v, rfl, hp, hw, hl, q⟩ := h
    refine ⟨_, (pss_one (ps_expr (pe_bm PySem.F.plainAttrs_list PySem.F.slot_list_append PySem.F.type_list_append mt_append (pe_fld (pv 0) rfl) (pa_cons (pv 1) pa_nil)))), ?_⟩
    exact ⟨_, rfl, p, C.cc, dx, _, _, rfl, hp, T.cl_Channel, T.n_written, chF_written .., .inl ⟨rfl, _, SqL.of hw⟩, _, rfl, w, _, _, rfl, rfl, hw, hl, q⟩
abbrev s_Channel_on_it : Stmt := inClass (top 15) 5
theorem sc_Channel_on_it : FnScope ["self"] ["self"] (defScope s_Channel_on_it) := ⟨rfl, rfl, rfl, by decide +kernel, rfl, by decide +kernel, by decide +kernel⟩
theorem ok_Channel_on_it {f : Addr} {fd : FuncData} (F : L2.Fun K "on_it" "Channel.on_it" s_Channel_on_it f fd) (T : Txt K mg C)  : FnOk P w K mg base L2.CX0 1 f fd ["self"] (sp_Channel_on_it K C TT) := by
  refine F.ok sc_Channel_on_it (fun vs H Q E h => ?_) (fun cdv A outer s0 H vs Q E hr h => ?_)
  · obtain ⟨p, dx, a, b, c, w, k, xs, rfl, _⟩ := h
    rfl
  · obtain ⟨p, dx, a, b, c, w, k, xs, rfl, hp, hw, q⟩ := h
    refine ⟨_, (pss_one (ps_ret (pe_slice sl_list (pe_fld (pv 0) rfl) (po_some (pe_fld (pv 0) rfl)) po_none))), ?_⟩
    exact ⟨_, rfl, p, C.cc, dx, _, _, rfl, hp, T.cl_Channel, T.n_written, chF_written .., _, rfl, p, C.cc, dx, _, _, rfl, hp, T.cl_Channel, T.n_taken, chF_taken .., _, rfl, _, _, rfl, SqL.of hw, fun r hr' => q r hr'⟩
abbrev s_Process_init : Stmt := inClass (top 16) 0
theorem sc_Process_init : FnScope ["self"] ["self"] (defScope s_Process_init) := ⟨rfl, rfl, rfl, by decide +kernel, rfl, by decide +kernel, by decide +kernel⟩
theorem ok_Process_init {f : Addr} {fd : FuncData} (F : L2.Fun K "__init__" "Process.__init__" s_Process_init f fd) (T : Txt K mg C)  : FnOk P w K mg base L2.CX0 1 f fd ["self"] (sp_Process_init K C TT) := by
  refine F.ok sc_Process_init (fun vs H Q E h => ?_) (fun cdv A outer s0 H vs Q E hr h => ?_)
  · obtain ⟨p, dx, rfl, _⟩ := h
    rfl
  · obtain ⟨p, dx, rfl, hp, k⟩ := h
    refine ⟨_, (pss_cons (ps_fld (pv 0) (pe_lst pa_nil) rfl) (pss_cons (ps_fld (pv 0) pe_int rfl) (pss_cons (ps_fld (pv 0) (pe_lst (pa_cons pe_int (pa_cons pe_int (pa_cons pe_int (pa_cons pe_int pa_nil))))) rfl) (pss_one (ps_fld (pv 0) (pe_lst pa_nil) rfl))))), ?_⟩
    refine ⟨Nat.zero_le _, fun g hg => ?_⟩
    have npg : p ≠ g := ne_of_none hp hg
    refine ⟨_, rfl, p, C.cp, dx, [], rfl, (by rw [upd_ne npg]; exact hp), T.cl_Process, T.n_program, (by show 0 < 1000; decide), ?_⟩
    refine ⟨_, rfl, p, C.cp, dx, _, rfl, upd_same, T.cl_Process, T.n_place, (by rw [prF_mk1]; show 1 < 1000; decide), ?_⟩
    rw [prF_mk1, prF_mk2, upd_upd]
    refine ⟨(by show 4 ≤ sizeLine; decide), fun r hr => ?_⟩
    have npr : p ≠ r := fun z => by rw [z, upd_same] at hr; cases hr
    rw [upd_ne npr.symm] at hr
    have ngr : g ≠ r := fun z => by rw [z, upd_same] at hr; cases hr
    rw [upd_ne ngr.symm] at hr
    refine ⟨_, rfl, p, C.cp, dx, _, rfl, (by rw [upd_ne npr]; exact upd_same), T.cl_Process, T.n_registers, (by show 2 < 1000; decide), ?_⟩
    rw [prF_mk3]
    refine ⟨Nat.zero_le _, fun d hd => ?_⟩
    have npd : p ≠ d := fun z => by rw [z, upd_same] at hd; cases hd
    rw [upd_ne npd.symm] at hd
    have nrd : r ≠ d := fun z => by rw [z, upd_same] at hd; cases hd
    rw [upd_ne nrd.symm, upd_ne npd.symm] at hd
    have ngd : g ≠ d := fun z => by rw [z, upd_same] at hd; cases hd
    rw [upd_ne ngd.symm] at hd
    refine ⟨_, rfl, p, C.cp, dx, _, rfl, (by rw [upd_ne npd]; exact upd_same), T.cl_Process, T.n_said, (by show 3 < 1000; decide), ?_⟩
    rw [prF_mk4]
    refine k _ g r d hg hr hd ngr ngd nrd ?_ ?_ ?_ upd_same fun x o hx hxp => ?_
    · rw [upd_ne npg.symm, upd_ne ngd, upd_ne npg.symm, upd_ne ngr, upd_ne npg.symm]; exact upd_same
    · rw [upd_ne npr.symm, upd_ne nrd, upd_ne npr.symm]; exact upd_same
    · rw [upd_ne npd.symm]; exact upd_same
    · rw [upd_ne hxp, upd_ne (ne_of_none hx hd), upd_ne hxp, upd_ne (ne_of_none hx hr), upd_ne hxp, upd_ne (ne_of_none hx hg)]; exact hx
abbrev s_Process_begin : Stmt := inClass (top 16) 1
theorem sc_Process_begin : FnScope ["self", "program"] ["self", "program"] (defScope s_Process_begin) := ⟨rfl, rfl, rfl, by decide +kernel, rfl, by decide +kernel, by decide +kernel⟩
theorem ok_Process_begin {f : Addr} {fd : FuncData} (F : L2.Fun K "begin" "Process.begin" s_Process_begin f fd) (T : Txt K mg C)  : FnOk P w K mg base L2.CX0 1 f fd ["self", "program"] (sp_Process_begin K C TT) := by
  refine F.ok sc_Process_begin (fun vs H Q E h => ?_) (fun cdv A outer s0 H vs Q E hr h => ?_)
  · obtain ⟨p, dx, g, k, r, d, g', rfl, _⟩ := h
    rfl
  · obtain ⟨p, dx, g, k, r, d, g', rfl, hp, q⟩ := h
    refine ⟨_, (pss_cons (ps_fld (pv 0) (pv 1) rfl) (pss_cons (ps_fld (pv 0) pe_int rfl) (pss_one (ps_fld (pv 0) (pe_lst (pa_cons pe_int (pa_cons pe_int (pa_cons pe_int (pa_cons pe_int pa_nil))))) rfl)))), ?_⟩
    refine ⟨_, rfl, _, rfl, p, C.cp, dx, _, rfl, hp, T.cl_Process, T.n_program, (by show 4 < 1000; decide), ?_⟩
    rw [prF_put_program]
    refine ⟨_, rfl, p, C.cp, dx, _, rfl, upd_same, T.cl_Process, T.n_place, (by show 4 < 1000; decide), ?_⟩
    rw [prF_put_place, upd_upd]
    refine ⟨(by show 4 ≤ sizeLine; decide), fun r' hr' => ?_⟩
    have npr : p ≠ r' := fun z => by rw [z, upd_same] at hr'; cases hr'
    rw [upd_ne npr.symm] at hr'
    refine ⟨_, rfl, p, C.cp, dx, _, rfl, (by rw [upd_ne npr]; exact upd_same), T.cl_Process, T.n_registers, (by show 4 < 1000; decide), ?_⟩
    rw [prF_put_registers]
    refine q _ r' hr' (by rw [upd_ne npr.symm]; exact upd_same) upd_same fun x o hx hxp => ?_
    rw [upd_ne hxp, upd_ne (ne_of_none hx hr'), upd_ne hxp]; exact hx
abbrev s_Process_is_at_end : Stmt := inClass (top 16) 2
theorem sc_Process_is_at_end : FnScope ["self"] ["self"] (defScope s_Process_is_at_end) := ⟨rfl, rfl, rfl, by decide +kernel, rfl, by decide +kernel, by decide +kernel⟩
theorem ok_Process_is_at_end {f : Addr} {fd : FuncData} (F : L2.Fun K "is_at_end" "Process.is_at_end" s_Process_is_at_end f fd) (T : Txt K mg C)  : FnOk P w K mg base L2.CX0 1 f fd ["self"] (sp_Process_is_at_end K C TT) := by
  refine F.ok sc_Process_is_at_end (fun vs H Q E h => ?_) (fun cdv A outer s0 H vs Q E hr h => ?_)
  · obtain ⟨p, dx, g, k, r, d, xs, rfl, _⟩ := h
    rfl
  · obtain ⟨p, dx, g, k, r, d, xs, rfl, hp, hg, q⟩ := h
    refine ⟨_, (pss_one (ps_ret (pe_cmpR op_gt (pe_fld (pv 0) rfl) (pe_callB call_len_seq (by rfl) T.len PySem.boot_len (pa_cons (pe_fld (pv 0) rfl) pa_nil)) (nomark _)))), ?_⟩
    exact ⟨_, rfl, p, C.cp, dx, _, _, rfl, hp, T.cl_Process, T.n_place, prF_place .., _, rfl, p, C.cp, dx, _, _, rfl, hp, T.cl_Process, T.n_program, prF_program .., g, _, rfl, .inl (SqL.of hg), _, _, rfl, rfl, q⟩
abbrev s_Process_instruction : Stmt := inClass (top 16) 3
theorem sc_Process_instruction : FnScope ["self"] ["self"] (defScope s_Process_instruction) := ⟨rfl, rfl, rfl, by decide +kernel, rfl, by decide +kernel, by decide +kernel⟩
theorem ok_Process_instruction {f : Addr} {fd : FuncData} (F : L2.Fun K "instruction" "Process.instruction" s_Process_instruction f fd) (T : Txt K mg C)  : FnOk P w K mg base L2.CX0 1 f fd ["self"] (sp_Process_instruction K C TT) := by
  refine F.ok sc_Process_instruction (fun vs H Q E h => ?_) (fun cdv A outer s0 H vs Q E hr h => ?_)
  · obtain ⟨p, dx, g, k, r, d, xs, v, rfl, _⟩ := h
    rfl
  · obtain ⟨p, dx, g, k, r, d, xs, v, rfl, hp, hg, hv, q⟩ := h
    refine ⟨_, (pss_one (ps_ret (pe_ix ix_list (pe_fld (pv 0) rfl) (pe_op op_sub (pe_fld (pv 0) rfl) pe_int) (fun _ _ => rfl)))), ?_⟩
    refine ⟨_, rfl, p, C.cp, dx, _, _, rfl, hp, T.cl_Process, T.n_program, prF_program .., _, rfl, p, C.cp, dx, _, _, rfl, hp, T.cl_Process, T.n_place, prF_place .., _, _, rfl, rfl, g, xs, _, v, rfl, rfl, SqL.of hg, ?_, q⟩
    rw [pred_cast]
    exact atI_of hv
abbrev s_Net_has_process : Stmt := inClass (top 17) 2
theorem sc_Net_has_process : FnScope ["self", "number"] ["self", "number"] (defScope s_Net_has_process) := ⟨rfl, rfl, rfl, by decide +kernel, rfl, by decide +kernel, by decide +kernel⟩
theorem ok_Net_has_process {f : Addr} {fd : FuncData} (F : L2.Fun K "has_process" "Net.has_process" s_Net_has_process f fd) (T : Txt K mg C)  : FnOk P w K mg base L2.CX0 1 f fd ["self", "number"] (sp_Net_has_process K C TT) := by
  refine F.ok sc_Net_has_process (fun vs H Q E h => ?_) (fun cdv A outer s0 H vs Q E hr h => ?_)
  · obtain ⟨p, dx, a, b, c, d, xs, n, rfl, _⟩ := h
    rfl
  · obtain ⟨p, dx, a, b, c, d, xs, n, rfl, hp, ha, q⟩ := h
    refine ⟨_, (pss_one (ps_ret (pe_chain op_le op_le pe_int (pv 1) (pe_callB call_len_seq (by rfl) T.len PySem.boot_len (pa_cons (pe_fld (pv 0) rfl) pa_nil))))), ?_⟩
    refine ⟨_, rfl, _, _, rfl, rfl, _, rfl, ?_⟩
    by_cases h1 : 1 ≤ n
    · rw [if_pos (decide_eq_true h1)]
      refine ⟨_, rfl, p, C.cn, dx, _, _, rfl, hp, T.cl_Net, T.n_processes, ntF_processes .., a, _, rfl, .inl (SqL.of ha), _, _, rfl, rfl, ?_⟩
      have e : decide (1 ≤ n ∧ n ≤ (xs.length : Int)) = decide (n ≤ (xs.length : Int)) := by
        by_cases h2 : n ≤ (xs.length : Int)
        · rw [decide_eq_true h2, decide_eq_true ⟨h1, h2⟩]
        · rw [decide_eq_false h2, decide_eq_false (fun z => h2 z.2)]
      rw [e] at q
      exact q
    · rw [if_neg (by rw [decide_eq_false h1]; exact Bool.false_ne_true)]
      rw [decide_eq_false (fun z => h1 z.1)] at q
      exact q
abbrev s_Net_has_channel : Stmt := inClass (top 17) 4
theorem sc_Net_has_channel : FnScope ["self", "number"] ["self", "number"] (defScope s_Net_has_channel) := ⟨rfl, rfl, rfl, by decide +kernel, rfl, by decide +kernel, by decide +kernel⟩
theorem ok_Net_has_channel {f : Addr} {fd : FuncData} (F : L2.Fun K "has_channel" "Net.has_channel" s_Net_has_channel f fd) (T : Txt K mg C)  : FnOk P w K mg base L2.CX0 1 f fd ["self", "number"] (sp_Net_has_channel K C TT) := by
  refine F.ok sc_Net_has_channel (fun vs H Q E h => ?_) (fun cdv A outer s0 H vs Q E hr h => ?_)
  · obtain ⟨p, dx, a, b, c, d, xs, n, rfl, _⟩ := h
    rfl
  · obtain ⟨p, dx, a, b, c, d, xs, n, rfl, hp, ha, q⟩ := h
    refine ⟨_, (pss_one (ps_ret (pe_chain op_le op_le pe_int (pv 1) (pe_callB call_len_seq (by rfl) T.len PySem.boot_len (pa_cons (pe_fld (pv 0) rfl) pa_nil))))), ?_⟩
    refine ⟨_, rfl, _, _, rfl, rfl, _, rfl, ?_⟩
    by_cases h1 : 1 ≤ n
    · rw [if_pos (decide_eq_true h1)]
      refine ⟨_, rfl, p, C.cn, dx, _, _, rfl, hp, T.cl_Net, T.n_channels, ntF_channels .., b, _, rfl, .inl (SqL.of ha), _, _, rfl, rfl, ?_⟩
      have e : decide (1 ≤ n ∧ n ≤ (xs.length : Int)) = decide (n ≤ (xs.length : Int)) := by
        by_cases h2 : n ≤ (xs.length : Int)
        · rw [decide_eq_true h2, decide_eq_true ⟨h1, h2⟩]
        · rw [decide_eq_false h2, decide_eq_false (fun z => h2 z.2)]
      rw [e] at q
      exact q
    · rw [if_neg (by rw [decide_eq_false h1]; exact Bool.false_ne_true)]
      rw [decide_eq_false (fun z => h1 z.1)] at q
      exact q
abbrev s_Net_process : Stmt := inClass (top 17) 3
theorem sc_Net_process : FnScope ["self", "number"] ["self", "number"] (defScope s_Net_process) := ⟨rfl, rfl, rfl, by decide +kernel, rfl, by decide +kernel, by decide +kernel⟩
theorem ok_Net_process {f : Addr} {fd : FuncData} (F : L2.Fun K "process" "Net.process" s_Net_process f fd) (T : Txt K mg C)  : FnOk P w K mg base L2.CX0 1 f fd ["self", "number"] (sp_Net_process K C TT) := by
  refine F.ok sc_Net_process (fun vs H Q E h => ?_) (fun cdv A outer s0 H vs Q E hr h => ?_)
  · obtain ⟨p, dx, a, b, c, d, xs, k, v, rfl, _⟩ := h
    rfl
  · obtain ⟨p, dx, a, b, c, d, xs, k, v, rfl, hp, ha, hv, q⟩ := h
    refine ⟨_, (pss_one (ps_ret (pe_ix ix_list (pe_fld (pv 0) rfl) (pe_op op_sub (pv 1) pe_int) (fun _ _ => rfl)))), ?_⟩
    refine ⟨_, rfl, p, C.cn, dx, _, _, rfl, hp, T.cl_Net, T.n_processes, ntF_processes .., _, rfl, _, _, rfl, rfl, a, xs, _, v, rfl, rfl, SqL.of ha, ?_, q⟩
    rw [pred_cast]
    exact atI_of hv
abbrev s_Net_channel : Stmt := inClass (top 17) 5
theorem sc_Net_channel : FnScope ["self", "number"] ["self", "number"] (defScope s_Net_channel) := ⟨rfl, rfl, rfl, by decide +kernel, rfl, by decide +kernel, by decide +kernel⟩
theorem ok_Net_channel {f : Addr} {fd : FuncData} (F : L2.Fun K "channel" "Net.channel" s_Net_channel f fd) (T : Txt K mg C)  : FnOk P w K mg base L2.CX0 1 f fd ["self", "number"] (sp_Net_channel K C TT) := by
  refine F.ok sc_Net_channel (fun vs H Q E h => ?_) (fun cdv A outer s0 H vs Q E hr h => ?_)
  · obtain ⟨p, dx, a, b, c, d, xs, k, v, rfl, _⟩ := h
    rfl
  · obtain ⟨p, dx, a, b, c, d, xs, k, v, rfl, hp, ha, hv, q⟩ := h
    refine ⟨_, (pss_one (ps_ret (pe_ix ix_list (pe_fld (pv 0) rfl) (pe_op op_sub (pv 1) pe_int) (fun _ _ => rfl)))), ?_⟩
    refine ⟨_, rfl, p, C.cn, dx, _, _, rfl, hp, T.cl_Net, T.n_channels, ntF_channels .., _, rfl, _, _, rfl, rfl, b, xs, _, v, rfl, rfl, SqL.of ha, ?_, q⟩
    rw [pred_cast]
    exact atI_of hv
end
end Ro
end part_D1
section part_D2
set_option linter.unusedVariables false
set_option maxRecDepth 100000
set_option maxHeartbeats 2000000
namespace Ro
open PySem PySem.Spec PyProof.Rows L2
open Hs09 (Instr Proc Chan stand moves runs can)
def opOf (q : Instr) : Nat := (rowOf q).headD 0
theorem row_get (q : Instr) (k : Nat) (h : k < 4) : ∃ n, (rowOf q)[k]? = some n := by
  have : (rowOf q).length = 4 := by cases q <;> rfl
  exact ⟨_, List.getElem?_eq_getElem (by omega)⟩
theorem row_op (q : Instr) : (rowOf q)[0]? = some (opOf q) := by cases q <;> rfl
theorem vI_at {l : List Nat} {k n : Nat} (h : l[k]? = some n) : atI (vI l) ((k : Nat) : Int) = some (V.int (n : Int)) := atI_of (by rw [vI_get, h]; rfl)
theorem stand_end {s : Hs09.St} {i : Nat} (h : (Hs09.proc s i).prog[(Hs09.proc s i).next]? = none) : stand s i = (1, 0) := by
  unfold stand; rw [h]
theorem stand_other {s : Hs09.St} {i : Nat} {q : Instr} (h : (Hs09.proc s i).prog[(Hs09.proc s i).next]? = some q) (h0 : opOf q ≠ 0) (h1 : opOf q ≠ 1) : stand s i = (0, 0) := by
  unfold stand; rw [h]
  cases q with
  | get x c => exact absurd rfl h0
  | put x c => exact absurd rfl h1
  | _ => rfl
theorem stand_get {s : Hs09.St} {i x c : Nat} (h : (Hs09.proc s i).prog[(Hs09.proc s i).next]? = some (.get x c)) : stand s i = if (Hs09.chan s c).on = [] then (2, c + 1) else (0, 0) := by
  unfold stand; rw [h]
theorem stand_put {s : Hs09.St} {i x c : Nat} (h : (Hs09.proc s i).prog[(Hs09.proc s i).next]? = some (.put x c)) : stand s i = if (Hs09.chan s c).room ≤ (Hs09.chan s c).on.length then (3, c + 1) else (0, 0) := by
  unfold stand; rw [h]
theorem op_cases (q : Instr) : (∃ x c, q = .get x c) ∨ (∃ x c, q = .put x c) ∨ (opOf q ≠ 0 ∧ opOf q ≠ 1) := by
  cases q with
  | get x c => exact .inl ⟨x, c, rfl⟩
  | put x c => exact .inr (.inl ⟨x, c, rfl⟩)
  | _ => exact .inr (.inr ⟨by unfold opOf; simp [rowOf], by unfold opOf; simp [rowOf]⟩)
theorem on_empty {k : Nat} {c : Chan} (w : WC k c) : (c.wrote.length - c.on.length : Nat) = c.wrote.length ↔ c.on = [] := by
  have := w.le
  constructor
  · intro h
    exact List.eq_nil_of_length_eq_zero (by omega)
  · intro h; rw [h]; rfl
theorem ifT {c : Bool} {A B : Prop} (hc : c = true) (h : A) : if c = true then A else B := by
  rw [if_pos hc]; exact h
theorem ifF {c : Bool} {A B : Prop} (hc : c = false) (h : B) : if c = true then A else B := by
  rw [hc, if_neg Bool.false_ne_true]; exact h
theorem dT {a b : Int} (h : a = b) : decide (V.int a = V.int b) = true := by rw [int_dec]; exact decide_eq_true h
theorem dF {a b : Int} (h : a ≠ b) : decide (V.int a = V.int b) = false := by rw [int_dec]; exact decide_eq_false h

theorem stand_zero {s : Hs09.St} {i : Nat} (h : (stand s i).1 = 0 ∨ (stand s i).1 = 1) : (stand s i).2 = 0 := by
  cases e : (Hs09.proc s i).prog[(Hs09.proc s i).next]? with
  | none => rw [stand_end e]
  | some ins =>
    rcases op_cases ins with ⟨x, c, rfl⟩ | ⟨x, c, rfl⟩ | ⟨h0, h1⟩
    · rw [stand_get e] at h ⊢
      split
      · rename_i y; rw [if_pos y] at h; exact absurd h (by show ¬ ((2 : Nat) = 0 ∨ (2 : Nat) = 1); decide)
      · rfl
    · rw [stand_put e] at h ⊢
      split
      · rename_i y; rw [if_pos y] at h; exact absurd h (by show ¬ ((3 : Nat) = 0 ∨ (3 : Nat) = 1); decide)
      · rfl
    · rw [stand_other e h0 h1]
theorem stand_row {s : Hs09.St} {i : Nat} (h : (stand s i).1 = 2 ∨ (stand s i).1 = 3) : ∃ ins, (Hs09.proc s i).prog[(Hs09.proc s i).next]? = some ins ∧ (rowOf ins)[2]? = some (stand s i).2 ∧ (Hs09.proc s i).next < (Hs09.proc s i).prog.length := by
  cases e : (Hs09.proc s i).prog[(Hs09.proc s i).next]? with
  | none => rw [stand_end e] at h; exact absurd h (by show ¬ ((1 : Nat) = 2 ∨ (1 : Nat) = 3); decide)
  | some ins =>
    refine ⟨ins, rfl, ?_, (List.getElem?_eq_some_iff.mp e).1⟩
    rcases op_cases ins with ⟨x, c, rfl⟩ | ⟨x, c, rfl⟩ | ⟨h0, h1⟩
    · rw [stand_get e] at h ⊢
      split
      · rfl
      · rename_i y; rw [if_neg y] at h; exact absurd h (by show ¬ ((0 : Nat) = 2 ∨ (0 : Nat) = 3); decide)
    · rw [stand_put e] at h ⊢
      split
      · rfl
      · rename_i y; rw [if_neg y] at h; exact absurd h (by show ¬ ((0 : Nat) = 2 ∨ (0 : Nat) = 3); decide)
    · rw [stand_other e h0 h1] at h; exact absurd h (by show ¬ ((0 : Nat) = 2 ∨ (0 : Nat) = 3); decide)

def sp_how_stands (K : PySem.W.Frag) (C : Cs) (TT : List NTab) : Sp := fun vs H Q _ => ∃ (L : Lay) (s : Hs09.St) (i : Nat), vs = [.ref (L.addr .net), .ref (L.addr (.pr i))] ∧ NetAt C TT L H s ∧ WF s ∧ i < s.procs.length ∧ Q (.int ((stand s i).1 : Nat)) H
def sp_waited_channel (K : PySem.W.Frag) (C : Cs) (TT : List NTab) : Sp := fun vs H Q _ => ∃ (L : Lay) (s : Hs09.St) (i : Nat), vs = [.ref (L.addr .net), .ref (L.addr (.pr i))] ∧ NetAt C TT L H s ∧ WF s ∧ i < s.procs.length ∧ Q (.int ((stand s i).2 : Nat)) H
section
variable {P : Program} {w : World} {K : PySem.W.Frag} {mg : Str → Option Value} {base : Heap} {C : Cs} {TT : List NTab}
abbrev s_how_stands : Stmt := top 26
theorem sc_how_stands : FnScope ["net", "process", "instruction"] ["net", "process"] (defScope s_how_stands) := ⟨rfl, rfl, rfl, by decide +kernel, rfl, by decide +kernel, by decide +kernel⟩
theorem ok_how_stands {f : Addr} {fd : FuncData} (F : L2.Fun K "how_stands" "how_stands" s_how_stands f fd) (T : Txt K mg C) (m_is_at_end : C8.Met P w K mg base 1 C.cp "is_at_end" (sp_Process_is_at_end K C TT) []) (m_instruction : C8.Met P w K mg base 1 C.cp "instruction" (sp_Process_instruction K C TT) []) (m_is_empty : C8.Met P w K mg base 1 C.cc "is_empty" (sp_Channel_is_empty K C TT) []) (m_is_full : C8.Met P w K mg base 1 C.cc "is_full" (sp_Channel_is_full K C TT) []) (m_channel : C8.Met P w K mg base 1 C.cn "channel" (sp_Net_channel K C TT) []) : FnOk P w K mg base L2.CX0 2 f fd ["net", "process"] (sp_how_stands K C TT) := by
  refine F.ok sc_how_stands (fun vs H Q E h => ?_) (fun cdv A outer s0 H vs Q E hr h => ?_)
  · obtain ⟨L, s, i, rfl, _⟩ := h
    rfl
  · obtain ⟨L, s, i, rfl, N, wf, hi, q⟩ := h
    refine ⟨_, (pss_cons (ps_if (pt_val (C8.pe_mt0 m_is_at_end hr (by decide) (pv 1))) (pss_one (ps_ret (C8.pe_gc rfl T.g_AT_END))) pss_nil) (pss_cons (ps_set (i := 2) sc_how_stands.nd rfl (Or.inl rfl) (C8.pe_mt0 m_instruction hr (by decide) (pv 1))) (pss_cons (ps_if (PW.pt (pw_and (pt_cmpR op_eq (pe_ix ix_list (pv 2) pe_int (fun _ _ => rfl)) (C8.pe_gc rfl T.g_GET) (nomark _)) (pw_and1 (pt_val (C8.pe_mt0 m_is_empty hr (by decide) (C8.pe_mt m_channel hr (by decide) (pv 0) (pa_cons (pe_ix ix_list (pv 2) pe_int (fun _ _ => rfl)) pa_nil))))))) (pss_one (ps_ret (C8.pe_gc rfl T.g_WAITS_TO_READ))) pss_nil) (pss_cons (ps_if (PW.pt (pw_and (pt_cmpR op_eq (pe_ix ix_list (pv 2) pe_int (fun _ _ => rfl)) (C8.pe_gc rfl T.g_PUT) (nomark _)) (pw_and1 (pt_val (C8.pe_mt0 m_is_full hr (by decide) (C8.pe_mt m_channel hr (by decide) (pv 0) (pa_cons (pe_ix ix_list (pv 2) pe_int (fun _ _ => rfl)) pa_nil))))))) (pss_one (ps_ret (C8.pe_gc rfl T.g_WAITS_TO_WRITE))) pss_nil) (pss_one (ps_ret (C8.pe_gc rfl T.g_CAN_STEP))))))), ?_⟩
    have wp := wf.proc hi
    refine ⟨_, rfl, _, _, _, rfl, N.pr hi, prF_no_is_at_end .., _, _, _, _, _, _, _, rfl, N.pr hi, N.pp hi, _, rfl, ?_⟩
    rw [refs_len]
    cases e : (Hs09.proc s i).prog[(Hs09.proc s i).next]? with
    | none =>
      have hn : (Hs09.proc s i).prog.length ≤ (Hs09.proc s i).next := List.getElem?_eq_none_iff.mp e
      rw [if_pos (decide_eq_true (by omega))]
      rw [stand_end e] at q
      exact q
    | some ins =>
      obtain ⟨hn, _⟩ := List.getElem?_eq_some_iff.mp e
      rw [if_neg (by rw [decide_eq_false (by omega)]; exact Bool.false_ne_true)]
      have hrw := N.rw hi e
      refine ⟨_, rfl, _, _, _, rfl, N.pr hi, prF_no_instruction .., _, _, _, _, _, _, _, _, rfl, N.pr hi, N.pp hi, refs_get hn, ?_⟩
      refine ⟨_, rfl, _, _, _, _, rfl, rfl, SqL.of hrw, vI_at (k := 0) (row_op ins), rfl, _, rfl, ?_⟩
      rcases op_cases ins with ⟨x, c, rfl⟩ | ⟨x, c, rfl⟩ | ⟨h0, h1⟩
      · have hc : c < s.chans.length := (wp.ok _ (List.mem_of_getElem? e)).2
        refine ifT (dT rfl) ?_
        refine ⟨_, rfl, _, _, _, rfl, N.net, ntF_no_channel .., _, rfl, _, _, _, _, rfl, rfl, SqL.of hrw, vI_at (k := 2) rfl, _, _, _, _, _, _, _, _, _, rfl, N.net, N.cs, refs_get hc, _, _, _, rfl, N.ch hc, chF_no_is_empty .., _, _, _, _, _, _, _, _, rfl, N.ch hc, N.wr hc, _, rfl, ?_⟩
        have wc := wf.chan hc
        rw [stand_get e] at q
        by_cases z : (Hs09.chan s c).on = []
        · refine ifT (decide_eq_true ?_) ?_
          · rw [vI_len, (on_empty wc).mpr z]
          · rw [if_pos z] at q; exact q
        · refine ifF (decide_eq_false fun y => z ((on_empty wc).mp ?_)) ?_
          · rw [vI_len] at y; omega
          · rw [if_neg z] at q
            refine ⟨_, rfl, _, _, _, _, rfl, rfl, SqL.of hrw, vI_at (k := 0) rfl, rfl, _, rfl, ?_⟩
            exact ifF (dF (by decide)) q
      · have hc : c < s.chans.length := (wp.ok _ (List.mem_of_getElem? e)).2
        refine ifF (dF (show ((1 : Nat) : Int) ≠ 0 by decide)) ?_
        refine ⟨_, rfl, _, _, _, _, rfl, rfl, SqL.of hrw, vI_at (k := 0) rfl, rfl, _, rfl, ?_⟩
        refine ifT (dT rfl) ?_
        refine ⟨_, rfl, _, _, _, rfl, N.net, ntF_no_channel .., _, rfl, _, _, _, _, rfl, rfl, SqL.of hrw, vI_at (k := 2) rfl, _, _, _, _, _, _, _, _, _, rfl, N.net, N.cs, refs_get hc, _, _, _, rfl, N.ch hc, chF_no_is_full .., _, _, _, _, _, _, _, _, rfl, N.ch hc, N.wr hc, _, rfl, ?_⟩
        have wc := wf.chan hc
        have wle := wc.le
        rw [stand_put e] at q
        by_cases z : (Hs09.chan s c).room ≤ (Hs09.chan s c).on.length
        · refine ifT (decide_eq_true ?_) ?_
          · rw [vI_len]; omega
          · rw [if_pos z] at q; exact q
        · refine ifF (decide_eq_false ?_) ?_
          · rw [vI_len]; omega
          · rw [if_neg z] at q; exact q
      · rw [stand_other e h0 h1] at q
        refine ifF (dF (by omega)) ?_
        refine ⟨_, rfl, _, _, _, _, rfl, rfl, SqL.of hrw, vI_at (k := 0) (row_op ins), rfl, _, rfl, ?_⟩
        exact ifF (dF (by omega)) q
abbrev s_waited_channel : Stmt := top 27
theorem sc_waited_channel : FnScope ["net", "process", "standing"] ["net", "process"] (defScope s_waited_channel) := ⟨rfl, rfl, rfl, by decide +kernel, rfl, by decide +kernel, by decide +kernel⟩
theorem ok_waited_channel {f : Addr} {fd : FuncData} (F : L2.Fun K "waited_channel" "waited_channel" s_waited_channel f fd) (T : Txt K mg C) (c_how_stands : C8.Cal P w K mg base 2 "how_stands" (sp_how_stands K C TT) []) (m_instruction : C8.Met P w K mg base 1 C.cp "instruction" (sp_Process_instruction K C TT) []) : FnOk P w K mg base L2.CX0 3 f fd ["net", "process"] (sp_waited_channel K C TT) := by
  refine F.ok sc_waited_channel (fun vs H Q E h => ?_) (fun cdv A outer s0 H vs Q E hr h => ?_)
  · obtain ⟨L, s, i, rfl, _⟩ := h
    rfl
  · obtain ⟨L, s, i, rfl, N, wf, hi, q⟩ := h
    refine ⟨_, (pss_cons (ps_set (i := 2) sc_waited_channel.nd rfl (Or.inl rfl) (C8.pe_c c_how_stands hr (by decide) rfl (pa_cons (pv 0) (pa_cons (pv 1) pa_nil)))) (pss_cons (ps_if (PW.pt (pw_or (pt_cmpR op_eq (pv 2) (C8.pe_gc rfl T.g_WAITS_TO_READ) (nomark _)) (pw_or1 (pt_cmpR op_eq (pv 2) (C8.pe_gc rfl T.g_WAITS_TO_WRITE) (nomark _))))) (pss_one (ps_ret (pe_ix ix_list (C8.pe_mt0 m_instruction hr (by decide) (pv 1)) pe_int (fun _ _ => rfl)))) pss_nil) (pss_one (ps_ret pe_int)))), ?_⟩
    have wp := wf.proc hi
    refine ⟨_, rfl, _, rfl, L, s, i, rfl, N, wf, hi, ?_⟩
    refine ⟨_, rfl, rfl, _, rfl, ?_⟩
    rcases stand_cases s i with h | h | h | h
    · rw [stand_zero (.inl h)] at q
      refine ifF (dF (by omega)) ?_
      exact ⟨_, rfl, rfl, _, rfl, ifF (dF (by omega)) q⟩
    · rw [stand_zero (.inr h)] at q
      refine ifF (dF (by omega)) ?_
      exact ⟨_, rfl, rfl, _, rfl, ifF (dF (by omega)) q⟩
    · obtain ⟨ins, e, h2, hn⟩ := stand_row (.inl h)
      refine ifT (dT (by omega)) ?_
      refine ifT rfl ?_
      exact ⟨_, rfl, _, _, _, rfl, N.pr hi, prF_no_instruction .., _, _, _, _, _, _, _, _, rfl, N.pr hi, N.pp hi, refs_get hn, _, _, _, _, rfl, rfl, SqL.of (N.rw hi e), vI_at (k := 2) h2, q⟩
    · obtain ⟨ins, e, h2, hn⟩ := stand_row (.inr h)
      refine ifF (dF (by omega)) ?_
      refine ⟨_, rfl, rfl, _, rfl, ?_⟩
      refine ifT (dT (by omega)) ?_
      exact ⟨_, rfl, _, _, _, rfl, N.pr hi, prF_no_instruction .., _, _, _, _, _, _, _, _, rfl, N.pr hi, N.pp hi, refs_get hn, _, _, _, _, rfl, rfl, SqL.of (N.rw hi e), vI_at (k := 2) h2, q⟩
end
end Ro
end part_D2
section part_D3
set_option linter.unusedVariables false
set_option maxRecDepth 100000
set_option maxHeartbeats 2000000
namespace Ro
open PySem PySem.Spec PyProof.Rows L2
open Hs09 (Instr Proc Chan stand moves runs can proc chan setProc setChan goesTo onward setReg reg)
/-- register x of process i becomes n -/
def setR (s : Hs09.St) (i x n : Nat) : Hs09.St := setProc s i { proc s i with regs := (proc s i).regs.set x n }
theorem ixN_of {n k : Nat} (h : k < n) : ixN n ((k : Nat) : Int) = some k := by
  unfold ixN
  rw [if_pos (by omega), if_pos (by omega)]
  rfl
theorem reg_at {x : Proc} {r : Nat} (h : r < x.regs.length) : atI (vI x.regs) ((r : Nat) : Int) = some (V.int ((reg x r : Nat) : Int)) := by
  refine vI_at ?_
  unfold reg
  rw [List.getD_eq_getElem?_getD, List.getElem?_eq_getElem h]
  rfl
section
variable {C : Cs} {TT : List NTab} {L : Lay} {H : Hp} {s : Hs09.St} {i x n : Nat}
theorem NetAt.setR (N : NetAt C TT L H s) (hi : i < s.procs.length) : NetAt C TT L (upd H (L.addr (.rg i)) (.lst ((vI (proc s i).regs).set x (V.int (n : Int))))) (setR s i x n) := N.put (cont_rg hi) (cont_reg hi)
theorem NetAt.place (N : NetAt C TT L H s) (hi : i < s.procs.length) : NetAt C TT L (upd H (L.addr (.pr i)) (.ins C.cp (L.dx (.pr i)) (prF (L.addr (.pp i)) ((n + 1 : Nat) : Int) (L.addr (.rg i)) (L.addr (.sd i))))) (setProc s i (goesTo (proc s i) n)) := N.put (cont_pr hi) (cont_place hi)
end
/-- the common start of a promise of these -/
def doP (C : Cs) (TT : List NTab) (L : Lay) (H : Hp) (s : Hs09.St) (i : Nat) : Prop := NetAt C TT L H s ∧ i < s.procs.length ∧ (proc s i).regs.length = 4
def doQ (C : Cs) (TT : List NTab) (L : Lay) (H : Hp) (s' : Hs09.St) (Q : VK) : Prop := ∀ H' : Hp, NetAt C TT L H' s' → Fr L H H' → Q .non H'
def sp_do_set (K : PySem.W.Frag) (C : Cs) (TT : List NTab) : Sp := fun vs H Q _ => ∃ (L : Lay) (s : Hs09.St) (i x n : Nat) (z : V), vs = [.ref (L.addr .net), .ref (L.addr (.pr i)), .int (x : Int), .int (n : Int), z] ∧ doP C TT L H s i ∧ x ≤ 3 ∧ doQ C TT L H (setR s i x n) Q
def sp_do_copy (K : PySem.W.Frag) (C : Cs) (TT : List NTab) : Sp := fun vs H Q _ => ∃ (L : Lay) (s : Hs09.St) (i x y : Nat) (z : V), vs = [.ref (L.addr .net), .ref (L.addr (.pr i)), .int (x : Int), .int (y : Int), z] ∧ doP C TT L H s i ∧ x ≤ 3 ∧ y ≤ 3 ∧ doQ C TT L H (setR s i x (reg (proc s i) y)) Q
def sp_do_plus (K : PySem.W.Frag) (C : Cs) (TT : List NTab) : Sp := fun vs H Q _ => ∃ (L : Lay) (s : Hs09.St) (i x y : Nat) (z : V), vs = [.ref (L.addr .net), .ref (L.addr (.pr i)), .int (x : Int), .int (y : Int), z] ∧ doP C TT L H s i ∧ x ≤ 3 ∧ y ≤ 3 ∧ doQ C TT L H (setR s i x ((reg (proc s i) x + reg (proc s i) y) % 65536)) Q
def sp_do_minus (K : PySem.W.Frag) (C : Cs) (TT : List NTab) : Sp := fun vs H Q _ => ∃ (L : Lay) (s : Hs09.St) (i x y : Nat) (z : V), vs = [.ref (L.addr .net), .ref (L.addr (.pr i)), .int (x : Int), .int (y : Int), z] ∧ doP C TT L H s i ∧ x ≤ 3 ∧ y ≤ 3 ∧ reg (proc s i) y < 65536 ∧ doQ C TT L H (setR s i x ((reg (proc s i) x + 65536 - reg (proc s i) y) % 65536)) Q
def sp_do_times (K : PySem.W.Frag) (C : Cs) (TT : List NTab) : Sp := fun vs H Q _ => ∃ (L : Lay) (s : Hs09.St) (i x y : Nat) (z : V), vs = [.ref (L.addr .net), .ref (L.addr (.pr i)), .int (x : Int), .int (y : Int), z] ∧ doP C TT L H s i ∧ x ≤ 3 ∧ y ≤ 3 ∧ reg (proc s i) x < 65536 ∧ doQ C TT L H (setR s i x ((reg (proc s i) x * reg (proc s i) y) % 65536)) Q
def sp_do_jump (K : PySem.W.Frag) (C : Cs) (TT : List NTab) : Sp := fun vs H Q _ => ∃ (L : Lay) (s : Hs09.St) (i n : Nat) (z z' : V), vs = [.ref (L.addr .net), .ref (L.addr (.pr i)), .int ((n + 1 : Nat) : Int), z, z'] ∧ doP C TT L H s i ∧ doQ C TT L H (setProc s i (goesTo (proc s i) n)) Q
def sp_do_if_zero (K : PySem.W.Frag) (C : Cs) (TT : List NTab) : Sp := fun vs H Q _ => ∃ (L : Lay) (s : Hs09.St) (i x n : Nat) (z : V), vs = [.ref (L.addr .net), .ref (L.addr (.pr i)), .int (x : Int), .int ((n + 1 : Nat) : Int), z] ∧ doP C TT L H s i ∧ x ≤ 3 ∧ doQ C TT L H (if reg (proc s i) x = 0 then setProc s i (goesTo (proc s i) n) else s) Q
def sp_do_if_less (K : PySem.W.Frag) (C : Cs) (TT : List NTab) : Sp := fun vs H Q _ => ∃ (L : Lay) (s : Hs09.St) (i x y n : Nat), vs = [.ref (L.addr .net), .ref (L.addr (.pr i)), .int (x : Int), .int (y : Int), .int ((n + 1 : Nat) : Int)] ∧ doP C TT L H s i ∧ x ≤ 3 ∧ y ≤ 3 ∧ doQ C TT L H (if reg (proc s i) x < reg (proc s i) y then setProc s i (goesTo (proc s i) n) else s) Q
def sp_do_say (K : PySem.W.Frag) (C : Cs) (TT : List NTab) : Sp := fun vs H Q _ => ∃ (L : Lay) (s : Hs09.St) (i x : Nat) (z z' : V), vs = [.ref (L.addr .net), .ref (L.addr (.pr i)), .int (x : Int), z, z'] ∧ doP C TT L H s i ∧ x ≤ 3 ∧ (proc s i).said.length < sizeLine ∧ doQ C TT L H (setProc s i { proc s i with said := (proc s i).said ++ [reg (proc s i) x] }) Q
def sp_do_get (K : PySem.W.Frag) (C : Cs) (TT : List NTab) : Sp := fun vs H Q _ => ∃ (L : Lay) (s : Hs09.St) (i x c v : Nat) (l : List Nat) (z : V), vs = [.ref (L.addr .net), .ref (L.addr (.pr i)), .int (x : Int), .int ((c + 1 : Nat) : Int), z] ∧ doP C TT L H s i ∧ x ≤ 3 ∧ c < s.chans.length ∧ WC s.steps (chan s c) ∧ (chan s c).on = v :: l ∧ doQ C TT L H (setR (setChan s c { chan s c with on := l }) i x v) Q
def sp_do_put (K : PySem.W.Frag) (C : Cs) (TT : List NTab) : Sp := fun vs H Q _ => ∃ (L : Lay) (s : Hs09.St) (i x c : Nat) (z : V), vs = [.ref (L.addr .net), .ref (L.addr (.pr i)), .int (x : Int), .int ((c + 1 : Nat) : Int), z] ∧ doP C TT L H s i ∧ x ≤ 3 ∧ c < s.chans.length ∧ (chan s c).wrote.length < sizeLine ∧ doQ C TT L H (setChan s c { chan s c with on := (chan s c).on ++ [reg (proc s i) x], wrote := (chan s c).wrote ++ [reg (proc s i) x] }) Q
section
variable {P : Program} {w : World} {K : PySem.W.Frag} {mg : Str → Option Value} {base : Heap} {C : Cs} {TT : List NTab}
abbrev s_do_set : Stmt := top 30
theorem sc_do_set : FnScope ["net", "process", "x", "n", "zero"] ["net", "process", "x", "n", "zero"] (defScope s_do_set) := ⟨rfl, rfl, rfl, by decide +kernel, rfl, by decide +kernel, by decide +kernel⟩
theorem ok_do_set {f : Addr} {fd : FuncData} (F : L2.Fun K "do_set" "do_set" s_do_set f fd) (T : Txt K mg C)  : FnOk P w K mg base L2.CX0 1 f fd ["net", "process", "x", "n", "zero"] (sp_do_set K C TT) := by
  refine F.ok sc_do_set (fun vs H Q E h => ?_) (fun cdv A outer s0 H vs Q E hr h => ?_)
  · obtain ⟨L, s, i, x, n, z, rfl, _⟩ := h
    rfl
  · obtain ⟨L, s, i, x, n, z, rfl, ⟨N, hi, h4⟩, hx, q⟩ := h
    refine ⟨_, (pss_one (ps_asg (pv 3) (pg_sub (pe_fld (pv 1) rfl) (pv 2) set_list))), ?_⟩
    refine ⟨_, rfl, _, rfl, _, _, _, _, _, rfl, N.pr hi, T.cl_Process, T.n_registers, prF_registers .., _, rfl, _, _, _, x, rfl, rfl, N.rg hi, ixN_of (by rw [vI_len]; omega), ?_⟩
    exact q _ (N.setR hi) (N.fr (cont_rg hi))
abbrev s_do_copy : Stmt := top 31
theorem sc_do_copy : FnScope ["net", "process", "x", "y", "zero"] ["net", "process", "x", "y", "zero"] (defScope s_do_copy) := ⟨rfl, rfl, rfl, by decide +kernel, rfl, by decide +kernel, by decide +kernel⟩
theorem ok_do_copy {f : Addr} {fd : FuncData} (F : L2.Fun K "do_copy" "do_copy" s_do_copy f fd) (T : Txt K mg C)  : FnOk P w K mg base L2.CX0 1 f fd ["net", "process", "x", "y", "zero"] (sp_do_copy K C TT) := by
  refine F.ok sc_do_copy (fun vs H Q E h => ?_) (fun cdv A outer s0 H vs Q E hr h => ?_)
  · obtain ⟨L, s, i, x, n, z, rfl, _⟩ := h
    rfl
  · obtain ⟨L, s, i, x, y, z, rfl, ⟨N, hi, h4⟩, hx, hy, q⟩ := h
    refine ⟨_, (pss_one (ps_asg (pe_ix ix_list (pe_fld (pv 1) rfl) (pv 3) (fun _ _ => rfl)) (pg_sub (pe_fld (pv 1) rfl) (pv 2) set_list))), ?_⟩
    refine ⟨_, rfl, _, _, _, _, _, rfl, N.pr hi, T.cl_Process, T.n_registers, prF_registers .., _, rfl, _, _, _, _, rfl, rfl, SqL.of (N.rg hi), reg_at (by omega), ?_⟩
    refine ⟨_, rfl, _, _, _, _, _, rfl, N.pr hi, T.cl_Process, T.n_registers, prF_registers .., _, rfl, _, _, _, x, rfl, rfl, N.rg hi, ixN_of (by rw [vI_len]; omega), ?_⟩
    exact q _ (N.setR hi) (N.fr (cont_rg hi))
abbrev s_do_plus : Stmt := top 32
theorem sc_do_plus : FnScope ["net", "process", "x", "y", "zero"] ["net", "process", "x", "y", "zero"] (defScope s_do_plus) := ⟨rfl, rfl, rfl, by decide +kernel, rfl, by decide +kernel, by decide +kernel⟩
theorem ok_do_plus {f : Addr} {fd : FuncData} (F : L2.Fun K "do_plus" "do_plus" s_do_plus f fd) (T : Txt K mg C)  : FnOk P w K mg base L2.CX0 1 f fd ["net", "process", "x", "y", "zero"] (sp_do_plus K C TT) := by
  refine F.ok sc_do_plus (fun vs H Q E h => ?_) (fun cdv A outer s0 H vs Q E hr h => ?_)
  · obtain ⟨L, s, i, x, n, z, rfl, _⟩ := h
    rfl
  · obtain ⟨L, s, i, x, y, z, rfl, ⟨N, hi, h4⟩, hx, hy, q⟩ := h
    refine ⟨_, (pss_one (ps_asg (pe_op op_mod (pe_op op_add (pe_ix ix_list (pe_fld (pv 1) rfl) (pv 2) (fun _ _ => rfl)) (pe_ix ix_list (pe_fld (pv 1) rfl) (pv 3) (fun _ _ => rfl))) (C8.pe_gc rfl T.g_MODULUS)) (pg_sub (pe_fld (pv 1) rfl) (pv 2) set_list))), ?_⟩
    refine ⟨_, rfl, _, _, _, _, _, rfl, N.pr hi, T.cl_Process, T.n_registers, prF_registers .., _, rfl, _, _, _, _, rfl, rfl, SqL.of (N.rg hi), reg_at (by omega), ?_⟩
    refine ⟨_, rfl, _, _, _, _, _, rfl, N.pr hi, T.cl_Process, T.n_registers, prF_registers .., _, rfl, _, _, _, _, rfl, rfl, SqL.of (N.rg hi), reg_at (by omega), _, _, rfl, rfl, ?_⟩
    refine ⟨_, _, rfl, rfl, (by show (0 : Int) < 65536; decide), ?_⟩
    refine ⟨_, rfl, _, _, _, _, _, rfl, N.pr hi, T.cl_Process, T.n_registers, prF_registers .., _, rfl, _, _, _, x, rfl, rfl, N.rg hi, ixN_of (by rw [vI_len]; omega), ?_⟩
    have e : (((reg (proc s i) x : Nat) : Int) + ((reg (proc s i) y : Nat) : Int)) % 65536 = (((reg (proc s i) x + reg (proc s i) y) % 65536 : Nat) : Int) := by omega
    dsimp only
    rw [e]
    exact q _ (N.setR hi) (N.fr (cont_rg hi))
abbrev s_do_minus : Stmt := top 33
theorem sc_do_minus : FnScope ["net", "process", "x", "y", "zero"] ["net", "process", "x", "y", "zero"] (defScope s_do_minus) := ⟨rfl, rfl, rfl, by decide +kernel, rfl, by decide +kernel, by decide +kernel⟩
theorem ok_do_minus {f : Addr} {fd : FuncData} (F : L2.Fun K "do_minus" "do_minus" s_do_minus f fd) (T : Txt K mg C)  : FnOk P w K mg base L2.CX0 1 f fd ["net", "process", "x", "y", "zero"] (sp_do_minus K C TT) := by
  refine F.ok sc_do_minus (fun vs H Q E h => ?_) (fun cdv A outer s0 H vs Q E hr h => ?_)
  · obtain ⟨L, s, i, x, n, z, rfl, _⟩ := h
    rfl
  · obtain ⟨L, s, i, x, y, z, rfl, ⟨N, hi, h4⟩, hx, hy, hb, q⟩ := h
    refine ⟨_, (pss_one (ps_asg (pe_op op_mod (pe_op op_sub (pe_ix ix_list (pe_fld (pv 1) rfl) (pv 2) (fun _ _ => rfl)) (pe_ix ix_list (pe_fld (pv 1) rfl) (pv 3) (fun _ _ => rfl))) (C8.pe_gc rfl T.g_MODULUS)) (pg_sub (pe_fld (pv 1) rfl) (pv 2) set_list))), ?_⟩
    refine ⟨_, rfl, _, _, _, _, _, rfl, N.pr hi, T.cl_Process, T.n_registers, prF_registers .., _, rfl, _, _, _, _, rfl, rfl, SqL.of (N.rg hi), reg_at (by omega), ?_⟩
    refine ⟨_, rfl, _, _, _, _, _, rfl, N.pr hi, T.cl_Process, T.n_registers, prF_registers .., _, rfl, _, _, _, _, rfl, rfl, SqL.of (N.rg hi), reg_at (by omega), _, _, rfl, rfl, ?_⟩
    refine ⟨_, _, rfl, rfl, (by show (0 : Int) < 65536; decide), ?_⟩
    refine ⟨_, rfl, _, _, _, _, _, rfl, N.pr hi, T.cl_Process, T.n_registers, prF_registers .., _, rfl, _, _, _, x, rfl, rfl, N.rg hi, ixN_of (by rw [vI_len]; omega), ?_⟩
    have e : (((reg (proc s i) x : Nat) : Int) - ((reg (proc s i) y : Nat) : Int)) % 65536 = (((reg (proc s i) x + 65536 - reg (proc s i) y) % 65536 : Nat) : Int) := by omega
    dsimp only
    rw [e]
    exact q _ (N.setR hi) (N.fr (cont_rg hi))
abbrev s_do_times : Stmt := top 34
theorem sc_do_times : FnScope ["net", "process", "x", "y", "zero"] ["net", "process", "x", "y", "zero"] (defScope s_do_times) := ⟨rfl, rfl, rfl, by decide +kernel, rfl, by decide +kernel, by decide +kernel⟩
theorem ok_do_times {f : Addr} {fd : FuncData} (F : L2.Fun K "do_times" "do_times" s_do_times f fd) (T : Txt K mg C)  : FnOk P w K mg base L2.CX0 1 f fd ["net", "process", "x", "y", "zero"] (sp_do_times K C TT) := by
  refine F.ok sc_do_times (fun vs H Q E h => ?_) (fun cdv A outer s0 H vs Q E hr h => ?_)
  · obtain ⟨L, s, i, x, n, z, rfl, _⟩ := h
    rfl
  · obtain ⟨L, s, i, x, y, z, rfl, ⟨N, hi, h4⟩, hx, hy, hb, q⟩ := h
    refine ⟨_, (pss_one (ps_asg (pe_op op_mod (pe_op op_mul (pe_ix ix_list (pe_fld (pv 1) rfl) (pv 2) (fun _ _ => rfl)) (pe_ix ix_list (pe_fld (pv 1) rfl) (pv 3) (fun _ _ => rfl))) (C8.pe_gc rfl T.g_MODULUS)) (pg_sub (pe_fld (pv 1) rfl) (pv 2) set_list))), ?_⟩
    refine ⟨_, rfl, _, _, _, _, _, rfl, N.pr hi, T.cl_Process, T.n_registers, prF_registers .., _, rfl, _, _, _, _, rfl, rfl, SqL.of (N.rg hi), reg_at (by omega), ?_⟩
    refine ⟨_, rfl, _, _, _, _, _, rfl, N.pr hi, T.cl_Process, T.n_registers, prF_registers .., _, rfl, _, _, _, _, rfl, rfl, SqL.of (N.rg hi), reg_at (by omega), _, _, rfl, rfl, .inl ⟨by omega, by omega⟩, ?_⟩
    refine ⟨_, _, rfl, rfl, (by show (0 : Int) < 65536; decide), ?_⟩
    refine ⟨_, rfl, _, _, _, _, _, rfl, N.pr hi, T.cl_Process, T.n_registers, prF_registers .., _, rfl, _, _, _, x, rfl, rfl, N.rg hi, ixN_of (by rw [vI_len]; omega), ?_⟩
    have e : (((reg (proc s i) x : Nat) : Int) * ((reg (proc s i) y : Nat) : Int)) % 65536 = (((reg (proc s i) x * reg (proc s i) y) % 65536 : Nat) : Int) := by
      rw [← Int.natCast_mul]; omega
    dsimp only
    rw [e]
    exact q _ (N.setR hi) (N.fr (cont_rg hi))
abbrev s_do_jump : Stmt := top 35
theorem sc_do_jump : FnScope ["net", "process", "i", "zero", "zero_too"] ["net", "process", "i", "zero", "zero_too"] (defScope s_do_jump) := ⟨rfl, rfl, rfl, by decide +kernel, rfl, by decide +kernel, by decide +kernel⟩
theorem ok_do_jump {f : Addr} {fd : FuncData} (F : L2.Fun K "do_jump" "do_jump" s_do_jump f fd) (T : Txt K mg C)  : FnOk P w K mg base L2.CX0 1 f fd ["net", "process", "i", "zero", "zero_too"] (sp_do_jump K C TT) := by
  refine F.ok sc_do_jump (fun vs H Q E h => ?_) (fun cdv A outer s0 H vs Q E hr h => ?_)
  · obtain ⟨L, s, i, n, z, z', rfl, _⟩ := h
    rfl
  · obtain ⟨L, s, i, n, z, z', rfl, ⟨N, hi, h4⟩, q⟩ := h
    refine ⟨_, (pss_one (ps_fld (pv 1) (pv 2) rfl)), ?_⟩
    refine ⟨_, rfl, _, rfl, _, _, _, _, rfl, N.pr hi, T.cl_Process, T.n_place, (by show 4 < 1000; decide), ?_⟩
    rw [prF_put_place]
    exact q _ (N.place hi) (N.fr (cont_pr hi))
abbrev s_do_if_zero : Stmt := top 36
theorem sc_do_if_zero : FnScope ["net", "process", "x", "i", "zero"] ["net", "process", "x", "i", "zero"] (defScope s_do_if_zero) := ⟨rfl, rfl, rfl, by decide +kernel, rfl, by decide +kernel, by decide +kernel⟩
theorem ok_do_if_zero {f : Addr} {fd : FuncData} (F : L2.Fun K "do_if_zero" "do_if_zero" s_do_if_zero f fd) (T : Txt K mg C)  : FnOk P w K mg base L2.CX0 1 f fd ["net", "process", "x", "i", "zero"] (sp_do_if_zero K C TT) := by
  refine F.ok sc_do_if_zero (fun vs H Q E h => ?_) (fun cdv A outer s0 H vs Q E hr h => ?_)
  · obtain ⟨L, s, i, x, n, z, rfl, _⟩ := h
    rfl
  · obtain ⟨L, s, i, x, n, z, rfl, ⟨N, hi, h4⟩, hx, q⟩ := h
    refine ⟨_, (pss_one (ps_if (pt_cmpR op_eq (pe_ix ix_list (pe_fld (pv 1) rfl) (pv 2) (fun _ _ => rfl)) pe_int (nomark _)) (pss_one (ps_fld (pv 1) (pv 3) rfl)) pss_nil)), ?_⟩
    refine ⟨_, rfl, _, _, _, _, _, rfl, N.pr hi, T.cl_Process, T.n_registers, prF_registers .., _, rfl, _, _, _, _, rfl, rfl, SqL.of (N.rg hi), reg_at (by omega), rfl, _, rfl, ?_⟩
    by_cases hz : reg (proc s i) x = 0
    · refine ifT (dT (by omega)) ?_
      rw [if_pos hz] at q
      refine ⟨_, rfl, _, rfl, _, _, _, _, rfl, N.pr hi, T.cl_Process, T.n_place, (by show 4 < 1000; decide), ?_⟩
      rw [prF_put_place]
      exact q _ (N.place hi) (N.fr (cont_pr hi))
    · refine ifF (dF (by omega)) ?_
      rw [if_neg hz] at q
      exact q _ N (Fr.refl _ _)
abbrev s_do_if_less : Stmt := top 37
theorem sc_do_if_less : FnScope ["net", "process", "x", "y", "i"] ["net", "process", "x", "y", "i"] (defScope s_do_if_less) := ⟨rfl, rfl, rfl, by decide +kernel, rfl, by decide +kernel, by decide +kernel⟩
theorem ok_do_if_less {f : Addr} {fd : FuncData} (F : L2.Fun K "do_if_less" "do_if_less" s_do_if_less f fd) (T : Txt K mg C)  : FnOk P w K mg base L2.CX0 1 f fd ["net", "process", "x", "y", "i"] (sp_do_if_less K C TT) := by
  refine F.ok sc_do_if_less (fun vs H Q E h => ?_) (fun cdv A outer s0 H vs Q E hr h => ?_)
  · obtain ⟨L, s, i, x, y, n, rfl, _⟩ := h
    rfl
  · obtain ⟨L, s, i, x, y, n, rfl, ⟨N, hi, h4⟩, hx, hy, q⟩ := h
    refine ⟨_, (pss_one (ps_if (pt_cmpR op_lt (pe_ix ix_list (pe_fld (pv 1) rfl) (pv 2) (fun _ _ => rfl)) (pe_ix ix_list (pe_fld (pv 1) rfl) (pv 3) (fun _ _ => rfl)) (nomark _)) (pss_one (ps_fld (pv 1) (pv 4) rfl)) pss_nil)), ?_⟩
    refine ⟨_, rfl, _, _, _, _, _, rfl, N.pr hi, T.cl_Process, T.n_registers, prF_registers .., _, rfl, _, _, _, _, rfl, rfl, SqL.of (N.rg hi), reg_at (by omega), ?_⟩
    refine ⟨_, rfl, _, _, _, _, _, rfl, N.pr hi, T.cl_Process, T.n_registers, prF_registers .., _, rfl, _, _, _, _, rfl, rfl, SqL.of (N.rg hi), reg_at (by omega), _, _, rfl, rfl, _, rfl, ?_⟩
    by_cases hz : reg (proc s i) x < reg (proc s i) y
    · refine ifT (decide_eq_true (by omega)) ?_
      rw [if_pos hz] at q
      refine ⟨_, rfl, _, rfl, _, _, _, _, rfl, N.pr hi, T.cl_Process, T.n_place, (by show 4 < 1000; decide), ?_⟩
      rw [prF_put_place]
      exact q _ (N.place hi) (N.fr (cont_pr hi))
    · refine ifF (decide_eq_false (by omega)) ?_
      rw [if_neg hz] at q
      exact q _ N (Fr.refl _ _)
abbrev s_do_say : Stmt := top 38
theorem sc_do_say : FnScope ["net", "process", "x", "zero", "zero_too"] ["net", "process", "x", "zero", "zero_too"] (defScope s_do_say) := ⟨rfl, rfl, rfl, by decide +kernel, rfl, by decide +kernel, by decide +kernel⟩
theorem ok_do_say {f : Addr} {fd : FuncData} (F : L2.Fun K "do_say" "do_say" s_do_say f fd) (T : Txt K mg C)  : FnOk P w K mg base L2.CX0 1 f fd ["net", "process", "x", "zero", "zero_too"] (sp_do_say K C TT) := by
  refine F.ok sc_do_say (fun vs H Q E h => ?_) (fun cdv A outer s0 H vs Q E hr h => ?_)
  · obtain ⟨L, s, i, x, z, z', rfl, _⟩ := h
    rfl
  · obtain ⟨L, s, i, x, z, z', rfl, ⟨N, hi, h4⟩, hx, hl, q⟩ := h
    refine ⟨_, (pss_one (ps_expr (pe_bm PySem.F.plainAttrs_list PySem.F.slot_list_append PySem.F.type_list_append mt_append (pe_fld (pv 1) rfl) (pa_cons (pe_ix ix_list (pe_fld (pv 1) rfl) (pv 2) (fun _ _ => rfl)) pa_nil)))), ?_⟩
    refine ⟨_, rfl, _, _, _, _, _, rfl, N.pr hi, T.cl_Process, T.n_said, prF_said .., .inl ⟨rfl, _, SqL.of (N.sd hi)⟩, ?_⟩
    refine ⟨_, rfl, _, _, _, _, _, rfl, N.pr hi, T.cl_Process, T.n_registers, prF_registers .., _, rfl, _, _, _, _, rfl, rfl, SqL.of (N.rg hi), reg_at (by omega), _, _, _, rfl, rfl, N.sd hi, (by rw [vI_len]; exact hl), ?_⟩
    exact q _ (N.put (cont_sd hi) (cont_said hi)) (N.fr (cont_sd hi))
abbrev s_do_get : Stmt := top 28
theorem sc_do_get : FnScope ["net", "process", "x", "c", "zero"] ["net", "process", "x", "c", "zero"] (defScope s_do_get) := ⟨rfl, rfl, rfl, by decide +kernel, rfl, by decide +kernel, by decide +kernel⟩
theorem ok_do_get {f : Addr} {fd : FuncData} (F : L2.Fun K "do_get" "do_get" s_do_get f fd) (T : Txt K mg C) (m_take : C8.Met P w K mg base 1 C.cc "take" (sp_Channel_take K C TT) []) (m_channel : C8.Met P w K mg base 1 C.cn "channel" (sp_Net_channel K C TT) []) : FnOk P w K mg base L2.CX0 2 f fd ["net", "process", "x", "c", "zero"] (sp_do_get K C TT) := by
  refine F.ok sc_do_get (fun vs H Q E h => ?_) (fun cdv A outer s0 H vs Q E hr h => ?_)
  · obtain ⟨L, s, i, x, c, v, l, z, rfl, _⟩ := h
    rfl
  · obtain ⟨L, s, i, x, c, v, l, z, rfl, ⟨N, hi, h4⟩, hx, hc, wc, ho, q⟩ := h
    refine ⟨_, (pss_one (ps_asg (C8.pe_mt0 m_take hr (by decide) (C8.pe_mt m_channel hr (by decide) (pv 0) (pa_cons (pv 3) pa_nil))) (pg_sub (pe_fld (pv 1) rfl) (pv 2) set_list))), ?_⟩
    have hlen : (chan s c).on.length = l.length + 1 := by rw [ho]; rfl
    have hle := wc.le
    have hv : (chan s c).wrote[(chan s c).wrote.length - (chan s c).on.length]? = some v := by
      have e0 : (chan s c).on[0]? = some v := by rw [ho]; rfl
      rw [wc.suf, List.getElem?_drop] at e0
      exact e0
    refine ⟨_, rfl, _, _, _, rfl, N.net, ntF_no_channel .., _, rfl, _, _, _, _, _, _, _, _, _, rfl, N.net, N.cs, refs_get hc, _, _, _, rfl, N.ch hc, chF_no_take .., _, _, _, _, _, _, _, _, _, rfl, N.ch hc, N.wr hc, (by rw [vI_get, hv]; rfl), ?_⟩
    have e1 : (((chan s c).wrote.length - (chan s c).on.length : Nat) : Int) + 1 = (((chan s c).wrote.length - l.length : Nat) : Int) := by omega
    rw [e1]
    have N1 := N.put (cont_ch hc) (cont_take (C := C) (L := L) (l := l) hc)
    have F1 : Fr L H _ := N.fr (o' := .ins C.cc (L.dx (.ch c)) (chF (((chan s c).from_ + 1 : Nat) : Int) (((chan s c).to + 1 : Nat) : Int) ((chan s c).room : Int) (L.addr (.wr c)) (((chan s c).wrote.length - l.length : Nat) : Int))) (cont_ch hc)
    have hi1 : i < (setChan s c { chan s c with on := l }).procs.length := hi
    refine ⟨_, rfl, _, _, _, _, _, rfl, N1.pr hi1, T.cl_Process, T.n_registers, prF_registers .., _, rfl, _, _, _, x, rfl, rfl, N1.rg hi1, ixN_of (by rw [vI_len]; show x < (proc s i).regs.length; omega), ?_⟩
    exact q _ (N1.setR hi1) (F1.trans (N1.fr (cont_rg hi1)))
abbrev s_do_put : Stmt := top 29
theorem sc_do_put : FnScope ["net", "process", "x", "c", "zero"] ["net", "process", "x", "c", "zero"] (defScope s_do_put) := ⟨rfl, rfl, rfl, by decide +kernel, rfl, by decide +kernel, by decide +kernel⟩
theorem ok_do_put {f : Addr} {fd : FuncData} (F : L2.Fun K "do_put" "do_put" s_do_put f fd) (T : Txt K mg C) (m_put : C8.Met P w K mg base 1 C.cc "put" (sp_Channel_put K C TT) []) (m_channel : C8.Met P w K mg base 1 C.cn "channel" (sp_Net_channel K C TT) []) : FnOk P w K mg base L2.CX0 2 f fd ["net", "process", "x", "c", "zero"] (sp_do_put K C TT) := by
  refine F.ok sc_do_put (fun vs H Q E h => ?_) (fun cdv A outer s0 H vs Q E hr h => ?_)
  · obtain ⟨L, s, i, x, c, z, rfl, _⟩ := h
    rfl
  · obtain ⟨L, s, i, x, c, z, rfl, ⟨N, hi, h4⟩, hx, hc, hl, q⟩ := h
    refine ⟨_, (pss_one (ps_expr (C8.pe_mt m_put hr (by decide) (C8.pe_mt m_channel hr (by decide) (pv 0) (pa_cons (pv 3) pa_nil)) (pa_cons (pe_ix ix_list (pe_fld (pv 1) rfl) (pv 2) (fun _ _ => rfl)) pa_nil)))), ?_⟩
    refine ⟨_, rfl, _, _, _, rfl, N.net, ntF_no_channel .., _, rfl, _, _, _, _, _, _, _, _, _, rfl, N.net, N.cs, refs_get hc, _, _, _, rfl, N.ch hc, chF_no_put .., ?_⟩
    refine ⟨_, rfl, _, _, _, _, _, rfl, N.pr hi, T.cl_Process, T.n_registers, prF_registers .., _, rfl, _, _, _, _, rfl, rfl, SqL.of (N.rg hi), reg_at (by omega), _, _, _, _, _, _, _, _, _, rfl, N.ch hc, N.wr hc, (by rw [vI_len]; exact hl), ?_⟩
    exact q _ (N.put (cont_wr hc) (cont_putC hc)) (N.fr (cont_wr hc))
end
end Ro
end part_D3
section part_D4
set_option linter.unusedVariables false
set_option maxRecDepth 100000
set_option maxHeartbeats 2000000
namespace Ro
open PySem PySem.Spec PyProof.Rows L2
open Hs09 (Instr Proc Chan stand moves runs can proc chan setProc setChan goesTo onward setReg reg)
section
variable {s : Hs09.St} {i : Nat}
theorem set2 {x y : Proc} : setProc (setProc s i x) i y = setProc s i y := by
  unfold setProc
  dsimp only
  rw [List.set_set]
theorem setR_on {r v : Nat} (hi : i < s.procs.length) : setR (setProc s i (onward (proc s i))) i r v = setProc s i { onward (proc s i) with regs := (proc s i).regs.set r v } := by
  unfold setR
  rw [proc_set hi, set2]
  rfl
theorem place_on {n : Nat} (hi : i < s.procs.length) : setProc (setProc s i (onward (proc s i))) i (goesTo (proc (setProc s i (onward (proc s i))) i) n) = setProc s i (goesTo (proc s i) n) := by
  rw [proc_set hi, set2]
  rfl
theorem if_set {c : Prop} [Decidable c] {a b : Proc} : (if c then setProc s i a else setProc s i b) = setProc s i (if c then a else b) := by split <;> rfl
theorem mv_reg {ins : Instr} {r v : Nat} (hi : i < s.procs.length) (e : (proc s i).prog[(proc s i).next]? = some ins) (hm : moves s i = setProc { s with steps := s.steps + 1 } i (onward (setReg (proc s i) r v))) :
    { setR (setProc s i (onward (proc s i))) i r (v % 65536) with steps := s.steps + 1 } = moves s i := by
  rw [hm, setR_on hi]
  rfl
end
/-- the promise of the k-th of DOINGS -/
def doSp (K : PySem.W.Frag) (C : Cs) (TT : List NTab) : Nat → Sp
  | 0 => sp_do_get K C TT
  | 1 => sp_do_put K C TT
  | 2 => sp_do_set K C TT
  | 3 => sp_do_copy K C TT
  | 4 => sp_do_plus K C TT
  | 5 => sp_do_minus K C TT
  | 6 => sp_do_times K C TT
  | 7 => sp_do_jump K C TT
  | 8 => sp_do_if_zero K C TT
  | 9 => sp_do_if_less K C TT
  | 10 => sp_do_say K C TT
  | _ => fun _ _ _ _ => False
def sp_do_step (K : PySem.W.Frag) (C : Cs) (TT : List NTab) : Sp := fun vs H Q _ => ∃ (L : Lay) (s : Hs09.St) (i : Nat), vs = [.ref (L.addr .net), .ref (L.addr (.pr i))] ∧ NetAt C TT L H s ∧ WF s ∧ i < s.procs.length ∧ can s i = true ∧ s.steps < 8388608 ∧ doQ C TT L H (moves s i) Q
def sp_do_steps (K : PySem.W.Frag) (C : Cs) (TT : List NTab) : Sp := fun vs H Q _ => ∃ (L : Lay) (s : Hs09.St) (i n : Nat), vs = [.ref (L.addr .net), .ref (L.addr (.pr i)), .int (n : Int)] ∧ NetAt C TT L H s ∧ WF s ∧ i < s.procs.length ∧ s.steps + n ≤ 8388608 ∧ ∀ H', NetAt C TT L H' (runs n s i) → Fr L H H' → Q (.int (((runs n s i).steps - s.steps : Nat) : Int)) H'
theorem op_small (q : Instr) : opOf q < 11 := by cases q <;> (unfold opOf; simp [rowOf])
section
variable {P : Program} {w : World} {K : PySem.W.Frag} {mg : Str → Option Value} {base : Heap} {C : Cs} {TT : List NTab}
abbrev s_do_step : Stmt := top 40
theorem sc_do_step : FnScope ["net", "process", "instruction"] ["net", "process"] (defScope s_do_step) := ⟨rfl, rfl, rfl, by decide +kernel, rfl, by decide +kernel, by decide +kernel⟩
theorem ok_do_step {f : Addr} {fd : FuncData} (F : L2.Fun K "do_step" "do_step" s_do_step f fd) (T : Txt K mg C) (m_instruction : C8.Met P w K mg base 1 C.cp "instruction" (sp_Process_instruction K C TT) []) (hd : ∀ k g, C.dos[k]? = some g → Held P w K mg base 2 g (doSp K C TT k)) : FnOk P w K mg base L2.CX0 3 f fd ["net", "process"] (sp_do_step K C TT) := by
  refine F.ok sc_do_step (fun vs H Q E h => ?_) (fun cdv A outer s0 H vs Q E hr h => ?_)
  · obtain ⟨L, s, i, rfl, _⟩ := h
    rfl
  · obtain ⟨L, s, i, rfl, N, wf, hi, hcan, hst, q⟩ := h
    have wp := wf.proc hi
    have hbig : sizeLine = 16777216 := by decide
    refine ⟨_, (pss_cons (ps_set (i := 2) sc_do_step.nd rfl (Or.inl rfl) (C8.pe_mt0 m_instruction hr (by decide) (pv 1))) (pss_cons (ps_fldaug (pv 1) pe_int in_add) (pss_cons (ps_expr (pe_callE (k := 2) hr (by decide) (pe_ix ix_tup (C8.pe_gc rfl T.g_DOINGS) (pe_ix ix_list (pv 2) pe_int (fun _ _ => rfl)) (fun _ _ => rfl)) (pa_cons (pv 0) (pa_cons (pv 1) (pa_cons (pe_ix ix_list (pv 2) pe_int (fun _ _ => rfl)) (pa_cons (pe_ix ix_list (pv 2) pe_int (fun _ _ => rfl)) (pa_cons (pe_ix ix_list (pv 2) pe_int (fun _ _ => rfl)) pa_nil))))))) (pss_one (ps_fldaug (pv 0) pe_int in_add))))), ?_⟩
    obtain ⟨ins, e⟩ : ∃ ins, (proc s i).prog[(proc s i).next]? = some ins := by
      cases e : (proc s i).prog[(proc s i).next]? with
      | none =>
        unfold can at hcan
        rw [stand_end e] at hcan
        exact absurd hcan (by decide)
      | some ins => exact ⟨ins, rfl⟩
    obtain ⟨hn, _⟩ := List.getElem?_eq_some_iff.mp e
    refine ⟨_, rfl, _, _, _, rfl, N.pr hi, prF_no_instruction .., _, _, _, _, _, _, _, _, rfl, N.pr hi, N.pp hi, refs_get hn, ?_⟩
    refine ⟨_, rfl, _, _, _, _, _, rfl, N.pr hi, T.cl_Process, T.n_place, prF_place .., _, _, rfl, rfl, _, _, N.pr hi, (by show 4 < 1000; decide), ?_⟩
    rw [prF_put_place]
    have e1 : (((proc s i).next + 1 : Nat) : Int) + 1 = (((proc s i).next + 1 + 1 : Nat) : Int) := by omega
    rw [e1]
    have N1 : NetAt C TT L (upd H (L.addr (.pr i)) (.ins C.cp (L.dx (.pr i)) (prF (L.addr (.pp i)) (((proc s i).next + 1 + 1 : Nat) : Int) (L.addr (.rg i)) (L.addr (.sd i))))) (setProc s i (onward (proc s i))) := N.place hi
    have F1 : Fr L H (upd H (L.addr (.pr i)) (.ins C.cp (L.dx (.pr i)) (prF (L.addr (.pp i)) (((proc s i).next + 1 + 1 : Nat) : Int) (L.addr (.rg i)) (L.addr (.sd i))))) := N.fr (cont_pr hi)
    generalize upd H (L.addr (.pr i)) (.ins C.cp (L.dx (.pr i)) (prF (L.addr (.pp i)) (((proc s i).next + 1 + 1 : Nat) : Int) (L.addr (.rg i)) (L.addr (.sd i)))) = H1 at N1 F1
    have hi1 : i < (setProc s i (onward (proc s i))).procs.length := len_set hi
    have p1 : proc (setProc s i (onward (proc s i))) i = onward (proc s i) := proc_set hi
    have hrw : H1 (L.addr (.rw i (proc s i).next)) = some (.lst (vI (rowOf ins))) := N1.rw hi1 (by rw [p1]; exact e)
    obtain ⟨g, hg⟩ : ∃ g, C.dos[opOf ins]? = some g := ⟨_, List.getElem?_eq_getElem (by have := op_small ins; rw [T.n_dos]; exact this)⟩
    have D1 : doP C TT L H1 (setProc s i (onward (proc s i))) i := ⟨N1, hi1, by rw [p1]; exact wp.r4⟩
    have hok := wp.ok ins (List.mem_of_getElem? e)
    have rlt : ∀ r, reg (proc s i) r < 65536 := fun r => reg_lt wp r
    refine ⟨_, rfl, _, _, _, _, rfl, rfl, SqL.of hrw, vI_at (k := 0) (row_op ins), _, _, _, _, rfl, rfl, T.t_DOINGS _, atI_of (by rw [List.getElem?_map, hg]; rfl), g, _, rfl, hd _ _ hg, ?_⟩
    cases ins with
    | set x n =>
      refine ⟨_, rfl, _, rfl, ⟨_, rfl, _, _, _, _, rfl, rfl, SqL.of hrw, vI_at (k := 1) rfl, _, rfl, _, _, _, _, rfl, rfl, SqL.of hrw, vI_at (k := 2) rfl, _, rfl, _, _, _, _, rfl, rfl, SqL.of hrw, vI_at (k := 3) rfl, ?_⟩⟩
      refine ⟨L, _, i, x, n, _, rfl, D1, hok.1, fun H2 N2 F2 => ?_⟩
      have hs2 : { setR (setProc s i (onward (proc s i))) i x (n) with steps := s.steps + 1 } = moves s i := by
        have hm : moves s i = setProc { s with steps := s.steps + 1 } i (onward (setReg (proc s i) x (n))) := by unfold moves; dsimp only; rw [e]
        rw [← mv_reg hi e hm]
        rw [Nat.mod_eq_of_lt (Nat.lt_succ_of_le hok.2)]
      refine ⟨_, rfl, _, _, _, _, _, rfl, N2.net, T.cl_Net, T.n_steps, ntF_steps .., _, _, rfl, rfl, _, _, N2.net, (by show 4 < 1000; decide), ?_⟩
      rw [ntF_put_steps]
      have N3 := N2.put (s' := moves s i) (o' := .ins C.cn (L.dx .net) (ntF (L.addr .ps) (L.addr .cs) ((s.steps + 1 : Nat) : Int) (s.grown : Int))) rfl (by rw [← hs2]; exact cont_steps)
      exact q _ N3 ((F1.trans F2).trans (N2.fr rfl))
    | copy x y =>
      refine ⟨_, rfl, _, rfl, ⟨_, rfl, _, _, _, _, rfl, rfl, SqL.of hrw, vI_at (k := 1) rfl, _, rfl, _, _, _, _, rfl, rfl, SqL.of hrw, vI_at (k := 2) rfl, _, rfl, _, _, _, _, rfl, rfl, SqL.of hrw, vI_at (k := 3) rfl, ?_⟩⟩
      refine ⟨L, _, i, x, y, _, rfl, D1, hok.1, hok.2, fun H2 N2 F2 => ?_⟩
      rw [p1] at N2
      have hs2 : { setR (setProc s i (onward (proc s i))) i x (reg (onward (proc s i)) y) with steps := s.steps + 1 } = moves s i := by
        have hm : moves s i = setProc { s with steps := s.steps + 1 } i (onward (setReg (proc s i) x (reg (proc s i) y))) := by unfold moves; dsimp only; rw [e]
        rw [← mv_reg hi e hm]
        rw [Nat.mod_eq_of_lt (rlt y)]
        rfl
      refine ⟨_, rfl, _, _, _, _, _, rfl, N2.net, T.cl_Net, T.n_steps, ntF_steps .., _, _, rfl, rfl, _, _, N2.net, (by show 4 < 1000; decide), ?_⟩
      rw [ntF_put_steps]
      have N3 := N2.put (s' := moves s i) (o' := .ins C.cn (L.dx .net) (ntF (L.addr .ps) (L.addr .cs) ((s.steps + 1 : Nat) : Int) (s.grown : Int))) rfl (by rw [← hs2]; exact cont_steps)
      exact q _ N3 ((F1.trans F2).trans (N2.fr rfl))
    | plus x y =>
      refine ⟨_, rfl, _, rfl, ⟨_, rfl, _, _, _, _, rfl, rfl, SqL.of hrw, vI_at (k := 1) rfl, _, rfl, _, _, _, _, rfl, rfl, SqL.of hrw, vI_at (k := 2) rfl, _, rfl, _, _, _, _, rfl, rfl, SqL.of hrw, vI_at (k := 3) rfl, ?_⟩⟩
      refine ⟨L, _, i, x, y, _, rfl, D1, hok.1, hok.2, fun H2 N2 F2 => ?_⟩
      rw [p1] at N2
      have hs2 : { setR (setProc s i (onward (proc s i))) i x ((reg (onward (proc s i)) x + reg (onward (proc s i)) y) % 65536) with steps := s.steps + 1 } = moves s i := by
        have hm : moves s i = setProc { s with steps := s.steps + 1 } i (onward (setReg (proc s i) x (reg (proc s i) x + reg (proc s i) y))) := by unfold moves; dsimp only; rw [e]
        rw [← mv_reg hi e hm]
        rfl
      refine ⟨_, rfl, _, _, _, _, _, rfl, N2.net, T.cl_Net, T.n_steps, ntF_steps .., _, _, rfl, rfl, _, _, N2.net, (by show 4 < 1000; decide), ?_⟩
      rw [ntF_put_steps]
      have N3 := N2.put (s' := moves s i) (o' := .ins C.cn (L.dx .net) (ntF (L.addr .ps) (L.addr .cs) ((s.steps + 1 : Nat) : Int) (s.grown : Int))) rfl (by rw [← hs2]; exact cont_steps)
      exact q _ N3 ((F1.trans F2).trans (N2.fr rfl))
    | minus x y =>
      refine ⟨_, rfl, _, rfl, ⟨_, rfl, _, _, _, _, rfl, rfl, SqL.of hrw, vI_at (k := 1) rfl, _, rfl, _, _, _, _, rfl, rfl, SqL.of hrw, vI_at (k := 2) rfl, _, rfl, _, _, _, _, rfl, rfl, SqL.of hrw, vI_at (k := 3) rfl, ?_⟩⟩
      refine ⟨L, _, i, x, y, _, rfl, D1, hok.1, hok.2, (by rw [p1]; exact rlt y), fun H2 N2 F2 => ?_⟩
      rw [p1] at N2
      have hs2 : { setR (setProc s i (onward (proc s i))) i x ((reg (onward (proc s i)) x + 65536 - reg (onward (proc s i)) y) % 65536) with steps := s.steps + 1 } = moves s i := by
        have hm : moves s i = setProc { s with steps := s.steps + 1 } i (onward (setReg (proc s i) x (reg (proc s i) x + 65536 - reg (proc s i) y))) := by unfold moves; dsimp only; rw [e]
        rw [← mv_reg hi e hm]
        rfl
      refine ⟨_, rfl, _, _, _, _, _, rfl, N2.net, T.cl_Net, T.n_steps, ntF_steps .., _, _, rfl, rfl, _, _, N2.net, (by show 4 < 1000; decide), ?_⟩
      rw [ntF_put_steps]
      have N3 := N2.put (s' := moves s i) (o' := .ins C.cn (L.dx .net) (ntF (L.addr .ps) (L.addr .cs) ((s.steps + 1 : Nat) : Int) (s.grown : Int))) rfl (by rw [← hs2]; exact cont_steps)
      exact q _ N3 ((F1.trans F2).trans (N2.fr rfl))
    | times x y =>
      refine ⟨_, rfl, _, rfl, ⟨_, rfl, _, _, _, _, rfl, rfl, SqL.of hrw, vI_at (k := 1) rfl, _, rfl, _, _, _, _, rfl, rfl, SqL.of hrw, vI_at (k := 2) rfl, _, rfl, _, _, _, _, rfl, rfl, SqL.of hrw, vI_at (k := 3) rfl, ?_⟩⟩
      refine ⟨L, _, i, x, y, _, rfl, D1, hok.1, hok.2, (by rw [p1]; exact rlt x), fun H2 N2 F2 => ?_⟩
      rw [p1] at N2
      have hs2 : { setR (setProc s i (onward (proc s i))) i x ((reg (onward (proc s i)) x * reg (onward (proc s i)) y) % 65536) with steps := s.steps + 1 } = moves s i := by
        have hm : moves s i = setProc { s with steps := s.steps + 1 } i (onward (setReg (proc s i) x (reg (proc s i) x * reg (proc s i) y))) := by unfold moves; dsimp only; rw [e]
        rw [← mv_reg hi e hm]
        rfl
      refine ⟨_, rfl, _, _, _, _, _, rfl, N2.net, T.cl_Net, T.n_steps, ntF_steps .., _, _, rfl, rfl, _, _, N2.net, (by show 4 < 1000; decide), ?_⟩
      rw [ntF_put_steps]
      have N3 := N2.put (s' := moves s i) (o' := .ins C.cn (L.dx .net) (ntF (L.addr .ps) (L.addr .cs) ((s.steps + 1 : Nat) : Int) (s.grown : Int))) rfl (by rw [← hs2]; exact cont_steps)
      exact q _ N3 ((F1.trans F2).trans (N2.fr rfl))
    | jump n =>
      refine ⟨_, rfl, _, rfl, ⟨_, rfl, _, _, _, _, rfl, rfl, SqL.of hrw, vI_at (k := 1) rfl, _, rfl, _, _, _, _, rfl, rfl, SqL.of hrw, vI_at (k := 2) rfl, _, rfl, _, _, _, _, rfl, rfl, SqL.of hrw, vI_at (k := 3) rfl, ?_⟩⟩
      refine ⟨L, _, i, n, _, _, rfl, D1, fun H2 N2 F2 => ?_⟩
      rw [place_on hi] at N2
      have hs2 : { setProc s i (goesTo (proc s i) n) with steps := s.steps + 1 } = moves s i := by
        unfold moves; dsimp only; rw [e]; rfl
      refine ⟨_, rfl, _, _, _, _, _, rfl, N2.net, T.cl_Net, T.n_steps, ntF_steps .., _, _, rfl, rfl, _, _, N2.net, (by show 4 < 1000; decide), ?_⟩
      rw [ntF_put_steps]
      have N3 := N2.put (s' := moves s i) (o' := .ins C.cn (L.dx .net) (ntF (L.addr .ps) (L.addr .cs) ((s.steps + 1 : Nat) : Int) (s.grown : Int))) rfl (by rw [← hs2]; exact cont_steps)
      exact q _ N3 ((F1.trans F2).trans (N2.fr rfl))
    | zero x n =>
      refine ⟨_, rfl, _, rfl, ⟨_, rfl, _, _, _, _, rfl, rfl, SqL.of hrw, vI_at (k := 1) rfl, _, rfl, _, _, _, _, rfl, rfl, SqL.of hrw, vI_at (k := 2) rfl, _, rfl, _, _, _, _, rfl, rfl, SqL.of hrw, vI_at (k := 3) rfl, ?_⟩⟩
      refine ⟨L, _, i, x, n, _, rfl, D1, hok.1, fun H2 N2 F2 => ?_⟩
      rw [place_on hi, p1, if_set] at N2
      have hs2 : { setProc s i (if reg (onward (proc s i)) x = 0 then goesTo (proc s i) n else onward (proc s i)) with steps := s.steps + 1 } = moves s i := by
        unfold moves; dsimp only; rw [e]; rfl
      refine ⟨_, rfl, _, _, _, _, _, rfl, N2.net, T.cl_Net, T.n_steps, ntF_steps .., _, _, rfl, rfl, _, _, N2.net, (by show 4 < 1000; decide), ?_⟩
      rw [ntF_put_steps]
      have N3 := N2.put (s' := moves s i) (o' := .ins C.cn (L.dx .net) (ntF (L.addr .ps) (L.addr .cs) ((s.steps + 1 : Nat) : Int) (s.grown : Int))) rfl (by rw [← hs2]; exact cont_steps)
      exact q _ N3 ((F1.trans F2).trans (N2.fr rfl))
    | less x y n =>
      refine ⟨_, rfl, _, rfl, ⟨_, rfl, _, _, _, _, rfl, rfl, SqL.of hrw, vI_at (k := 1) rfl, _, rfl, _, _, _, _, rfl, rfl, SqL.of hrw, vI_at (k := 2) rfl, _, rfl, _, _, _, _, rfl, rfl, SqL.of hrw, vI_at (k := 3) rfl, ?_⟩⟩
      refine ⟨L, _, i, x, y, n, rfl, D1, hok.1, hok.2.1, fun H2 N2 F2 => ?_⟩
      rw [place_on hi, p1, if_set] at N2
      have hs2 : { setProc s i (if reg (onward (proc s i)) x < reg (onward (proc s i)) y then goesTo (proc s i) n else onward (proc s i)) with steps := s.steps + 1 } = moves s i := by
        unfold moves; dsimp only; rw [e]; rfl
      refine ⟨_, rfl, _, _, _, _, _, rfl, N2.net, T.cl_Net, T.n_steps, ntF_steps .., _, _, rfl, rfl, _, _, N2.net, (by show 4 < 1000; decide), ?_⟩
      rw [ntF_put_steps]
      have N3 := N2.put (s' := moves s i) (o' := .ins C.cn (L.dx .net) (ntF (L.addr .ps) (L.addr .cs) ((s.steps + 1 : Nat) : Int) (s.grown : Int))) rfl (by rw [← hs2]; exact cont_steps)
      exact q _ N3 ((F1.trans F2).trans (N2.fr rfl))
    | say x =>
      refine ⟨_, rfl, _, rfl, ⟨_, rfl, _, _, _, _, rfl, rfl, SqL.of hrw, vI_at (k := 1) rfl, _, rfl, _, _, _, _, rfl, rfl, SqL.of hrw, vI_at (k := 2) rfl, _, rfl, _, _, _, _, rfl, rfl, SqL.of hrw, vI_at (k := 3) rfl, ?_⟩⟩
      refine ⟨L, _, i, x, _, _, rfl, D1, hok, (by rw [p1]; show (proc s i).said.length < sizeLine; have := wp.sd; omega), fun H2 N2 F2 => ?_⟩
      rw [p1, set2] at N2
      have hs2 : { setProc s i { onward (proc s i) with said := (onward (proc s i)).said ++ [reg (onward (proc s i)) x] } with steps := s.steps + 1 } = moves s i := by
        unfold moves; dsimp only; rw [e]; rfl
      refine ⟨_, rfl, _, _, _, _, _, rfl, N2.net, T.cl_Net, T.n_steps, ntF_steps .., _, _, rfl, rfl, _, _, N2.net, (by show 4 < 1000; decide), ?_⟩
      rw [ntF_put_steps]
      have N3 := N2.put (s' := moves s i) (o' := .ins C.cn (L.dx .net) (ntF (L.addr .ps) (L.addr .cs) ((s.steps + 1 : Nat) : Int) (s.grown : Int))) rfl (by rw [← hs2]; exact cont_steps)
      exact q _ N3 ((F1.trans F2).trans (N2.fr rfl))
    | get x c =>
      obtain ⟨v, l, ho⟩ : ∃ v l, (chan s c).on = v :: l := by
        cases ho : (chan s c).on with
        | nil =>
          unfold can at hcan
          rw [stand_get e, if_pos ho] at hcan
          exact absurd (show ((2 : Nat) == 0) = true from hcan) (by decide)
        | cons v l => exact ⟨v, l, rfl⟩
      refine ⟨_, rfl, _, rfl, ⟨_, rfl, _, _, _, _, rfl, rfl, SqL.of hrw, vI_at (k := 1) rfl, _, rfl, _, _, _, _, rfl, rfl, SqL.of hrw, vI_at (k := 2) rfl, _, rfl, _, _, _, _, rfl, rfl, SqL.of hrw, vI_at (k := 3) rfl, ?_⟩⟩
      refine ⟨L, _, i, x, c, v, l, _, rfl, D1, hok.1, hok.2, wf.chan hok.2, ho, fun H2 N2 F2 => ?_⟩
      have hs2 : { setR (setChan (setProc s i (onward (proc s i))) c { chan s c with on := l }) i x v with steps := s.steps + 1 } = moves s i := by
        have lt := on_lt (wf.chan hok.2) ho
        unfold moves; dsimp only; rw [e]; dsimp only; rw [ho]
        unfold setR
        have e3 : proc (setChan (setProc s i (onward (proc s i))) c { chan s c with on := l }) i = onward (proc s i) := p1
        rw [e3]
        have e4 : onward (setReg (proc s i) x v) = { onward (proc s i) with regs := (proc s i).regs.set x v } := by
          unfold setReg; rw [Nat.mod_eq_of_lt lt]; rfl
        dsimp only
        rw [e4]
        unfold setChan setProc
        dsimp only
        rw [List.set_set]
        rfl
      refine ⟨_, rfl, _, _, _, _, _, rfl, N2.net, T.cl_Net, T.n_steps, ntF_steps .., _, _, rfl, rfl, _, _, N2.net, (by show 4 < 1000; decide), ?_⟩
      rw [ntF_put_steps]
      have N3 := N2.put (s' := moves s i) (o' := .ins C.cn (L.dx .net) (ntF (L.addr .ps) (L.addr .cs) ((s.steps + 1 : Nat) : Int) (s.grown : Int))) rfl (by rw [← hs2]; exact cont_steps)
      exact q _ N3 ((F1.trans F2).trans (N2.fr rfl))
    | put x c =>
      have hroom : ¬ (chan s c).room ≤ (chan s c).on.length := fun z => by
        unfold can at hcan
        rw [stand_put e, if_pos z] at hcan
        exact absurd (show ((3 : Nat) == 0) = true from hcan) (by decide)
      refine ⟨_, rfl, _, rfl, ⟨_, rfl, _, _, _, _, rfl, rfl, SqL.of hrw, vI_at (k := 1) rfl, _, rfl, _, _, _, _, rfl, rfl, SqL.of hrw, vI_at (k := 2) rfl, _, rfl, _, _, _, _, rfl, rfl, SqL.of hrw, vI_at (k := 3) rfl, ?_⟩⟩
      refine ⟨L, _, i, x, c, _, rfl, D1, hok.1, hok.2, (by show (chan s c).wrote.length < sizeLine; have := (wf.chan hok.2).wl; omega), fun H2 N2 F2 => ?_⟩
      rw [p1] at N2
      have hs2 : { setChan (setProc s i (onward (proc s i))) c { chan s c with on := (chan s c).on ++ [reg (onward (proc s i)) x], wrote := (chan s c).wrote ++ [reg (onward (proc s i)) x] } with steps := s.steps + 1 } = moves s i := by
        unfold moves; dsimp only; rw [e]; dsimp only; rw [if_neg hroom]; rfl
      refine ⟨_, rfl, _, _, _, _, _, rfl, N2.net, T.cl_Net, T.n_steps, ntF_steps .., _, _, rfl, rfl, _, _, N2.net, (by show 4 < 1000; decide), ?_⟩
      rw [ntF_put_steps]
      have N3 := N2.put (s' := moves s i) (o' := .ins C.cn (L.dx .net) (ntF (L.addr .ps) (L.addr .cs) ((s.steps + 1 : Nat) : Int) (s.grown : Int))) rfl (by rw [← hs2]; exact cont_steps)
      exact q _ N3 ((F1.trans F2).trans (N2.fr rfl))
abbrev s_do_steps : Stmt := top 41
theorem sc_do_steps : FnScope ["net", "process", "most", "done"] ["net", "process", "most"] (defScope s_do_steps) := ⟨rfl, rfl, rfl, by decide +kernel, rfl, by decide +kernel, by decide +kernel⟩
theorem ok_do_steps {f : Addr} {fd : FuncData} (F : L2.Fun K "do_steps" "do_steps" s_do_steps f fd) (T : Txt K mg C) (c_do_step : C8.Cal P w K mg base 3 "do_step" (sp_do_step K C TT) []) (c_how_stands : C8.Cal P w K mg base 2 "how_stands" (sp_how_stands K C TT) []) : FnOk P w K mg base L2.CX0 4 f fd ["net", "process", "most"] (sp_do_steps K C TT) := by
  refine F.ok sc_do_steps (fun vs H Q E h => ?_) (fun cdv A outer s0 H vs Q E hr h => ?_)
  · obtain ⟨L, s, i, n, rfl, _⟩ := h
    rfl
  · obtain ⟨L, s, i, n, rfl, N, wf, hi, hst, q⟩ := h
    refine ⟨_, (pss_cons (ps_set (i := 3) sc_do_steps.nd rfl (Or.inl rfl) pe_int) (pss_cons (ps_while PassesOwn.never (PW.pt (pw_and (pt_cmpR op_lt (pv 3) (pv 2) (nomark _)) (pw_and1 (pt_cmpR op_eq (C8.pe_c c_how_stands hr (by decide) rfl (pa_cons (pv 0) (pa_cons (pv 1) pa_nil))) (C8.pe_gc rfl T.g_CAN_STEP) (nomark _))))) (pss_cons (ps_expr (C8.pe_c c_do_step hr (by decide) rfl (pa_cons (pv 0) (pa_cons (pv 1) pa_nil)))) (pss_one (ps_aug (i := 3) sc_do_steps.nd rfl (Or.inl rfl) pe_int ip_add)))) (pss_one (ps_ret (pv 3))))), ?_⟩
    refine ⟨fun m σ H' => ∃ k : Nat, σ = [some (.ref (L.addr .net)), some (.ref (L.addr (.pr i))), some (.int (n : Int)), some (.int (k : Int))] ∧ k ≤ n ∧ m = n - k ∧ NetAt C TT L H' (runs k s i) ∧ Fr L H H' ∧ (runs k s i).steps = s.steps + k, ⟨n, 0, rfl, Nat.zero_le _, rfl, N, Fr.refl _ _, rfl⟩, ?_⟩
    rintro m σ H' ⟨k, rfl, hk, rfl, N', F', hs'⟩
    obtain ⟨wf', hp', -, -, -, -⟩ := runs_ok k wf hi
    have hi' : i < (runs k s i).procs.length := by rw [hp']; exact hi
    refine ⟨_, rfl, _, rfl, _, _, rfl, rfl, _, rfl, ?_⟩
    by_cases hlt : k < n
    · refine ifT (decide_eq_true (by omega)) ?_
      refine ⟨_, rfl, _, rfl, L, _, i, rfl, N', wf', hi', rfl, _, rfl, ?_⟩
      by_cases hc : can (runs k s i) i = true
      · have hc0 : (stand (runs k s i) i).1 = 0 := by unfold can at hc; exact beq_iff_eq.mp hc
        refine ifT (dT (by rw [hc0]; rfl)) ?_
        refine ⟨fun σ' H'' => ∃ k' : Nat, σ' = [some (.ref (L.addr .net)), some (.ref (L.addr (.pr i))), some (.int (n : Int)), some (.int (k' : Int))] ∧ k' = k + 1 ∧ NetAt C TT L H'' (runs k' s i) ∧ Fr L H H'' ∧ (runs k' s i).steps = s.steps + k', ?_, ?_⟩
        · rintro σ' H'' ⟨k', rfl, rfl, N2, F2, h2⟩
          exact ⟨n - (k + 1), by omega, k + 1, rfl, by omega, rfl, N2, F2, h2⟩
        · refine ⟨_, rfl, _, rfl, L, _, i, rfl, N', wf', hi', hc, by omega, fun H2 N2 F2 => ?_⟩
          refine ⟨_, rfl, _, _, rfl, rfl, ?_⟩
          have es : runs (k + 1) s i = moves (runs k s i) i := by rw [runs_succ, if_pos hc]
          refine ⟨k + 1, ?_, rfl, by rw [es]; exact N2, F'.trans F2, by rw [es, moves_steps hc, hs']; rfl⟩
          show [some (V.ref (L.addr .net)), some (V.ref (L.addr (.pr i))), some (V.int (n : Int)), some (V.int ((k : Int) + 1))] = _
          rw [Int.natCast_add]; rfl
      · have hc0 : (stand (runs k s i) i).1 ≠ 0 := fun z => hc (by unfold can; exact beq_iff_eq.mpr z)
        refine ifF (dF (by omega)) ?_
        have er : runs n s i = runs k s i := by
          have := runs_add hc (n - k)
          rw [show k + (n - k) = n by omega] at this
          exact this
        refine ⟨_, rfl, ?_⟩
        have := q H' (by rw [er]; exact N') F'
        rw [er, hs'] at this
        rw [show s.steps + k - s.steps = k by omega] at this
        exact this
    · refine ifF (decide_eq_false (by omega)) ?_
      have : k = n := by omega
      subst this
      refine ⟨_, rfl, ?_⟩
      have := q H' N' F'
      rw [hs', show s.steps + k - s.steps = k by omega] at this
      exact this
end
end Ro
end part_D4
section part_D5
set_option linter.unusedVariables false
set_option maxRecDepth 100000
set_option maxHeartbeats 2000000
namespace Ro
open PySem PySem.Spec PyProof.Rows L2
open Hs09 (Instr Proc Chan stand moves runs can proc chan setProc setChan goesTo onward setReg reg stuck round all)
theorem tYes_if {σ : L2.St} {H : Hp} {A B : Hp → Prop} (h : A H) : tYes σ H (fun b H3 => if b = true then A H3 else B H3) := by
  show if true = true then A H else B H
  rw [if_pos rfl]; exact h
theorem inV_int (k : Nat) : ∀ l : List Nat, inV (.int (k : Int)) (vI l) = decide (k ∈ l)
  | [] => rfl
  | a :: l => by
    show (((a : Nat) : Int) == ((k : Nat) : Int) || inV (.int (k : Int)) (vI l)) = decide (k ∈ a :: l)
    rw [inV_int k l]
    by_cases e : a = k
    · subst e
      rw [beq_self_eq_true, Bool.true_or, decide_eq_true List.mem_cons_self]
    · have h1 : (((a : Nat) : Int) == ((k : Nat) : Int)) = false := beq_eq_false_iff_ne.mpr (by omega)
      rw [h1, Bool.false_or]
      by_cases m : k ∈ l
      · rw [decide_eq_true m, decide_eq_true (List.mem_cons_of_mem _ m)]
      · rw [decide_eq_false m, decide_eq_false (fun z => (List.mem_cons.mp z).elim (fun y => e y.symm) m)]
theorem vI_flat : ∀ l : List Nat, (vI l).all flatV = true
  | [] => rfl
  | _ :: l => vI_flat l
theorem refs_some {f : Nat → Addr} {n i : Nat} {x : V} (h : (refs f n)[i]? = some x) : i < n ∧ x = V.ref (f i) := by
  obtain ⟨l, _⟩ := List.getElem?_eq_some_iff.mp h
  rw [refs_len] at l
  rw [refs_get l] at h
  exact ⟨l, (Option.some.inj h).symm⟩
theorem take_more {α : Type} {l : List α} {i : Nat} {x : α} (h : l[i]? = some x) : l.take (i + 1) = l.take i ++ [x] := by
  obtain ⟨hl, e⟩ := List.getElem?_eq_some_iff.mp h
  rw [List.take_add_one, h]; rfl
theorem stands_len (s : Hs09.St) : (stands s).length = s.procs.length := by unfold stands Hs09.all; rw [List.length_map, List.length_range]
theorem stands_get {s : Hs09.St} {i : Nat} (h : i < s.procs.length) : (stands s)[i]? = some (stand s i).1 := by
  unfold stands Hs09.all
  rw [List.getElem?_map, List.getElem?_range h]; rfl
def sp_how_all_stand (K : PySem.W.Frag) (C : Cs) (TT : List NTab) : Sp := fun vs H Q _ => ∃ (L : Lay) (s : Hs09.St), vs = [.ref (L.addr .net)] ∧ NetAt C TT L H s ∧ WF s ∧ ∀ H', Same H H' → Q (.int ((stuck s : Nat) : Int)) H'
/-- the channels waited for among the first k processes -/
def waitsTo (s : Hs09.St) (k : Nat) : List Nat := ((List.range k).filter fun p => (stand s p).1 == 3).map fun p => (stand s p).2
theorem waitsTo_succ (s : Hs09.St) (k : Nat) : waitsTo s (k + 1) = if (stand s k).1 = 3 then waitsTo s k ++ [(stand s k).2] else waitsTo s k := by
  unfold waitsTo
  rw [List.range_succ, List.filter_append, List.map_append]
  by_cases h : (stand s k).1 = 3
  · rw [if_pos h, List.filter_cons_of_pos (by exact beq_iff_eq.mpr h)]; rfl
  · rw [if_neg h, List.filter_cons_of_neg (by rw [beq_iff_eq]; exact h)]; exact List.append_nil _
theorem waitsTo_len (s : Hs09.St) (k : Nat) : (waitsTo s k).length ≤ k := by
  unfold waitsTo
  rw [List.length_map]
  exact Nat.le_trans (List.length_filter_le _ _) (by rw [List.length_range]; exact Nat.le_refl _)
def sp_channels_waited_to_write (K : PySem.W.Frag) (C : Cs) (TT : List NTab) : Sp := fun vs H Q _ => ∃ (L : Lay) (s : Hs09.St), vs = [.ref (L.addr .net)] ∧ NetAt C TT L H s ∧ WF s ∧ ∀ H' p, H p = none → Same H H' → H' p = some (.lst (vI (waits s))) → Q (.ref p) H'
def sp_do_round (K : PySem.W.Frag) (C : Cs) (TT : List NTab) : Sp := fun vs H Q _ => ∃ (L : Lay) (s : Hs09.St) (n : Nat), vs = [.ref (L.addr .net), .int (n : Int)] ∧ NetAt C TT L H s ∧ WF s ∧ s.steps + n * 6 ≤ 8388608 ∧ ∀ H', NetAt C TT L H' (round n (all s) s) → Fr L H H' → Q .non H'
section
variable {P : Program} {w : World} {K : PySem.W.Frag} {mg : Str → Option Value} {base : Heap} {C : Cs} {TT : List NTab}
abbrev s_how_all_stand : Stmt := top 43
theorem sc_how_all_stand : FnScope ["net", "standings", "standing", "process"] ["net"] (defScope s_how_all_stand) := ⟨rfl, rfl, rfl, by decide +kernel, rfl, by decide +kernel, by decide +kernel⟩
theorem ok_how_all_stand {f : Addr} {fd : FuncData} (F : L2.Fun K "how_all_stand" "how_all_stand" s_how_all_stand f fd) (T : Txt K mg C) (c_how_stands : C8.Cal P w K mg base 2 "how_stands" (sp_how_stands K C TT) []) : FnOk P w K mg base L2.CX0 3 f fd ["net"] (sp_how_all_stand K C TT) := by
  refine F.ok sc_how_all_stand (fun vs H Q E h => ?_) (fun cdv A outer s0 H vs Q E hr h => ?_)
  · obtain ⟨L, s, rfl, _⟩ := h
    rfl
  · obtain ⟨L, s, rfl, N, wf, q⟩ := h
    refine ⟨_, (pss_cons (ps_setLc (i := 1) (own := [("process", 3)]) (g := gName 3) (te := (tCall (sp_how_stands K C TT) [] C8.E0 (tCons (tVar 0) (tCons (tVar 3) tNil)))) (tt := tYes) rfl sc_how_all_stand.nd rfl rfl (sw_true rfl rfl rfl (by decide +kernel)) (pi_list (pe_fld (pv 0) rfl)) (blkOk_by (own := [("process", 3)]) (N := ["net", "standings", "standing", "process"]) (sc := defScope s_how_all_stand) (by decide +kernel)) (fun _ _ _ _ _ => pg_name (i := 3) sc_how_all_stand.nd rfl (Or.inl rfl)) (fun _ _ _ _ _ => pts_nil) (fun _ _ _ _ _ => (C8.pe_c c_how_stands hr (by decide) rfl (pa_cons (pv 0) (pa_cons (pv 3) pa_nil))))) (pss_cons (ps_for PassesOwn.never rfl (pi_tup (pe_tup (pa_cons (C8.pe_gc rfl T.g_CAN_STEP) (pa_cons (C8.pe_gc rfl T.g_WAITS_TO_WRITE) (pa_cons (C8.pe_gc rfl T.g_WAITS_TO_READ) pa_nil))))) (pg_name (i := 2) sc_how_all_stand.nd rfl (Or.inl rfl)) (pss_one (ps_if (pt_cmpR op_in_seq (pv 2) (pv 1) (by rfl)) (pss_one (ps_ret (pv 2))) pss_nil))) (pss_one (ps_ret (C8.pe_gc rfl T.g_AT_END))))), ?_⟩
    have hbig : sizeLine = 16777216 := by decide
    have hnp := wf.np
    refine ⟨_, rfl, _, _, _, _, _, rfl, N.net, T.cl_Net, T.n_processes, ntF_processes .., _, rfl, ⟨_, SqL.of N.ps⟩, fun D hD => lc_list (K := K) (a := L.addr .ps) (xs := refs (fun i => L.addr (.pr i)) s.procs.length) (fun k H' => H' = upd H D (.lst (vI ((stands s).take k)))) rfl ?_ ?_ ?_⟩
    · rintro k H' _ rfl
      exact SqL.of ((N.new hD).ps)
    · rintro k x H' hx rfl
      obtain ⟨hk, rfl⟩ := refs_some hx
      refine ⟨rfl, tYes_if ?_⟩
      refine ⟨_, rfl, _, rfl, L, s, k, rfl, N.new hD, wf, hk, _, upd_same, ?_, ?_⟩
      · rw [vI_len, List.length_take]; omega
      · rw [upd_upd, take_more (stands_get hk), vI_app]; rfl
    · rintro H' rfl
      rw [refs_len, ← stands_len s, List.take_length]
      refine ⟨(by show 3 ≤ sizeLine; decide), fun p hp => ?_⟩
      have nDp : D ≠ p := fun z => by rw [z, upd_same] at hp; cases hp
      refine ⟨p, rfl, ⟨_, SqT.of upd_same⟩, for_tup (K := K) (a := p) (xs := [.int 0, .int 3, .int 2]) (fun k σ H' => (∃ v, σ = [some (.ref (L.addr .net)), some (.ref D), v, none]) ∧ H' = upd (upd H D (.lst (vI (stands s)))) p (.tup [.int 0, .int 3, .int 2]) ∧ (1 ≤ k → 0 ∉ stands s) ∧ (2 ≤ k → 3 ∉ stands s) ∧ (3 ≤ k → 2 ∉ stands s))
        ⟨⟨none, rfl⟩, rfl, by omega, by omega, by omega⟩ ?_ ?_ ?_⟩
      · rintro k σ H' _ ⟨_, rfl, _⟩
        exact SqT.of upd_same
      · rintro k x σ H' hx ⟨⟨v, rfl⟩, rfl, h1, h2, h3⟩
        have hD2 : upd (upd H D (.lst (vI (stands s)))) p (.tup [.int 0, .int 3, .int 2]) D = some (.lst (vI (stands s))) := by rw [upd_ne nDp]; exact upd_same
        have sm : Same H (upd (upd H D (.lst (vI (stands s)))) p (.tup [.int 0, .int 3, .int 2])) := (same_new hD).trans (same_new hp)
        have hk : k = 0 ∨ k = 1 ∨ k = 2 := by
          obtain ⟨l, _⟩ := List.getElem?_eq_some_iff.mp hx
          have : k < 3 := l
          omega
        rcases hk with rfl | rfl | rfl
        · obtain rfl : V.int 0 = x := Option.some.inj hx
          refine ⟨_, rfl, _, rfl, _, _, rfl, .inl (SqL.of hD2), rfl, vI_flat _, _, rfl, ?_⟩
          by_cases m : 0 ∈ stands s
          · refine ifT ((inV_int 0 _).trans (decide_eq_true m)) ⟨_, rfl, ?_⟩
            have := q _ sm
            rw [stuck_is, if_pos m] at this
            exact this
          · exact ifF ((inV_int 0 _).trans (decide_eq_false m)) ⟨⟨_, rfl⟩, rfl, fun _ => m, by omega, by omega⟩
        · obtain rfl : V.int 3 = x := Option.some.inj hx
          have m0 := h1 (by omega)
          refine ⟨_, rfl, _, rfl, _, _, rfl, .inl (SqL.of hD2), rfl, vI_flat _, _, rfl, ?_⟩
          by_cases m : 3 ∈ stands s
          · refine ifT ((inV_int 3 _).trans (decide_eq_true m)) ⟨_, rfl, ?_⟩
            have := q _ sm
            rw [stuck_is, if_neg m0, if_pos m] at this
            exact this
          · exact ifF ((inV_int 3 _).trans (decide_eq_false m)) ⟨⟨_, rfl⟩, rfl, fun _ => m0, fun _ => m, by omega⟩
        · obtain rfl : V.int 2 = x := Option.some.inj hx
          have m0 := h1 (by omega)
          have m3 := h2 (by omega)
          refine ⟨_, rfl, _, rfl, _, _, rfl, .inl (SqL.of hD2), rfl, vI_flat _, _, rfl, ?_⟩
          by_cases m : 2 ∈ stands s
          · refine ifT ((inV_int 2 _).trans (decide_eq_true m)) ⟨_, rfl, ?_⟩
            have := q _ sm
            rw [stuck_is, if_neg m0, if_neg m3, if_pos m] at this
            exact this
          · exact ifF ((inV_int 2 _).trans (decide_eq_false m)) ⟨⟨_, rfl⟩, rfl, fun _ => m0, fun _ => m3, fun _ => m⟩
      · rintro σ H' ⟨⟨v, rfl⟩, rfl, h1, h2, h3⟩
        have sm : Same H (upd (upd H D (.lst (vI (stands s)))) p (.tup [.int 0, .int 3, .int 2])) := (same_new hD).trans (same_new hp)
        have := q _ sm
        rw [stuck_is, if_neg (h1 (by show 1 ≤ 3; omega)), if_neg (h2 (by show 2 ≤ 3; omega)), if_neg (h3 (by show 3 ≤ 3; omega))] at this
        exact this
abbrev s_channels_waited_to_write : Stmt := top 44
theorem sc_channels_waited_to_write : FnScope ["net", "process"] ["net"] (defScope s_channels_waited_to_write) := ⟨rfl, rfl, rfl, by decide +kernel, rfl, by decide +kernel, by decide +kernel⟩
theorem ok_channels_waited_to_write {f : Addr} {fd : FuncData} (F : L2.Fun K "channels_waited_to_write" "channels_waited_to_write" s_channels_waited_to_write f fd) (T : Txt K mg C) (c_waited_channel : C8.Cal P w K mg base 3 "waited_channel" (sp_waited_channel K C TT) []) (c_how_stands : C8.Cal P w K mg base 2 "how_stands" (sp_how_stands K C TT) []) : FnOk P w K mg base L2.CX0 4 f fd ["net"] (sp_channels_waited_to_write K C TT) := by
  refine F.ok sc_channels_waited_to_write (fun vs H Q E h => ?_) (fun cdv A outer s0 H vs Q E hr h => ?_)
  · obtain ⟨L, s, rfl, _⟩ := h
    rfl
  · obtain ⟨L, s, rfl, N, wf, q⟩ := h
    refine ⟨_, (pss_one (ps_ret (pe_lc (own := [("process", 1)]) (g := gName 1) (te := (tCall (sp_waited_channel K C TT) [] C8.E0 (tCons (tVar 0) (tCons (tVar 1) tNil)))) rfl sc_channels_waited_to_write.nd (pi_list (pe_fld (pv 0) rfl)) (blkOk_by (own := [("process", 1)]) (N := ["net", "process"]) (sc := defScope s_channels_waited_to_write) (by decide +kernel)) (fun _ _ _ _ _ => pg_name (i := 1) sc_channels_waited_to_write.nd rfl (Or.inl rfl)) (fun _ _ _ _ _ => pts_one (pt_cmpR op_eq (C8.pe_c c_how_stands hr (by decide) rfl (pa_cons (pv 0) (pa_cons (pv 1) pa_nil))) (C8.pe_gc rfl T.g_WAITS_TO_WRITE) (nomark _))) (fun _ _ _ _ _ => (C8.pe_c c_waited_channel hr (by decide) rfl (pa_cons (pv 0) (pa_cons (pv 1) pa_nil))))))), ?_⟩
    have hbig : sizeLine = 16777216 := by decide
    have hnp := wf.np
    refine ⟨_, rfl, _, _, _, _, _, rfl, N.net, T.cl_Net, T.n_processes, ntF_processes .., _, rfl, ⟨_, SqL.of N.ps⟩, fun D hD => lc_list (K := K) (a := L.addr .ps) (xs := refs (fun i => L.addr (.pr i)) s.procs.length) (fun k H' => H' = upd H D (.lst (vI (waitsTo s k)))) rfl ?_ ?_ ?_⟩
    · rintro k H' _ rfl
      exact SqL.of ((N.new hD).ps)
    · rintro k x H' hx rfl
      obtain ⟨hk, rfl⟩ := refs_some hx
      refine ⟨rfl, _, rfl, _, rfl, L, s, k, rfl, N.new hD, wf, hk, rfl, _, rfl, ?_⟩
      by_cases h3 : (stand s k).1 = 3
      · refine ifT (dT (by rw [h3]; rfl)) ?_
        refine ⟨_, rfl, _, rfl, L, s, k, rfl, N.new hD, wf, hk, _, upd_same, ?_, ?_⟩
        · rw [vI_len]
          have := waitsTo_len s k
          omega
        · rw [upd_upd, waitsTo_succ, if_pos h3, vI_app]; rfl
      · refine ifF (dF (by omega)) ?_
        rw [waitsTo_succ, if_neg h3]
    · rintro H' rfl
      rw [refs_len]
      exact q _ D hD (same_new hD) upd_same
abbrev s_do_round : Stmt := top 46
theorem sc_do_round : FnScope ["net", "most", "process"] ["net", "most"] (defScope s_do_round) := ⟨rfl, rfl, rfl, by decide +kernel, rfl, by decide +kernel, by decide +kernel⟩
theorem ok_do_round {f : Addr} {fd : FuncData} (F : L2.Fun K "do_round" "do_round" s_do_round f fd) (T : Txt K mg C) (c_do_steps : C8.Cal P w K mg base 4 "do_steps" (sp_do_steps K C TT) []) : FnOk P w K mg base L2.CX0 5 f fd ["net", "most"] (sp_do_round K C TT) := by
  refine F.ok sc_do_round (fun vs H Q E h => ?_) (fun cdv A outer s0 H vs Q E hr h => ?_)
  · obtain ⟨L, s, n, rfl, _⟩ := h
    rfl
  · obtain ⟨L, s, n, rfl, N, wf, hst, q⟩ := h
    refine ⟨_, (pss_one (ps_for PassesOwn.never rfl (pi_list (pe_fld (pv 0) rfl)) (pg_name (i := 2) sc_do_round.nd rfl (Or.inl rfl)) (pss_one (ps_expr (C8.pe_c c_do_steps hr (by decide) rfl (pa_cons (pv 0) (pa_cons (pv 2) (pa_cons (pv 1) pa_nil)))))))), ?_⟩
    have hnp := wf.np
    refine ⟨_, rfl, _, _, _, _, _, rfl, N.net, T.cl_Net, T.n_processes, ntF_processes .., _, rfl, ⟨_, SqL.of N.ps⟩, for_list (K := K) (a := L.addr .ps) (xs := refs (fun i => L.addr (.pr i)) s.procs.length) (fun k σ H' => (∃ v, σ = [some (.ref (L.addr .net)), some (.int (n : Int)), v]) ∧ NetAt C TT L H' (round n (List.range k) s) ∧ Fr L H H')
      ⟨⟨none, rfl⟩, N, Fr.refl _ _⟩ ?_ ?_ ?_⟩
    · rintro k σ H' hk ⟨_, N', _⟩
      obtain ⟨_, hp', _⟩ := round_ok n (List.range k) wf (fun p hp => by rw [refs_len] at hk; have := List.mem_range.mp hp; omega)
      have := N'.ps
      rw [hp'] at this
      exact SqL.of this
    · rintro k x σ H' hx ⟨⟨v, rfl⟩, N', F'⟩
      obtain ⟨hk, rfl⟩ := refs_some hx
      obtain ⟨wf', hp', -, -, -, hs'⟩ := round_ok n (List.range k) wf (fun p hp => by have := List.mem_range.mp hp; omega)
      rw [List.length_range] at hs'
      have hb : n * k + n ≤ n * 6 := by
        have : n * k + n = n * (k + 1) := by rw [Nat.mul_add, Nat.mul_one]
        rw [this]
        exact Nat.mul_le_mul_left _ (by omega)
      refine ⟨_, rfl, _, rfl, _, rfl, L, _, k, n, rfl, N', wf', by rw [hp']; exact hk, by omega, fun H2 N2 F2 => ?_⟩
      refine ⟨⟨_, rfl⟩, ?_, F'.trans F2⟩
      rw [List.range_succ, round_append]
      exact N2
    · rintro σ H' ⟨⟨v, rfl⟩, N', F'⟩
      rw [refs_len] at N'
      exact q H' N' F'
end
end Ro
end part_D5
section part_D6
set_option linter.unusedVariables false
set_option maxRecDepth 100000
set_option maxHeartbeats 2000000
namespace Ro
open PySem PySem.Spec PyProof.Rows L2
open Hs09 (Instr Proc Chan stand moves runs can proc chan setProc setChan goesTo onward setReg reg stuck round all grows smallest blocked)
def sp_grow (K : PySem.W.Frag) (C : Cs) (TT : List NTab) : Sp := fun vs H Q _ => ∃ (L : Lay) (s : Hs09.St), vs = [.ref (L.addr .net)] ∧ NetAt C TT L H s ∧ WF s ∧ stuck s = 3 ∧ ∀ H' c, smallest s (blocked s) = some c → c < s.chans.length → NetAt C TT L H' (grows s) → Fr L H H' → Q (.int ((c + 1 : Nat) : Int)) H'
def sp_settle_once (K : PySem.W.Frag) (C : Cs) (TT : List NTab) : Sp := fun vs H Q _ => ∃ (L : Lay) (s : Hs09.St), vs = [.ref (L.addr .net)] ∧ NetAt C TT L H s ∧ WF s ∧ s.steps + 6 ≤ 8388608 ∧ ∀ H', NetAt C TT L H' (turn s) → Fr L H H' → Q .non H'
theorem lex2 {a b c d : Int} (h : HT.lexLt [a, b] [c, d] = false) : c < a ∨ (c = a ∧ d ≤ b) := by
  rw [HT.lexLt_cons] at h
  by_cases e : a = c
  · rw [if_pos e, HT.lexLt_cons] at h
    by_cases e2 : b = d
    · exact .inr ⟨e.symm, by omega⟩
    · rw [if_neg e2] at h
      exact .inr ⟨e.symm, by have := of_decide_eq_false h; omega⟩
  · rw [if_neg e] at h
    exact .inl (by have := of_decide_eq_false h; omega)
theorem Fr.ext {L : Lay} {H H' : Hp} (a : LamX.ExtN H H') : Fr L H H' := fun b o h _ n => a b o h n
abbrev s_grow : Stmt := top 45
theorem sc_grow : FnScope ["net", "number", "channel"] ["net"] (defScope s_grow) := ⟨rfl, rfl, rfl, by decide +kernel, rfl, by decide +kernel, by decide +kernel⟩
/-- the name of grow's lambda -/
def lamName : Str := (envOfC "grow" (defScope s_grow) 0 0 (.ref 0)).qual ++ "<lambda>"
section
variable {P : Program} {w : World} {K : PySem.W.Frag} {mg : Str → Option Value} {base : Heap} {C : Cs} {TT : List NTab}
theorem ok_grow {f cg Pg : Addr} {oc kV doc pm ct : Value} {od an : Option Addr} {osl : Array (Option Value)} (lk : K.lookup f = some ⟨oc, od, .func (PySem.W.fnOf "grow" "grow" (defArgs s_grow) (defBody s_grow) (defScope s_grow) .none kV doc pm an (.ref cg) ct), osl⟩)
    (hcd : PySem.W.codeIn K (.ref cg) "grow" = true) (T : Txt K mg C) (TB : LamX.TabB base mg cg Pg) (hTT : TT = [(Pg, lamName)]) (m_channel : C8.Met P w K mg base 1 C.cn "channel" (sp_Net_channel K C TT) []) (c_channels_waited_to_write : C8.Cal P w K mg base 4 "channels_waited_to_write" (sp_channels_waited_to_write K C TT) []) :
    FnOk P w K mg base L2.CX0 5 f (PySem.W.fnOf "grow" "grow" (defArgs s_grow) (defBody s_grow) (defScope s_grow) .none kV doc pm an (.ref cg) ct) ["net"] (sp_grow K C TT) := by
  have hm : (Pg, lamName) ∈ TT := by rw [hTT]; exact List.mem_singleton.mpr rfl
  have hu : ∀ p ∈ TT, p.1 = Pg → p.2 = lamName := fun p hp _ => by
    rw [hTT] at hp
    rw [List.mem_singleton.mp hp]
  refine fn_of lk hcd sc_grow (fun vs H Q E h => ?_) (fun A outer s0 H vs Q E hr h => ?_)
  · obtain ⟨L, s, rfl, _⟩ := h
    rfl
  · obtain ⟨L, s, rfl, N, wf, h3, q⟩ := h
    refine ⟨_, (pss_cons (ps_set (i := 1) sc_grow.nd rfl (Or.inl rfl) (pe_minlam (k := 1) (tb := (tTup (tCons (tFld K (tMeth C.cn "channel" (sp_Net_channel K C TT) [] C8.E0 (tVar 1) (tCons (tVar 0) tNil)) "room") (tCons (tVar 0) tNil)))) (x := "c") (nN := ["c", "net"]) (fr := ["net"]) (js := [0]) TB rfl hm hu hr (by decide) rfl rfl rfl rfl T.min (pa_cons (C8.pe_c c_channels_waited_to_write hr (by decide) rfl (pa_cons (pv 0) pa_nil)) pa_nil) rfl (by show capB (defScope s_grow) _ = true; decide +kernel) (by decide +kernel) rfl (NdefX.nscope_by (by decide +kernel)) (fun _ _ _ _ _ => rfl) (by intro _ _ _ _ _ _ _ hrl; exact (pe_tup (pa_cons (pe_fld (C8.pe_mt m_channel hrl (by decide) (pv 1) (pa_cons (pv 0) pa_nil)) rfl) (pa_cons (pv 0) pa_nil)))))) (pss_cons (ps_set (i := 2) sc_grow.nd rfl (Or.inl rfl) (C8.pe_mt m_channel hr (by decide) (pv 0) (pa_cons (pv 1) pa_nil))) (pss_cons (ps_fldaug (pv 2) pe_int in_add) (pss_cons (ps_fldaug (pv 0) pe_int in_add) (pss_one (ps_ret (pv 1))))))), ?_⟩
    have hwn := waits_ne h3
    refine ⟨_, rfl, L, s, rfl, N, wf, fun H1 p hp sm1 hp1 => ⟨p, rfl, (N.same sm1).tb, fun H2 hE hT2 => ?_⟩⟩
    have N2 := (N.same sm1).ext hE hT2
    have hp2 : H2 p = some (.lst (vI (waits s))) := hE _ _ hp1 (fun ps z => by cases z)
    have hxs : vI (waits s) = ((waits s).map fun (n : Nat) => (n : Int)).map V.int := by unfold vI; rw [List.map_map]; rfl
    rw [hxs] at hp2
    refine ⟨(waits s).map fun (n : Nat) => (n : Int), fun z => [((chan s (z.toNat - 1)).room : Int), z], SqL.of hp2, ?_, ?_, ?_⟩
    · rw [List.length_map]
      exact List.length_pos_iff.mpr hwn
    · intro z hz H3 sm3
      obtain ⟨m, hm', rfl⟩ := List.mem_map.mp hz
      obtain ⟨pp, hpp, hst⟩ := waits_mem.mp hm'
      obtain ⟨c, rfl, hc⟩ := stand_chan wf hpp hst (.inr rfl)
      have N3 := N2.same sm3
      exact ⟨_, rfl, _, _, _, rfl, N3.net, ntF_no_channel .., _, rfl, _, _, _, _, _, _, _, c, _, rfl, N3.net, N3.cs, refs_get hc, _, _, _, _, _, rfl, N3.ch hc, T.cl_Channel, T.n_room, chF_room .., _, rfl, (by show 2 ≤ sizeLine; decide), fun p' hp' => ⟨same_new hp', p', rfl, upd_same⟩⟩
    · intro zb H3 sm3 hz hmin
      obtain ⟨m, hm', rfl⟩ := List.mem_map.mp hz
      obtain ⟨c, rfl, hc, hsml, hgr⟩ := grows_is wf h3 hm' fun x hx => by
        have := lex2 (hmin (x : Int) (List.mem_map.mpr ⟨x, hx, rfl⟩))
        simp only [Int.toNat_natCast] at this
        omega
      have N3 := N2.same sm3
      refine ⟨_, rfl, _, _, _, rfl, N3.net, ntF_no_channel .., _, rfl, _, _, _, _, _, _, _, c, _, rfl, N3.net, N3.cs, refs_get hc, ?_⟩
      refine ⟨_, rfl, _, _, _, _, _, rfl, N3.ch hc, T.cl_Channel, T.n_room, chF_room .., _, _, rfl, rfl, _, _, N3.ch hc, (by show 5 < 1000; decide), ?_⟩
      rw [chF_put_room]
      have e1 : ((chan s c).room : Int) + 1 = (((chan s c).room + 1 : Nat) : Int) := by omega
      rw [e1]
      have N4 := N3.put (cont_ch hc) (cont_room (C := C) (L := L) (n := (chan s c).room + 1) hc)
      have F4 : Fr L H3 _ := N3.fr (o' := .ins C.cc (L.dx (.ch c)) (chF (((chan s c).from_ + 1 : Nat) : Int) (((chan s c).to + 1 : Nat) : Int) (((chan s c).room + 1 : Nat) : Int) (L.addr (.wr c)) (((chan s c).wrote.length - (chan s c).on.length : Nat) : Int))) (cont_ch hc)
      refine ⟨_, rfl, _, _, _, _, _, rfl, N4.net, T.cl_Net, T.n_grown, ntF_grown .., _, _, rfl, rfl, _, _, N4.net, (by show 4 < 1000; decide), ?_⟩
      rw [ntF_put_grown]
      refine ⟨_, rfl, q _ c hsml hc ?_ ((((Fr.same sm1).trans (Fr.ext hE)).trans (Fr.same sm3)).trans (F4.trans (N4.fr rfl)))⟩
      rw [hgr]
      exact N4.put rfl (cont_grown (n := s.grown + 1))
abbrev s_settle_once : Stmt := top 47
theorem sc_settle_once : FnScope ["net", "standing"] ["net"] (defScope s_settle_once) := ⟨rfl, rfl, rfl, by decide +kernel, rfl, by decide +kernel, by decide +kernel⟩
theorem ok_settle_once {f : Addr} {fd : FuncData} (F : L2.Fun K "settle_once" "settle_once" s_settle_once f fd) (T : Txt K mg C) (c_how_all_stand : C8.Cal P w K mg base 3 "how_all_stand" (sp_how_all_stand K C TT) []) (c_do_round : C8.Cal P w K mg base 5 "do_round" (sp_do_round K C TT) []) (c_grow : C8.Cal P w K mg base 5 "grow" (sp_grow K C TT) []) : FnOk P w K mg base L2.CX0 6 f fd ["net"] (sp_settle_once K C TT) := by
  refine F.ok sc_settle_once (fun vs H Q E h => ?_) (fun cdv A outer s0 H vs Q E hr h => ?_)
  · obtain ⟨L, s, rfl, _⟩ := h
    rfl
  · obtain ⟨L, s, rfl, N, wf, hst, q⟩ := h
    refine ⟨_, (pss_cons (ps_set (i := 1) sc_settle_once.nd rfl (Or.inl rfl) (C8.pe_c c_how_all_stand hr (by decide) rfl (pa_cons (pv 0) pa_nil))) (pss_one (ps_if (pt_cmpR op_eq (pv 1) (C8.pe_gc rfl T.g_CAN_STEP) (nomark _)) (pss_one (ps_expr (C8.pe_c c_do_round hr (by decide) rfl (pa_cons (pv 0) (pa_cons pe_int pa_nil))))) (pss_one (ps_if (pt_cmpR op_eq (pv 1) (C8.pe_gc rfl T.g_WAITS_TO_WRITE) (nomark _)) (pss_one (ps_expr (C8.pe_c c_grow hr (by decide) rfl (pa_cons (pv 0) pa_nil)))) pss_nil))))), ?_⟩
    refine ⟨_, rfl, L, s, rfl, N, wf, fun H1 sm1 => ?_⟩
    have N1 := N.same sm1
    refine ⟨_, rfl, rfl, _, rfl, ?_⟩
    by_cases h0 : stuck s = 0
    · refine ifT (dT (by rw [h0]; rfl)) ?_
      refine ⟨_, rfl, L, s, 1, rfl, N1, wf, by omega, fun H2 N2 F2 => ?_⟩
      refine q H2 ?_ ((Fr.same sm1).trans F2)
      unfold turn
      rw [if_pos h0]
      exact N2
    · refine ifF (dF (by omega)) ?_
      refine ⟨_, rfl, rfl, _, rfl, ?_⟩
      by_cases h3 : stuck s = 3
      · refine ifT (dT (by rw [h3]; rfl)) ?_
        refine ⟨_, rfl, L, s, rfl, N1, wf, h3, fun H2 c _ _ N2 F2 => ?_⟩
        refine q H2 ?_ ((Fr.same sm1).trans F2)
        unfold turn
        rw [if_neg h0, if_pos h3]
        exact N2
      · refine ifF (dF (by omega)) ?_
        refine q H1 ?_ (Fr.same sm1)
        unfold turn
        rw [if_neg h0, if_neg h3]
        exact N1
end
end Ro
end part_D6
section part_D7
set_option linter.unusedVariables false
set_option maxRecDepth 100000
set_option maxHeartbeats 2000000
namespace Ro
open PySem PySem.Spec PyProof.Rows L2
open Hs09 (Instr Proc Chan proc chan within threes fours isRight)
theorem rg3 : ∀ k, k < 13 → RgC 0 ((3 * k : Nat) : Int) 3 k := by
  unfold RgC
  decide +kernel
theorem rg4 : ∀ k, k < 27 → RgC 0 ((4 * k : Nat) : Int) 4 k := by
  unfold RgC
  decide +kernel
theorem threes_len : ∀ (k : Nat) (l : List Nat), l.length = 3 * k → (threes l).length = k
  | 0, [], _ => rfl
  | 0, _ :: _, h => by simp at h
  | k + 1, [], h => by simp at h <;> omega
  | k + 1, [_], h => by simp at h <;> omega
  | k + 1, [_, _], h => by simp at h <;> omega
  | k + 1, a :: b :: c :: r, h => by
    show (threes r).length + 1 = k + 1
    rw [threes_len k r (by simp at h <;> omega)]
theorem threes_get : ∀ (i : Nat) (l : List Nat), 3 * i + 2 < l.length → ∃ a b c, l[3 * i]? = some a ∧ l[3 * i + 1]? = some b ∧ l[3 * i + 2]? = some c ∧ (threes l)[i]? = some (a, b, c)
  | 0, a :: b :: c :: r, _ => ⟨a, b, c, rfl, rfl, rfl, rfl⟩
  | 0, [], h => by simp at h
  | 0, [_], h => by simp at h
  | 0, [_, _], h => by simp at h
  | i + 1, [], h => by simp at h
  | i + 1, [_], h => by simp at h <;> omega
  | i + 1, [_, _], h => by simp at h <;> omega
  | i + 1, x :: y :: z :: r, h => by
    obtain ⟨a, b, c, h1, h2, h3, h4⟩ := threes_get i r (by simp at h <;> omega)
    exact ⟨a, b, c, h1, h2, h3, h4⟩
theorem fours_len : ∀ (k : Nat) (l : List Nat), l.length = 4 * k → (fours l).length = k
  | 0, [], _ => rfl
  | 0, _ :: _, h => by simp at h
  | k + 1, [], h => by simp at h <;> omega
  | k + 1, [_], h => by simp at h <;> omega
  | k + 1, [_, _], h => by simp at h <;> omega
  | k + 1, [_, _, _], h => by simp at h <;> omega
  | k + 1, a :: b :: c :: d :: r, h => by
    show (fours r).length + 1 = k + 1
    rw [fours_len k r (by simp at h <;> omega)]
theorem fours_get : ∀ (i : Nat) (l : List Nat), 4 * i + 3 < l.length → ∃ a b c d, (l.drop (4 * i)).take 4 = [a, b, c, d] ∧ (fours l)[i]? = some (a, b, c, d)
  | 0, a :: b :: c :: d :: r, _ => ⟨a, b, c, d, rfl, rfl⟩
  | 0, [], h => by simp at h
  | 0, [_], h => by simp at h
  | 0, [_, _], h => by simp at h
  | 0, [_, _, _], h => by simp at h
  | i + 1, [], h => by simp at h
  | i + 1, [_], h => by simp at h <;> omega
  | i + 1, [_, _], h => by simp at h <;> omega
  | i + 1, [_, _, _], h => by simp at h <;> omega
  | i + 1, x :: y :: z :: w :: r, h => by
    obtain ⟨a, b, c, d, h1, h2⟩ := fours_get i r (by simp at h <;> omega)
    refine ⟨a, b, c, d, ?_, h2⟩
    show ((x :: y :: z :: w :: r).drop (4 * i + 4)).take 4 = _
    exact h1
def chFit (n : Nat) (x : Nat × Nat × Nat) : Bool := within 1 n x.1 && (within 1 n x.2.1 && within 1 50 x.2.2)
def chsFit (n : Nat) (l : List Nat) : Bool := decide (l.length % 3 = 0) && (decide (l.length ≤ 30) && (threes l).all (chFit n))
def sp_channel_fits (K : PySem.W.Frag) (C : Cs) (TT : List NTab) : Sp := fun vs H Q _ => ∃ (n a b c : Nat), vs = [.int (n : Int), .int (a : Int), .int (b : Int), .int (c : Int)] ∧ Q (.bl (chFit n (a, b, c))) H
def sp_channels_fit (K : PySem.W.Frag) (C : Cs) (TT : List NTab) : Sp := fun vs H Q _ => ∃ (n : Nat) (p : Addr) (l : List Nat), vs = [.int (n : Int), .ref p] ∧ H p = some (.lst (vI l)) ∧ l.length ≤ 36 ∧ Q (.bl (chsFit n l)) H
/-- the tests in turn: what has held so far -/
theorem all_take {α : Type} (f : α → Bool) {l : List α} {k : Nat} {x : α} (h : (l.take k).all f = true) (hx : l[k]? = some x) (hf : f x = true) : (l.take (k + 1)).all f = true := by
  rw [take_more hx, List.all_append, h]
  simp [hf]
theorem all_false {α : Type} (f : α → Bool) {l : List α} {k : Nat} {x : α} (hx : l[k]? = some x) (hf : f x = false) : l.all f = false := by
  rw [List.all_eq_false]
  exact ⟨x, List.mem_of_getElem? hx, by rw [hf]; exact Bool.false_ne_true⟩
theorem within_eq {a b n : Nat} : within a b n = decide (a ≤ n ∧ n ≤ b) := by
  unfold within
  by_cases h1 : a ≤ n
  · by_cases h2 : n ≤ b
    · rw [decide_eq_true h1, decide_eq_true h2, decide_eq_true ⟨h1, h2⟩]; rfl
    · rw [decide_eq_true h1, decide_eq_false h2, decide_eq_false (fun z => h2 z.2)]; rfl
  · rw [decide_eq_false h1, Bool.false_and, decide_eq_false (p := a ≤ n ∧ n ≤ b) (fun z => h1 z.1)]
section
variable {P : Program} {w : World} {K : PySem.W.Frag} {mg : Str → Option Value} {base : Heap} {C : Cs} {TT : List NTab}
abbrev s_channel_fits : Stmt := top 7
theorem sc_channel_fits : FnScope ["how_many", "writer", "reader", "room"] ["how_many", "writer", "reader", "room"] (defScope s_channel_fits) := ⟨rfl, rfl, rfl, by decide +kernel, rfl, by decide +kernel, by decide +kernel⟩
theorem ok_channel_fits {f : Addr} {fd : FuncData} (F : L2.Fun K "channel_fits" "channel_fits" s_channel_fits f fd) (T : Txt K mg C)  : FnOk P w K mg base L2.CX0 1 f fd ["how_many", "writer", "reader", "room"] (sp_channel_fits K C TT) := by
  refine F.ok sc_channel_fits (fun vs H Q E h => ?_) (fun cdv A outer s0 H vs Q E hr h => ?_)
  · obtain ⟨n, a, b, c, rfl, _⟩ := h
    rfl
  · obtain ⟨n, a, b, c, rfl, q⟩ := h
    refine ⟨_, (pss_one (ps_ret (pe_and (pe_chain op_le op_le pe_int (pv 1) (pv 0)) (pe_and (pe_chain op_le op_le pe_int (pv 2) (pv 0)) (pe_one (pe_chain op_le op_le pe_int (pv 3) (C8.pe_gc rfl T.g_MOST_ROOM))))))), ?_⟩
    have q' : Q (.bl (within 1 n a && (within 1 n b && within 1 50 c))) H := q
    rw [within_eq, within_eq, within_eq] at q'
    refine ⟨_, rfl, _, _, rfl, rfl, _, rfl, ?_⟩
    by_cases h1 : 1 ≤ a
    · refine ifT (decide_eq_true (by omega)) ?_
      refine ⟨_, rfl, _, _, rfl, rfl, _, rfl, ?_⟩
      by_cases h2 : a ≤ n
      · refine ifT (decide_eq_true (by omega)) ?_
        rw [decide_eq_true ⟨h1, h2⟩, Bool.true_and] at q'
        refine ⟨_, rfl, _, _, rfl, rfl, _, rfl, ?_⟩
        by_cases h3 : 1 ≤ b
        · refine ifT (decide_eq_true (by omega)) ?_
          refine ⟨_, rfl, _, _, rfl, rfl, _, rfl, ?_⟩
          by_cases h4 : b ≤ n
          · refine ifT (decide_eq_true (by omega)) ?_
            rw [decide_eq_true ⟨h3, h4⟩, Bool.true_and] at q'
            refine ⟨_, rfl, _, _, rfl, rfl, _, rfl, ?_⟩
            by_cases h5 : 1 ≤ c
            · refine ifT (decide_eq_true (by omega)) ?_
              refine ⟨_, _, rfl, rfl, ?_⟩
              have e : decide (1 ≤ c ∧ c ≤ 50) = decide ((c : Int) ≤ 50) := by
                by_cases h6 : c ≤ 50
                · rw [decide_eq_true ⟨h5, h6⟩, decide_eq_true (by omega)]
                · rw [decide_eq_false (fun z => h6 z.2), decide_eq_false (by omega)]
              rw [e] at q'
              exact q'
            · refine ifF (decide_eq_false (by omega)) ?_
              rw [decide_eq_false (fun z => h5 z.1)] at q'
              exact q'
          · refine ifF (decide_eq_false (by omega)) ?_
            rw [decide_eq_false (fun z => h4 z.2)] at q'
            exact q'
        · refine ifF (decide_eq_false (by omega)) ?_
          rw [decide_eq_false (fun z => h3 z.1)] at q'
          exact ⟨_, rfl, ifF rfl q'⟩
      · refine ifF (decide_eq_false (by omega)) ?_
        rw [decide_eq_false (fun z => h2 z.2)] at q'
        exact q'
    · refine ifF (decide_eq_false (by omega)) ?_
      rw [decide_eq_false (fun z => h1 z.1)] at q'
      exact ⟨_, rfl, ifF rfl q'⟩
abbrev s_channels_fit : Stmt := top 8
theorem sc_channels_fit : FnScope ["how_many", "rows", "start"] ["how_many", "rows"] (defScope s_channels_fit) := ⟨rfl, rfl, rfl, by decide +kernel, rfl, by decide +kernel, by decide +kernel⟩
theorem ok_channels_fit {f : Addr} {fd : FuncData} (F : L2.Fun K "channels_fit" "channels_fit" s_channels_fit f fd) (T : Txt K mg C) (c_channel_fits : C8.Cal P w K mg base 1 "channel_fits" (sp_channel_fits K C TT) []) : FnOk P w K mg base L2.CX0 2 f fd ["how_many", "rows"] (sp_channels_fit K C TT) := by
  refine F.ok sc_channels_fit (fun vs H Q E h => ?_) (fun cdv A outer s0 H vs Q E hr h => ?_)
  · obtain ⟨n, p, l, rfl, _⟩ := h
    rfl
  · obtain ⟨n, p, l, rfl, hp, hl, q⟩ := h
    refine ⟨_, (pss_cons (ps_if (PW.pt (pw_or (pt_cmpR op_ne (pe_op op_mod (pe_callB call_len_seq (by rfl) T.len PySem.boot_len (pa_cons (pv 1) pa_nil)) pe_int) pe_int (nomark _)) (pw_or1 (pt_cmpR op_gt (pe_op op_fdiv (pe_callB call_len_seq (by rfl) T.len PySem.boot_len (pa_cons (pv 1) pa_nil)) pe_int) (C8.pe_gc rfl T.g_MOST_CHANNELS) (nomark _))))) (pss_one (ps_ret pe_bl)) pss_nil) (pss_cons (ps_for PassesOwn.never rfl (pi_range3 rfl T.range (pa_cons pe_int (pa_cons (pe_callB call_len_seq (by rfl) T.len PySem.boot_len (pa_cons (pv 1) pa_nil)) (pa_cons pe_int pa_nil)))) (pg_name (i := 2) sc_channels_fit.nd rfl (Or.inl rfl)) (pss_one (ps_if (pt_not (pt_val (C8.pe_c c_channel_fits hr (by decide) rfl (pa_cons (pv 0) (pa_cons (pe_ix ix_list (pv 1) (pv 2) (fun _ _ => rfl)) (pa_cons (pe_ix ix_list (pv 1) (pe_op op_add (pv 2) pe_int) (fun _ _ => rfl)) (pa_cons (pe_ix ix_list (pv 1) (pe_op op_add (pv 2) pe_int) (fun _ _ => rfl)) pa_nil))))))) (pss_one (ps_ret pe_bl)) pss_nil))) (pss_one (ps_ret pe_bl)))), ?_⟩
    refine ⟨_, rfl, p, _, rfl, .inl (SqL.of hp), _, _, rfl, rfl, (by show (0 : Int) < 3; decide), rfl, _, rfl, ?_⟩
    rw [vI_len]
    unfold chsFit at q
    by_cases h1 : l.length % 3 = 0
    · refine ifF (by rw [dT (show ((l.length : Nat) : Int) % 3 = 0 by omega)]; rfl) ?_
      rw [decide_eq_true h1, Bool.true_and] at q
      refine ⟨_, rfl, p, _, rfl, .inl (SqL.of hp), _, _, rfl, rfl, ⟨by decide, by decide⟩, _, _, rfl, rfl, _, rfl, ?_⟩
      rw [vI_len]
      by_cases h2 : l.length ≤ 30
      · refine ifF (decide_eq_false (by omega)) ?_
        rw [decide_eq_true h2, Bool.true_and] at q
        obtain ⟨m, hm⟩ : ∃ m, l.length = 3 * m := ⟨l.length / 3, by omega⟩
        have hrg := rg3 m (by omega)
        have tl := threes_len m l hm
        refine ⟨_, rfl, p, _, rfl, .inl (SqL.of hp), _, _, _, m, rfl, by rw [vI_len, hm]; exact hrg, for_rangeC (lo := 0) (c := 3) (n := m) (fun k σ H' => (∃ v, σ = [some (.int (n : Int)), some (.ref p), v]) ∧ H' = H ∧ ((threes l).take k).all (chFit n) = true) ⟨⟨none, rfl⟩, rfl, rfl⟩ ?_ ?_⟩
        · rintro k σ H' hk ⟨⟨v, rfl⟩, rfl, hall⟩
          obtain ⟨a, b, c, ea, eb, ec, et⟩ := threes_get k l (by omega)
          have i0 : (0 : Int) + ((k : Nat) : Int) * 3 = ((3 * k : Nat) : Int) := by omega
          have i1 : (0 : Int) + ((k : Nat) : Int) * 3 + 1 = ((3 * k + 1 : Nat) : Int) := by omega
          have i2 : (0 : Int) + ((k : Nat) : Int) * 3 + 2 = ((3 * k + 2 : Nat) : Int) := by omega
          refine ⟨_, rfl, _, rfl, _, rfl, _, _, _, _, rfl, rfl, SqL.of hp, (by rw [i0]; exact vI_at ea), _, rfl, _, rfl, _, _, rfl, rfl, _, _, _, _, rfl, rfl, SqL.of hp, (by rw [i1]; exact vI_at eb), _, rfl, _, rfl, _, _, rfl, rfl, _, _, _, _, rfl, rfl, SqL.of hp, (by rw [i2]; exact vI_at ec), n, a, b, c, rfl, _, rfl, ?_⟩
          cases hf : chFit n (a, b, c) with
          | true => exact ifF rfl ⟨⟨_, rfl⟩, rfl, all_take _ hall et hf⟩
          | false =>
            refine ifT rfl ?_
            rw [all_false _ et hf] at q
            exact q
        · rintro σ H' ⟨⟨v, rfl⟩, rfl, hall⟩
          rw [← tl, List.take_length] at hall
          rw [hall] at q
          exact q
      · refine ifT (decide_eq_true (by omega)) ?_
        rw [decide_eq_false h2] at q
        exact q
    · refine ifT (by rw [dF (show ((l.length : Nat) : Int) % 3 ≠ 0 by omega)]; rfl) (ifT rfl ?_)
      rw [decide_eq_false h1] at q
      exact q
end
end Ro
end part_D7
section part_D8
set_option linter.unusedVariables false
set_option linter.unusedSimpArgs false
set_option maxRecDepth 100000
set_option maxHeartbeats 2000000
namespace Ro
open PySem PySem.Spec PyProof.Rows L2
open Hs09 (Instr Proc Chan proc chan within threes fours isRight)
def srcFit (s : Hs09.St) (p n : Nat) : Bool := within 1 s.chans.length n && (chan s (n - 1)).to == p - 1
def tgtFit (s : Hs09.St) (p n : Nat) : Bool := within 1 s.chans.length n && (chan s (n - 1)).from_ == p - 1
/-- a number of that kind, in a program of m instructions of process p -/
def nFit (s : Hs09.St) (p m : Nat) (kind : Str) (n : Nat) : Bool :=
  if kind = "cell" then decide (n ≤ 3)
  else if kind = "source" then srcFit s p n
  else if kind = "target" then tgtFit s p n
  else if kind = "value" then decide (n ≤ 65535)
  else if kind = "place" then within 1 (m + 1) n
  else decide (n = 0)
def sp_is_source (K : PySem.W.Frag) (C : Cs) (TT : List NTab) : Sp := fun vs H Q _ => ∃ (L : Lay) (s : Hs09.St) (p n : Nat), vs = [.ref (L.addr .net), .int (p : Int), .int (n : Int)] ∧ NetAt C TT L H s ∧ 1 ≤ p ∧ Q (.bl (srcFit s p n)) H
def sp_is_target (K : PySem.W.Frag) (C : Cs) (TT : List NTab) : Sp := fun vs H Q _ => ∃ (L : Lay) (s : Hs09.St) (p n : Nat), vs = [.ref (L.addr .net), .int (p : Int), .int (n : Int)] ∧ NetAt C TT L H s ∧ 1 ≤ p ∧ Q (.bl (tgtFit s p n)) H
def sp_number_fits (K : PySem.W.Frag) (C : Cs) (TT : List NTab) : Sp := fun vs H Q _ => ∃ (L : Lay) (s : Hs09.St) (p m : Nat) (kind : Str) (n : Nat), vs = [.ref (L.addr .net), .int (p : Int), .int ((m + 1 : Nat) : Int), .str kind, .int (n : Int)] ∧ NetAt C TT L H s ∧ 1 ≤ p ∧ Q (.bl (nFit s p m kind n)) H
def sp_instruction_fits (K : PySem.W.Frag) (C : Cs) (TT : List NTab) : Sp := fun vs H Q _ => ∃ (L : Lay) (s : Hs09.St) (p m : Nat) (r : Addr) (o x y z : Nat), vs = [.ref (L.addr .net), .int (p : Int), .int ((m + 1 : Nat) : Int), .ref r] ∧ NetAt C TT L H s ∧ 1 ≤ p ∧ H r = some (.lst (vI [o, x, y, z])) ∧ Q (.bl (isRight s (p - 1) m (o, x, y, z))) H
def prFit (s : Hs09.St) (p : Nat) (l : List Nat) : Bool := decide (l.length % 4 = 0) && (decide (l.length ≤ 96) && (fours l).all (isRight s (p - 1) (l.length / 4)))
def sp_instructions_fit (K : PySem.W.Frag) (C : Cs) (TT : List NTab) : Sp := fun vs H Q _ => ∃ (L : Lay) (s : Hs09.St) (p : Nat) (a : Addr) (l : List Nat), vs = [.ref (L.addr .net), .int (p : Int), .ref a] ∧ NetAt C TT L H s ∧ 1 ≤ p ∧ H a = some (.lst (vI l)) ∧ l.length ≤ 104 ∧ ∀ H', Same H H' → Q (.bl (prFit s p l)) H'
theorem strT {a b : Str} (h : a = b) : decide (V.str a = V.str b) = true := decide_eq_true (by rw [h])
theorem strF {a b : Str} (h : ¬ a = b) : decide (V.str a = V.str b) = false := decide_eq_false fun z => h (V.str.inj z)
theorem dec_iff {p q : Prop} [Decidable p] [Decidable q] (h : p ↔ q) : decide p = decide q := by
  by_cases c : p
  · rw [decide_eq_true c, decide_eq_true (h.mp c)]
  · rw [decide_eq_false c, decide_eq_false (fun z => c (h.mpr z))]
theorem rt0 {s : Hs09.St} {p m x y z : Nat} : isRight s p m (0, x, y, z) = (decide (x ≤ 3) && ((within 1 s.chans.length y && (chan s (y - 1)).to == p) && decide (z = 0))) := by
  cases z with
  | zero => simp [isRight]
  | succ k => simp [isRight]
theorem rt1 {s : Hs09.St} {p m x y z : Nat} : isRight s p m (1, x, y, z) = (decide (x ≤ 3) && ((within 1 s.chans.length y && (chan s (y - 1)).from_ == p) && decide (z = 0))) := by
  cases z with
  | zero => simp [isRight]
  | succ k => simp [isRight]
theorem rt2 {s : Hs09.St} {p m x y z : Nat} : isRight s p m (2, x, y, z) = (decide (x ≤ 3) && (decide (y ≤ 65535) && decide (z = 0))) := by
  cases z with
  | zero => simp [isRight]
  | succ k => simp [isRight]
theorem rt3 {s : Hs09.St} {p m x y z : Nat} : isRight s p m (3, x, y, z) = (decide (x ≤ 3) && (decide (y ≤ 3) && decide (z = 0))) := by
  cases z with
  | zero => simp [isRight]
  | succ k => simp [isRight]
theorem rt4 {s : Hs09.St} {p m x y z : Nat} : isRight s p m (4, x, y, z) = (decide (x ≤ 3) && (decide (y ≤ 3) && decide (z = 0))) := by
  cases z with
  | zero => simp [isRight]
  | succ k => simp [isRight]
theorem rt5 {s : Hs09.St} {p m x y z : Nat} : isRight s p m (5, x, y, z) = (decide (x ≤ 3) && (decide (y ≤ 3) && decide (z = 0))) := by
  cases z with
  | zero => simp [isRight]
  | succ k => simp [isRight]
theorem rt6 {s : Hs09.St} {p m x y z : Nat} : isRight s p m (6, x, y, z) = (decide (x ≤ 3) && (decide (y ≤ 3) && decide (z = 0))) := by
  cases z with
  | zero => simp [isRight]
  | succ k => simp [isRight]
theorem rt7 {s : Hs09.St} {p m x y z : Nat} : isRight s p m (7, x, y, z) = (within 1 (m + 1) x && (decide (y = 0) && decide (z = 0))) := by
  cases y with
  | zero =>
    cases z with
    | zero => simp [isRight]
    | succ k => simp [isRight]
  | succ k => simp [isRight]
theorem rt8 {s : Hs09.St} {p m x y z : Nat} : isRight s p m (8, x, y, z) = (decide (x ≤ 3) && (within 1 (m + 1) y && decide (z = 0))) := by
  cases z with
  | zero => simp [isRight]
  | succ k => simp [isRight]
theorem rt9 {s : Hs09.St} {p m x y z : Nat} : isRight s p m (9, x, y, z) = (decide (x ≤ 3) && (decide (y ≤ 3) && within 1 (m + 1) z)) := by
  simp [isRight]
theorem rt10 {s : Hs09.St} {p m x y z : Nat} : isRight s p m (10, x, y, z) = (decide (x ≤ 3) && (decide (y = 0) && decide (z = 0))) := by
  cases y with
  | zero =>
    cases z with
    | zero => simp [isRight]
    | succ k => simp [isRight]
  | succ k => simp [isRight]
theorem nFit_cell {s : Hs09.St} {p m n : Nat} : nFit s p m "cell" n = decide (n ≤ 3) := if_pos rfl
theorem nFit_source {s : Hs09.St} {p m n : Nat} : nFit s p m "source" n = srcFit s p n := (if_neg (by decide +kernel)).trans (if_pos rfl)
theorem nFit_target {s : Hs09.St} {p m n : Nat} : nFit s p m "target" n = tgtFit s p n := (if_neg (by decide +kernel)).trans ((if_neg (by decide +kernel)).trans (if_pos rfl))
theorem nFit_value {s : Hs09.St} {p m n : Nat} : nFit s p m "value" n = decide (n ≤ 65535) := (if_neg (by decide +kernel)).trans ((if_neg (by decide +kernel)).trans ((if_neg (by decide +kernel)).trans (if_pos rfl)))
theorem nFit_place {s : Hs09.St} {p m n : Nat} : nFit s p m "place" n = within 1 (m + 1) n := (if_neg (by decide +kernel)).trans ((if_neg (by decide +kernel)).trans ((if_neg (by decide +kernel)).trans ((if_neg (by decide +kernel)).trans (if_pos rfl))))
theorem nFit_zero {s : Hs09.St} {p m n : Nat} : nFit s p m "zero" n = decide (n = 0) := (if_neg (by decide +kernel)).trans ((if_neg (by decide +kernel)).trans ((if_neg (by decide +kernel)).trans ((if_neg (by decide +kernel)).trans ((if_neg (by decide +kernel)).trans (rfl)))))
/-- what the three kinds ask is what the table asks -/
theorem right_is {s : Hs09.St} {p m o x y z : Nat} {a b c : Str} (h : kindRows[o]? = some [a, b, c]) : isRight s (p - 1) m (o, x, y, z) = (nFit s p m a x && (nFit s p m b y && nFit s p m c z)) := by
  match o, h with
  | 0, h =>
    obtain ⟨rfl, rfl, rfl⟩ : "cell" = a ∧ "source" = b ∧ "zero" = c := by
      have := Option.some.inj h
      simpa using this
    simp only [rt0, nFit_cell, nFit_source, nFit_zero, srcFit, tgtFit]
  | 1, h =>
    obtain ⟨rfl, rfl, rfl⟩ : "cell" = a ∧ "target" = b ∧ "zero" = c := by
      have := Option.some.inj h
      simpa using this
    simp only [rt1, nFit_cell, nFit_target, nFit_zero, srcFit, tgtFit]
  | 2, h =>
    obtain ⟨rfl, rfl, rfl⟩ : "cell" = a ∧ "value" = b ∧ "zero" = c := by
      have := Option.some.inj h
      simpa using this
    simp only [rt2, nFit_cell, nFit_value, nFit_zero, srcFit, tgtFit]
  | 3, h =>
    obtain ⟨rfl, rfl, rfl⟩ : "cell" = a ∧ "cell" = b ∧ "zero" = c := by
      have := Option.some.inj h
      simpa using this
    simp only [rt3, nFit_cell, nFit_zero, srcFit, tgtFit]
  | 4, h =>
    obtain ⟨rfl, rfl, rfl⟩ : "cell" = a ∧ "cell" = b ∧ "zero" = c := by
      have := Option.some.inj h
      simpa using this
    simp only [rt4, nFit_cell, nFit_zero, srcFit, tgtFit]
  | 5, h =>
    obtain ⟨rfl, rfl, rfl⟩ : "cell" = a ∧ "cell" = b ∧ "zero" = c := by
      have := Option.some.inj h
      simpa using this
    simp only [rt5, nFit_cell, nFit_zero, srcFit, tgtFit]
  | 6, h =>
    obtain ⟨rfl, rfl, rfl⟩ : "cell" = a ∧ "cell" = b ∧ "zero" = c := by
      have := Option.some.inj h
      simpa using this
    simp only [rt6, nFit_cell, nFit_zero, srcFit, tgtFit]
  | 7, h =>
    obtain ⟨rfl, rfl, rfl⟩ : "place" = a ∧ "zero" = b ∧ "zero" = c := by
      have := Option.some.inj h
      simpa using this
    simp only [rt7, nFit_place, nFit_zero, srcFit, tgtFit]
  | 8, h =>
    obtain ⟨rfl, rfl, rfl⟩ : "cell" = a ∧ "place" = b ∧ "zero" = c := by
      have := Option.some.inj h
      simpa using this
    simp only [rt8, nFit_cell, nFit_place, nFit_zero, srcFit, tgtFit]
  | 9, h =>
    obtain ⟨rfl, rfl, rfl⟩ : "cell" = a ∧ "cell" = b ∧ "place" = c := by
      have := Option.some.inj h
      simpa using this
    simp only [rt9, nFit_cell, nFit_place, srcFit, tgtFit]
  | 10, h =>
    obtain ⟨rfl, rfl, rfl⟩ : "cell" = a ∧ "zero" = b ∧ "zero" = c := by
      have := Option.some.inj h
      simpa using this
    simp only [rt10, nFit_cell, nFit_zero, srcFit, tgtFit]
  | _ + 11, h => cases h
theorem right_not {s : Hs09.St} {p m o x y z : Nat} (h : 11 ≤ o) : isRight s (p - 1) m (o, x, y, z) = false := by
  unfold isRight
  split <;> first | rfl | (rename_i e; exfalso; simp only [Prod.mk.injEq] at e; omega)
theorem kind_row {o : Nat} (h : o < 11) : ∃ a b c, kindRows[o]? = some [a, b, c] := by
  match o, h with
  | 0, _ => exact ⟨_, _, _, rfl⟩
  | 1, _ => exact ⟨_, _, _, rfl⟩
  | 2, _ => exact ⟨_, _, _, rfl⟩
  | 3, _ => exact ⟨_, _, _, rfl⟩
  | 4, _ => exact ⟨_, _, _, rfl⟩
  | 5, _ => exact ⟨_, _, _, rfl⟩
  | 6, _ => exact ⟨_, _, _, rfl⟩
  | 7, _ => exact ⟨_, _, _, rfl⟩
  | 8, _ => exact ⟨_, _, _, rfl⟩
  | 9, _ => exact ⟨_, _, _, rfl⟩
  | 10, _ => exact ⟨_, _, _, rfl⟩
/-- four numbers cut out -/
theorem cut_four {l : List Nat} {k : Nat} {r : List Nat} (h : 4 * k + 4 ≤ l.length) (e : (l.drop (4 * k)).take 4 = r) : cutV (vI l) (some ((0 : Int) + ((k : Nat) : Int) * 4)) (some ((0 : Int) + ((k : Nat) : Int) * 4 + 4)) = vI r := by
  have e0 : (0 : Int) + ((k : Nat) : Int) * 4 = ((4 * k : Nat) : Int) := by omega
  have e1 : (0 : Int) + ((k : Nat) : Int) * 4 + 4 = ((4 * k + 4 : Nat) : Int) := by omega
  unfold cutV
  rw [e1, e0, HT.sIx_nat, HT.sIx_nat, vI_len, Nat.min_eq_left (by omega), Nat.min_eq_left (by omega), show 4 * k + 4 - 4 * k = 4 by omega, ← e]
  unfold vI
  rw [List.map_take, List.map_drop]
section
variable {P : Program} {w : World} {K : PySem.W.Frag} {mg : Str → Option Value} {base : Heap} {C : Cs} {TT : List NTab}
abbrev s_is_source : Stmt := top 9
theorem sc_is_source : FnScope ["net", "owner", "number"] ["net", "owner", "number"] (defScope s_is_source) := ⟨rfl, rfl, rfl, by decide +kernel, rfl, by decide +kernel, by decide +kernel⟩
theorem ok_is_source {f : Addr} {fd : FuncData} (F : L2.Fun K "is_source" "is_source" s_is_source f fd) (T : Txt K mg C) (m_has_channel : C8.Met P w K mg base 1 C.cn "has_channel" (sp_Net_has_channel K C TT) []) (m_channel : C8.Met P w K mg base 1 C.cn "channel" (sp_Net_channel K C TT) []) : FnOk P w K mg base L2.CX0 2 f fd ["net", "owner", "number"] (sp_is_source K C TT) := by
  refine F.ok sc_is_source (fun vs H Q E h => ?_) (fun cdv A outer s0 H vs Q E hr h => ?_)
  · obtain ⟨L, s, p, n, rfl, _⟩ := h
    rfl
  · obtain ⟨L, s, p, n, rfl, N, hp, q⟩ := h
    refine ⟨_, (pss_one (ps_ret (pe_and (C8.pe_mt m_has_channel hr (by decide) (pv 0) (pa_cons (pv 2) pa_nil)) (pe_one (pe_cmpR op_eq (pe_fld (C8.pe_mt m_channel hr (by decide) (pv 0) (pa_cons (pv 2) pa_nil)) rfl) (pv 1) (nomark _)))))), ?_⟩
    refine ⟨_, rfl, _, _, _, rfl, N.net, ntF_no_has_channel .., _, rfl, _, _, _, _, _, _, _, _, rfl, N.net, N.cs, _, rfl, ?_⟩
    rw [refs_len]
    unfold srcFit at q
    rw [within_eq] at q
    by_cases h1 : 1 ≤ n ∧ n ≤ s.chans.length
    · refine ifT (decide_eq_true (by omega)) ?_
      rw [decide_eq_true h1, Bool.true_and] at q
      obtain ⟨k, rfl⟩ : ∃ k, n = k + 1 := ⟨n - 1, by omega⟩
      have hk : k < s.chans.length := by omega
      refine ⟨_, rfl, _, _, _, rfl, N.net, ntF_no_channel .., _, rfl, _, _, _, _, _, _, _, k, _, rfl, N.net, N.cs, refs_get hk, _, _, _, _, _, rfl, N.ch hk, T.cl_Channel, T.n_reader, chF_reader .., _, rfl, rfl, ?_⟩
      rw [int_dec, dec_iff (show (((chan s k).to + 1 : Nat) : Int) = (p : Int) ↔ (chan s (k + 1 - 1)).to = p - 1 by rw [Nat.add_sub_cancel]; omega)]
      exact q
    · refine ifF (decide_eq_false (by omega)) ?_
      rw [decide_eq_false h1] at q
      exact q
abbrev s_is_target : Stmt := top 10
theorem sc_is_target : FnScope ["net", "owner", "number"] ["net", "owner", "number"] (defScope s_is_target) := ⟨rfl, rfl, rfl, by decide +kernel, rfl, by decide +kernel, by decide +kernel⟩
theorem ok_is_target {f : Addr} {fd : FuncData} (F : L2.Fun K "is_target" "is_target" s_is_target f fd) (T : Txt K mg C) (m_has_channel : C8.Met P w K mg base 1 C.cn "has_channel" (sp_Net_has_channel K C TT) []) (m_channel : C8.Met P w K mg base 1 C.cn "channel" (sp_Net_channel K C TT) []) : FnOk P w K mg base L2.CX0 2 f fd ["net", "owner", "number"] (sp_is_target K C TT) := by
  refine F.ok sc_is_target (fun vs H Q E h => ?_) (fun cdv A outer s0 H vs Q E hr h => ?_)
  · obtain ⟨L, s, p, n, rfl, _⟩ := h
    rfl
  · obtain ⟨L, s, p, n, rfl, N, hp, q⟩ := h
    refine ⟨_, (pss_one (ps_ret (pe_and (C8.pe_mt m_has_channel hr (by decide) (pv 0) (pa_cons (pv 2) pa_nil)) (pe_one (pe_cmpR op_eq (pe_fld (C8.pe_mt m_channel hr (by decide) (pv 0) (pa_cons (pv 2) pa_nil)) rfl) (pv 1) (nomark _)))))), ?_⟩
    refine ⟨_, rfl, _, _, _, rfl, N.net, ntF_no_has_channel .., _, rfl, _, _, _, _, _, _, _, _, rfl, N.net, N.cs, _, rfl, ?_⟩
    rw [refs_len]
    unfold tgtFit at q
    rw [within_eq] at q
    by_cases h1 : 1 ≤ n ∧ n ≤ s.chans.length
    · refine ifT (decide_eq_true (by omega)) ?_
      rw [decide_eq_true h1, Bool.true_and] at q
      obtain ⟨k, rfl⟩ : ∃ k, n = k + 1 := ⟨n - 1, by omega⟩
      have hk : k < s.chans.length := by omega
      refine ⟨_, rfl, _, _, _, rfl, N.net, ntF_no_channel .., _, rfl, _, _, _, _, _, _, _, k, _, rfl, N.net, N.cs, refs_get hk, _, _, _, _, _, rfl, N.ch hk, T.cl_Channel, T.n_writer, chF_writer .., _, rfl, rfl, ?_⟩
      rw [int_dec, dec_iff (show (((chan s k).from_ + 1 : Nat) : Int) = (p : Int) ↔ (chan s (k + 1 - 1)).from_ = p - 1 by rw [Nat.add_sub_cancel]; omega)]
      exact q
    · refine ifF (decide_eq_false (by omega)) ?_
      rw [decide_eq_false h1] at q
      exact q
abbrev s_number_fits : Stmt := top 11
theorem sc_number_fits : FnScope ["net", "owner", "behind_last", "kind", "number"] ["net", "owner", "behind_last", "kind", "number"] (defScope s_number_fits) := ⟨rfl, rfl, rfl, by decide +kernel, rfl, by decide +kernel, by decide +kernel⟩
theorem ok_number_fits {f : Addr} {fd : FuncData} (F : L2.Fun K "number_fits" "number_fits" s_number_fits f fd) (T : Txt K mg C) (c_is_source : C8.Cal P w K mg base 2 "is_source" (sp_is_source K C TT) []) (c_is_target : C8.Cal P w K mg base 2 "is_target" (sp_is_target K C TT) []) : FnOk P w K mg base L2.CX0 3 f fd ["net", "owner", "behind_last", "kind", "number"] (sp_number_fits K C TT) := by
  refine F.ok sc_number_fits (fun vs H Q E h => ?_) (fun cdv A outer s0 H vs Q E hr h => ?_)
  · obtain ⟨L, s, p, m, kind, n, rfl, _⟩ := h
    rfl
  · obtain ⟨L, s, p, m, kind, n, rfl, N, hp, q⟩ := h
    refine ⟨_, (pss_cons (ps_if (pt_cmpR op_eq (pv 3) pe_str (nomark _)) (pss_one (ps_ret (pe_cmpR op_le (pv 4) (C8.pe_gc rfl T.g_LAST_REGISTER) (nomark _)))) pss_nil) (pss_cons (ps_if (pt_cmpR op_eq (pv 3) pe_str (nomark _)) (pss_one (ps_ret (C8.pe_c c_is_source hr (by decide) rfl (pa_cons (pv 0) (pa_cons (pv 1) (pa_cons (pv 4) pa_nil)))))) pss_nil) (pss_cons (ps_if (pt_cmpR op_eq (pv 3) pe_str (nomark _)) (pss_one (ps_ret (C8.pe_c c_is_target hr (by decide) rfl (pa_cons (pv 0) (pa_cons (pv 1) (pa_cons (pv 4) pa_nil)))))) pss_nil) (pss_cons (ps_if (pt_cmpR op_eq (pv 3) pe_str (nomark _)) (pss_one (ps_ret (pe_cmpR op_le (pv 4) (C8.pe_gc rfl T.g_MOST_VALUE) (nomark _)))) pss_nil) (pss_cons (ps_if (pt_cmpR op_eq (pv 3) pe_str (nomark _)) (pss_one (ps_ret (pe_chain op_le op_le pe_int (pv 4) (pv 2)))) pss_nil) (pss_one (ps_ret (pe_cmpR op_eq (pv 4) pe_int (nomark _))))))))), ?_⟩
    unfold nFit at q
    refine ⟨_, rfl, rfl, _, rfl, ?_⟩
    by_cases h1 : kind = "cell"
    · refine ifT (strT h1) ?_
      rw [if_pos h1, dec_iff (show n ≤ 3 ↔ (n : Int) ≤ 3 by omega)] at q
      exact ⟨_, rfl, _, _, rfl, rfl, q⟩
    refine ifF (strF h1) ?_
    rw [if_neg h1] at q
    refine ⟨_, rfl, rfl, _, rfl, ?_⟩
    by_cases h2 : kind = "source"
    · refine ifT (strT h2) ?_
      rw [if_pos h2] at q
      exact ⟨_, rfl, _, rfl, _, rfl, L, s, p, n, rfl, N, hp, q⟩
    refine ifF (strF h2) ?_
    rw [if_neg h2] at q
    refine ⟨_, rfl, rfl, _, rfl, ?_⟩
    by_cases h3 : kind = "target"
    · refine ifT (strT h3) ?_
      rw [if_pos h3] at q
      exact ⟨_, rfl, _, rfl, _, rfl, L, s, p, n, rfl, N, hp, q⟩
    refine ifF (strF h3) ?_
    rw [if_neg h3] at q
    refine ⟨_, rfl, rfl, _, rfl, ?_⟩
    by_cases h4 : kind = "value"
    · refine ifT (strT h4) ?_
      rw [if_pos h4, dec_iff (show n ≤ 65535 ↔ (n : Int) ≤ 65535 by omega)] at q
      exact ⟨_, rfl, _, _, rfl, rfl, q⟩
    refine ifF (strF h4) ?_
    rw [if_neg h4] at q
    refine ⟨_, rfl, rfl, _, rfl, ?_⟩
    by_cases h5 : kind = "place"
    · refine ifT (strT h5) ?_
      rw [if_pos h5, within_eq] at q
      refine ⟨_, rfl, _, _, rfl, rfl, _, rfl, ?_⟩
      by_cases h6 : 1 ≤ n
      · refine ifT (decide_eq_true (by omega)) ?_
        rw [dec_iff (show (1 ≤ n ∧ n ≤ m + 1) ↔ (n : Int) ≤ ((m + 1 : Nat) : Int) by omega)] at q
        exact ⟨_, rfl, _, _, rfl, rfl, q⟩
      · refine ifF (decide_eq_false (by omega)) ?_
        rw [decide_eq_false (fun z => h6 z.1)] at q
        exact q
    refine ifF (strF h5) ?_
    rw [if_neg h5] at q
    refine ⟨_, rfl, rfl, ?_⟩
    rw [int_dec, dec_iff (show (n : Int) = 0 ↔ n = 0 by omega)]
    exact q
abbrev s_instruction_fits : Stmt := top 12
theorem sc_instruction_fits : FnScope ["net", "owner", "behind_last", "instruction", "kinds", "at"] ["net", "owner", "behind_last", "instruction"] (defScope s_instruction_fits) := ⟨rfl, rfl, rfl, by decide +kernel, rfl, by decide +kernel, by decide +kernel⟩
theorem ok_instruction_fits {f : Addr} {fd : FuncData} (F : L2.Fun K "instruction_fits" "instruction_fits" s_instruction_fits f fd) (T : Txt K mg C) (c_number_fits : C8.Cal P w K mg base 3 "number_fits" (sp_number_fits K C TT) []) : FnOk P w K mg base L2.CX0 4 f fd ["net", "owner", "behind_last", "instruction"] (sp_instruction_fits K C TT) := by
  refine F.ok sc_instruction_fits (fun vs H Q E h => ?_) (fun cdv A outer s0 H vs Q E hr h => ?_)
  · obtain ⟨L, s, p, m, r, o, x, y, z, rfl, _⟩ := h
    rfl
  · obtain ⟨L, s, p, m, r, o, x, y, z, rfl, N, hp, hr4, q⟩ := h
    refine ⟨_, (pss_cons (ps_if (pt_cmpR op_ge (pe_ix ix_list (pv 3) pe_int (fun _ _ => rfl)) (pe_callB call_len_seq (by rfl) T.len PySem.boot_len (pa_cons (C8.pe_gc rfl T.g_KINDS) pa_nil)) (nomark _)) (pss_one (ps_ret pe_bl)) pss_nil) (pss_cons (ps_set (i := 4) sc_instruction_fits.nd rfl (Or.inl rfl) (pe_ix ix_tup (C8.pe_gc rfl T.g_KINDS) (pe_ix ix_list (pv 3) pe_int (fun _ _ => rfl)) (fun _ _ => rfl))) (pss_cons (ps_for PassesOwn.never rfl (pi_range1 rfl T.range (pa_cons pe_int pa_nil)) (pg_name (i := 5) sc_instruction_fits.nd rfl (Or.inl rfl)) (pss_one (ps_if (pt_not (pt_val (C8.pe_c c_number_fits hr (by decide) rfl (pa_cons (pv 0) (pa_cons (pv 1) (pa_cons (pv 2) (pa_cons (pe_ix ix_tup (pv 4) (pv 5) (fun _ _ => rfl)) (pa_cons (pe_ix ix_list (pv 3) (pe_op op_add (pv 5) pe_int) (fun _ _ => rfl)) pa_nil)))))))) (pss_one (ps_ret pe_bl)) pss_nil))) (pss_one (ps_ret pe_bl))))), ?_⟩
    refine ⟨_, rfl, _, _, _, _, rfl, rfl, SqL.of hr4, vI_at (k := 0) rfl, C.kinds, _, rfl, .inr (T.t_KINDS _), _, _, rfl, rfl, _, rfl, ?_⟩
    by_cases ho : 11 ≤ o
    · refine ifT (decide_eq_true (by rw [List.length_map, T.n_kin]; omega)) ?_
      rw [right_not ho] at q
      exact q
    refine ifF (decide_eq_false (by rw [List.length_map, T.n_kin]; omega)) ?_
    obtain ⟨a, b, c, hk⟩ := kind_row (o := o) (by omega)
    obtain ⟨ka, hka, hsq⟩ := T.t_kin o _ hk
    rw [right_is hk] at q
    refine ⟨_, rfl, _, _, _, _, rfl, rfl, SqL.of hr4, vI_at (k := 0) rfl, C.kinds, _, _, _, rfl, rfl, T.t_KINDS _, atI_of (by rw [List.getElem?_map, hka]; rfl), ?_⟩
    refine ⟨3, rfl, by decide, by decide, for_range (lo := 0) (n := 3) (fun k σ H' => (∃ v, σ = [some (.ref (L.addr .net)), some (.int (p : Int)), some (.int ((m + 1 : Nat) : Int)), some (.ref r), some (.ref ka), v]) ∧ H' = H ∧ (1 ≤ k → nFit s p m a x = true) ∧ (2 ≤ k → nFit s p m b y = true) ∧ (3 ≤ k → nFit s p m c z = true))
      ⟨⟨none, rfl⟩, rfl, by omega, by omega, by omega⟩ ?_ ?_⟩
    · rintro k σ H' hk3 ⟨⟨v, rfl⟩, rfl, h1, h2, h3⟩
      have hk' : k = 0 ∨ k = 1 ∨ k = 2 := by omega
      have ix : ∀ (k : Nat) (kd : Str), ([a, b, c] : List Str)[k]? = some kd → atI (([a, b, c] : List Str).map V.str) ((0 : Int) + (k : Nat)) = some (V.str kd) := fun k kd e => by
        rw [Int.zero_add]
        exact atI_of (by rw [List.getElem?_map, e]; rfl)
      have iy : ∀ (k n : Nat), ([o, x, y, z] : List Nat)[k + 1]? = some n → atI (vI [o, x, y, z]) ((0 : Int) + (k : Nat) + 1) = some (V.int (n : Int)) := fun k n e => by
        have e1 : (0 : Int) + (k : Nat) + 1 = ((k + 1 : Nat) : Int) := by omega
        rw [e1]
        exact vI_at e
      rcases hk' with rfl | rfl | rfl
      · refine ⟨_, rfl, _, rfl, _, rfl, _, rfl, _, rfl, ka, _, _, _, rfl, rfl, hsq _, ix 0 a rfl, _, rfl, _, rfl, _, _, rfl, rfl, _, _, _, _, rfl, rfl, SqL.of hr4, iy 0 x rfl, L, s, p, m, a, x, rfl, N, hp, _, rfl, ?_⟩
        cases hf : nFit s p m a x with
        | true => exact ifF rfl ⟨⟨_, rfl⟩, rfl, fun _ => rfl, by omega, by omega⟩
        | false =>
          rw [hf] at q
          exact ifT rfl q
      · have g1 := h1 (by omega)
        refine ⟨_, rfl, _, rfl, _, rfl, _, rfl, _, rfl, ka, _, _, _, rfl, rfl, hsq _, ix 1 b rfl, _, rfl, _, rfl, _, _, rfl, rfl, _, _, _, _, rfl, rfl, SqL.of hr4, iy 1 y rfl, L, s, p, m, b, y, rfl, N, hp, _, rfl, ?_⟩
        cases hf : nFit s p m b y with
        | true => exact ifF rfl ⟨⟨_, rfl⟩, rfl, fun _ => g1, fun _ => rfl, by omega⟩
        | false =>
          rw [g1, hf] at q
          exact ifT rfl q
      · have g1 := h1 (by omega)
        have g2 := h2 (by omega)
        refine ⟨_, rfl, _, rfl, _, rfl, _, rfl, _, rfl, ka, _, _, _, rfl, rfl, hsq _, ix 2 c rfl, _, rfl, _, rfl, _, _, rfl, rfl, _, _, _, _, rfl, rfl, SqL.of hr4, iy 2 z rfl, L, s, p, m, c, z, rfl, N, hp, _, rfl, ?_⟩
        cases hf : nFit s p m c z with
        | true => exact ifF rfl ⟨⟨_, rfl⟩, rfl, fun _ => g1, fun _ => g2, fun _ => rfl⟩
        | false =>
          rw [g1, g2, hf] at q
          exact ifT rfl q
    · rintro σ H' ⟨⟨v, rfl⟩, rfl, h1, h2, h3⟩
      rw [h1 (by omega), h2 (by omega), h3 (by omega)] at q
      exact q
abbrev s_instructions_fit : Stmt := top 13
theorem sc_instructions_fit : FnScope ["net", "owner", "numbers", "behind_last", "start"] ["net", "owner", "numbers"] (defScope s_instructions_fit) := ⟨rfl, rfl, rfl, by decide +kernel, rfl, by decide +kernel, by decide +kernel⟩
theorem ok_instructions_fit {f : Addr} {fd : FuncData} (F : L2.Fun K "instructions_fit" "instructions_fit" s_instructions_fit f fd) (T : Txt K mg C) (c_instruction_fits : C8.Cal P w K mg base 4 "instruction_fits" (sp_instruction_fits K C TT) []) : FnOk P w K mg base L2.CX0 5 f fd ["net", "owner", "numbers"] (sp_instructions_fit K C TT) := by
  refine F.ok sc_instructions_fit (fun vs H Q E h => ?_) (fun cdv A outer s0 H vs Q E hr h => ?_)
  · obtain ⟨L, s, p, a, l, rfl, _⟩ := h
    rfl
  · obtain ⟨L, s, p, a, l, rfl, N, hp, ha, hl, q⟩ := h
    refine ⟨_, (pss_cons (ps_if (PW.pt (pw_or (pt_cmpR op_ne (pe_op op_mod (pe_callB call_len_seq (by rfl) T.len PySem.boot_len (pa_cons (pv 2) pa_nil)) pe_int) pe_int (nomark _)) (pw_or1 (pt_cmpR op_gt (pe_op op_fdiv (pe_callB call_len_seq (by rfl) T.len PySem.boot_len (pa_cons (pv 2) pa_nil)) pe_int) (C8.pe_gc rfl T.g_MOST_INSTRUCTIONS) (nomark _))))) (pss_one (ps_ret pe_bl)) pss_nil) (pss_cons (ps_set (i := 3) sc_instructions_fit.nd rfl (Or.inl rfl) (pe_op op_add (pe_op op_fdiv (pe_callB call_len_seq (by rfl) T.len PySem.boot_len (pa_cons (pv 2) pa_nil)) pe_int) pe_int)) (pss_cons (ps_for PassesOwn.never rfl (pi_range3 rfl T.range (pa_cons pe_int (pa_cons (pe_callB call_len_seq (by rfl) T.len PySem.boot_len (pa_cons (pv 2) pa_nil)) (pa_cons pe_int pa_nil)))) (pg_name (i := 4) sc_instructions_fit.nd rfl (Or.inl rfl)) (pss_one (ps_if (pt_not (pt_val (C8.pe_c c_instruction_fits hr (by decide) rfl (pa_cons (pv 0) (pa_cons (pv 1) (pa_cons (pv 3) (pa_cons (pe_slice sl_list (pv 2) (po_some (pv 4)) (po_some (pe_op op_add (pv 4) pe_int))) pa_nil))))))) (pss_one (ps_ret pe_bl)) pss_nil))) (pss_one (ps_ret pe_bl))))), ?_⟩
    refine ⟨_, rfl, a, _, rfl, .inl (SqL.of ha), _, _, rfl, rfl, (by show (0 : Int) < 4; decide), rfl, _, rfl, ?_⟩
    rw [vI_len]
    unfold prFit at q
    by_cases h1 : l.length % 4 = 0
    · refine ifF (by rw [dT (show ((l.length : Nat) : Int) % 4 = 0 by omega)]; rfl) ?_
      rw [decide_eq_true h1, Bool.true_and] at q
      refine ⟨_, rfl, a, _, rfl, .inl (SqL.of ha), _, _, rfl, rfl, ⟨by decide, by decide⟩, _, _, rfl, rfl, _, rfl, ?_⟩
      rw [vI_len]
      by_cases h2 : l.length ≤ 96
      · refine ifF (decide_eq_false (by omega)) ?_
        rw [decide_eq_true h2, Bool.true_and] at q
        obtain ⟨m, hm⟩ : ∃ m, l.length = 4 * m := ⟨l.length / 4, by omega⟩
        have hrg := rg4 m (by omega)
        have tl := fours_len m l hm
        have hm4 : l.length / 4 = m := by omega
        rw [hm4] at q
        refine ⟨_, rfl, a, _, rfl, .inl (SqL.of ha), _, _, rfl, rfl, ⟨by decide, by decide⟩, _, _, rfl, rfl, ?_⟩
        have eb : ((vI l).length : Int) / 4 + 1 = ((m + 1 : Nat) : Int) := by rw [vI_len]; omega
        dsimp only
        rw [eb]
        refine ⟨_, rfl, a, _, rfl, .inl (SqL.of ha), _, _, _, m, rfl, by rw [vI_len, hm]; exact hrg, for_rangeC (lo := 0) (c := 4) (n := m) (fun k σ H' => (∃ v, σ = [some (.ref (L.addr .net)), some (.int (p : Int)), some (.ref a), some (.int ((m + 1 : Nat) : Int)), v]) ∧ Same H H' ∧ ((fours l).take k).all (isRight s (p - 1) m) = true) ⟨⟨none, rfl⟩, Same.refl _, rfl⟩ ?_ ?_⟩
        · rintro k σ H' hk ⟨⟨v, rfl⟩, sm, hall⟩
          obtain ⟨o, x, y, z, e4, et⟩ := fours_get k l (by omega)
          have N' := N.same sm
          have ha' := sm _ _ ha
          refine ⟨_, rfl, _, rfl, _, rfl, _, rfl, _, rfl, _, rfl, _, rfl, _, _, rfl, rfl, _, rfl, a, _, rfl, SqL.of ha', fun r hr' => ?_⟩
          have ec : cutV (vI l) (some ((0 : Int) + ((k : Nat) : Int) * 4)) (some ((0 : Int) + ((k : Nat) : Int) * 4 + 4)) = vI [o, x, y, z] := cut_four (by omega) e4
          rw [ec]
          refine ⟨L, s, p, m, r, o, x, y, z, rfl, N'.new hr', hp, upd_same, _, rfl, ?_⟩
          cases hf : isRight s (p - 1) m (o, x, y, z) with
          | true => exact ifF rfl ⟨⟨_, rfl⟩, sm.trans (same_new hr'), all_take _ hall et hf⟩
          | false =>
            refine ifT rfl ?_
            have := q _ (sm.trans (same_new (o := .lst (vI [o, x, y, z])) hr'))
            rw [all_false _ et hf] at this
            exact this
        · rintro σ H' ⟨⟨v, rfl⟩, sm, hall⟩
          rw [List.take_of_length_le (Nat.le_of_eq tl)] at hall
          have := q _ sm
          rw [hall] at this
          exact this
      · refine ifT (decide_eq_true (by omega)) ?_
        have := q _ (Same.refl _)
        rw [decide_eq_false h2] at this
        exact this
    · refine ifT (by rw [dF (show ((l.length : Nat) : Int) % 4 ≠ 0 by omega)]; rfl) (ifT rfl ?_)
      have := q _ (Same.refl _)
      rw [decide_eq_false h1] at this
      exact this
end
end Ro
end part_D8
section part_D9
set_option linter.unusedVariables false
set_option maxRecDepth 100000
set_option maxHeartbeats 2000000
namespace Ro
open PySem PySem.Spec PyProof.Rows L2
open Hs09 (Instr Proc Chan proc chan within threes fours fresh)
/-- the heap but for one object -/
def sans (H : Hp) (a : Addr) : Hp := fun b => if b = a then none else H b
theorem sans_here {H : Hp} {a : Addr} : sans H a a = none := if_pos rfl
theorem sans_ne {H : Hp} {a b : Addr} (h : b ≠ a) : sans H a b = H b := if_neg h
theorem sans_some {H : Hp} {a b : Addr} {o : HO} (h : sans H a b = some o) : b ≠ a ∧ H b = some o := by
  by_cases z : b = a
  · rw [z, sans_here] at h; cases h
  · rw [sans_ne z] at h; exact ⟨z, h⟩
theorem sans_none {H : Hp} {a b : Addr} (h : H b = none) : sans H a b = none := by
  by_cases z : b = a
  · rw [z]; exact sans_here
  · rw [sans_ne z]; exact h
def Lay.none : Lay := ⟨fun _ => 0, fun _ => 0, fun _ => .out⟩
/-- what stands in the net and nowhere else is laid anew -/
def layQ (C : Cs) (TT : List NTab) (net : Addr) (n : Nat) (l : List Nat) (H : Hp) (Q : VK) : Prop :=
  ∀ (H' : Hp) (L : Lay), NetAt C TT L H' (fresh n (threes l)) → L.addr .net = net → (∀ b o, H b = some o → b ≠ net → H' b = some o ∧ L.tag b = .out) → Q .non H'
def sp_Net_lay (K : PySem.W.Frag) (C : Cs) (TT : List NTab) : Sp := fun vs H Q _ => ∃ (net dn a b : Addr) (c d : Int) (n : Nat) (p : Addr) (l : List Nat), vs = [.ref net, .int (n : Int), .ref p] ∧ H net = some (.ins C.cn dn (ntF a b c d)) ∧ H p = some (.lst (vI l)) ∧ n ≤ 6 ∧ chsFit n l = true ∧ TabsN TT H ∧ layQ C TT net n l H Q
def sp_Net_init (K : PySem.W.Frag) (C : Cs) (TT : List NTab) : Sp := fun vs H Q _ => ∃ (net dn : Addr) (n : Nat) (p : Addr) (l : List Nat), vs = [.ref net, .int (n : Int), .ref p] ∧ H net = some (.ins C.cn dn []) ∧ H p = some (.lst (vI l)) ∧ n ≤ 6 ∧ chsFit n l = true ∧ TabsN TT H ∧ layQ C TT net n l H Q
theorem chs_ok {n : Nat} {l : List Nat} (h : chsFit n l = true) : ∃ m, l.length = 3 * m ∧ m ≤ 10 ∧ (threes l).length = m ∧ ∀ x ∈ threes l, 1 ≤ x.1 ∧ 1 ≤ x.2.1 := by
  unfold chsFit at h
  rw [Bool.and_eq_true, Bool.and_eq_true, decide_eq_true_iff, decide_eq_true_iff] at h
  refine ⟨l.length / 3, by omega, by omega, threes_len _ _ (by omega), fun x hx => ?_⟩
  have := List.all_eq_true.mp h.2.2 x hx
  unfold chFit at this
  rw [Bool.and_eq_true, Bool.and_eq_true, within_iff, within_iff, within_iff] at this
  exact ⟨this.1.1, this.2.1.1⟩
theorem tabs_new {T : List NTab} {H : Hp} {p : Addr} {o : HO} (t : TabsN T H) (h : H p = none) : TabsN T (upd H p o) := LamX.Tabs.ext t (same_new h)
section
variable {P : Program} {w : World} {K : PySem.W.Frag} {mg : Str → Option Value} {base : Heap} {C : Cs} {TT : List NTab}
abbrev s_Net_lay : Stmt := inClass (top 17) 1
theorem sc_Net_lay : FnScope ["self", "how_many", "rows", "number", "start"] ["self", "how_many", "rows"] (defScope s_Net_lay) := ⟨rfl, rfl, rfl, by decide +kernel, rfl, by decide +kernel, by decide +kernel⟩
theorem ok_Net_lay {f : Addr} {fd : FuncData} (F : L2.Fun K "lay" "Net.lay" s_Net_lay f fd) (T : Txt K mg C) (k_Process : C8.Mak P w K mg base 1 "Process" C.cp (sp_Process_init K C TT) []) (k_Channel : C8.Mak P w K mg base 1 "Channel" C.cc (sp_Channel_init K C TT) []) : FnOk P w K mg base L2.CX0 3 f fd ["self", "how_many", "rows"] (sp_Net_lay K C TT) := by
  refine F.ok sc_Net_lay (fun vs H Q E h => ?_) (fun cdv A outer s0 H vs Q E hr h => ?_)
  · obtain ⟨net, dn, a, b, c, d, n, p, l, rfl, _⟩ := h
    rfl
  · obtain ⟨net, dn, a, b, c, d, n, p, l, rfl, hnet, hp, hn6, hfit, hT, q⟩ := h
    refine ⟨_, (pss_cons (ps_fld (pv 0) (pe_lc (own := [("number", 3)]) (g := gName 3) (te := (tMake C.cp (sp_Process_init K C TT) [] C8.E0 tNil)) (tt := tYes) rfl sc_Net_lay.nd (pi_range1 rfl T.range (pa_cons (pv 1) pa_nil)) (blkOk_by (own := [("number", 3)]) (N := ["self", "how_many", "rows", "number", "start"]) (sc := defScope s_Net_lay) (by decide +kernel)) (fun _ _ _ _ _ => pg_name (i := 3) sc_Net_lay.nd rfl (Or.inl rfl)) (fun _ _ _ _ _ => pts_nil) (fun _ _ _ _ _ => (pe_mk0 k_Process hr (by decide) rfl))) rfl) (pss_cons (ps_fld (pv 0) (pe_lc (own := [("start", 4)]) (g := gName 4) (te := (tMake C.cc (sp_Channel_init K C TT) [] C8.E0 (tCons (tOp (rIxL K) (tVar 2) (tVar 4)) (tCons (tOp (rIxL K) (tVar 2) (tOp (rI0 fun i j => .int (i + j)) (tVar 4) (tC (.int 1)))) (tCons (tOp (rIxL K) (tVar 2) (tOp (rI0 fun i j => .int (i + j)) (tVar 4) (tC (.int 2)))) tNil))))) (tt := tYes) rfl sc_Net_lay.nd (pi_range3 rfl T.range (pa_cons pe_int (pa_cons (pe_callB call_len_seq (by rfl) T.len PySem.boot_len (pa_cons (pv 2) pa_nil)) (pa_cons pe_int pa_nil)))) (blkOk_by (own := [("start", 4)]) (N := ["self", "how_many", "rows", "number", "start"]) (sc := defScope s_Net_lay) (by decide +kernel)) (fun _ _ _ _ _ => pg_name (i := 4) sc_Net_lay.nd rfl (Or.inl rfl)) (fun _ _ _ _ _ => pts_nil) (fun _ _ _ _ _ => (C8.pe_mk k_Channel hr (by decide) rfl (pa_cons (pe_ix ix_list (pv 2) (pv 4) (fun _ _ => rfl)) (pa_cons (pe_ix ix_list (pv 2) (pe_op op_add (pv 4) pe_int) (fun _ _ => rfl)) (pa_cons (pe_ix ix_list (pv 2) (pe_op op_add (pv 4) pe_int) (fun _ _ => rfl)) pa_nil)))))) rfl) (pss_cons (ps_fld (pv 0) pe_int rfl) (pss_one (ps_fld (pv 0) pe_int rfl))))), ?_⟩
    have hbig : sizeLine = 16777216 := by decide
    obtain ⟨m, hm, hm10, tlen, tok⟩ := chs_ok hfit
    have npn : p ≠ net := ne_of hp hnet (by intro z; cases z)
    refine ⟨_, rfl, (n : Int), rfl, by omega, by omega, fun D hD => lc_range (lo := 0) (n := n) (fun k H' => ∃ L, NewP C L H' k ∧ Rest L (sans H net) H' ∧ H' D = some (.lst (refs (fun i => L.addr (.pr i)) k)) ∧ L.tag D = .out ∧ L.tag net = .out ∧ H' net = some (.ins C.cn dn (ntF a b c d)) ∧ TabsN TT H') ?_ ?_ ?_⟩
    · refine ⟨Lay.none, ⟨by omega, by omega, by omega, by omega⟩, ⟨fun b o e => ?_, fun b z => absurd rfl z⟩, upd_same, rfl, rfl, ?_, tabs_new hT hD⟩
      · obtain ⟨_, e⟩ := sans_some e
        exact ⟨by rw [upd_ne (ne_of_none e hD)]; exact e, rfl⟩
      · rw [upd_ne (ne_of_none hnet hD)]; exact hnet
    · rintro k H' hk ⟨L, hP, hR, hDl, tD, tn, hn', hT'⟩
      refine ⟨rfl, tYes_if ?_⟩
      intro x dx hx hdx nxd
      refine ⟨x, dx, rfl, upd_same, fun H4 g r s hg hr' hs gr gs rs e2 e3 e4 e1 keep => ⟨rfl, ?_⟩⟩
      have nf : ∀ y, upd (upd H' dx (.own x)) x (.ins C.cp dx []) y = none → y ≠ x ∧ H' y = none := fun y hy => by
        have n1 : y ≠ x := fun z => by rw [z, upd_same] at hy; cases hy
        rw [upd_ne n1] at hy
        have n2 : y ≠ dx := fun z => by rw [z, upd_same] at hy; cases hy
        rw [upd_ne n2] at hy
        exact ⟨n1, hy⟩
      obtain ⟨ngx, hg0⟩ := nf g hg
      obtain ⟨nrx, hr0⟩ := nf r hr'
      obtain ⟨nsx, hs0⟩ := nf s hs
      have S : Same H' H4 := fun b o e => keep b o (by rw [upd_ne (ne_of_none e hx), upd_ne (ne_of_none e hdx)]; exact e) (ne_of_none e hx)
      obtain ⟨L', hP', hR', ax, ao, tg⟩ := hP.add hR hx hg0 hr0 hs0 ngx.symm nrx.symm nsx.symm gr gs rs S e1 e2 e3 e4
      have tD' : L'.tag D = .out := (tg D _ hDl).trans tD
      have hD4 := S _ _ hDl
      refine ⟨_, hD4, by rw [refs_len]; omega, L', hP'.out tD', hR'.out (sans_none hD) tD', ?_, tD', (tg net _ hn').trans tn, ?_, tabs_put (LamX.Tabs.ext hT' S) hD4 trivial⟩
      · rw [upd_same, refs_more (f := fun i => L.addr (.pr i)) ao ax]
      · rw [upd_ne (ne_of (S _ _ hn') hD4 (by intro z; cases z))]; exact S _ _ hn'
    · rintro H1 ⟨L, hP, hR, hDl, tD, tn, hn1, hT1⟩
      have nDn : D ≠ net := ne_of hDl hn1 (by intro z; cases z)
      refine ⟨_, rfl, net, C.cn, dn, _, rfl, hn1, T.cl_Net, T.n_processes, (by show 4 < 1000; decide), ?_⟩
      rw [ntF_put_processes]
      have hP := hP.out (o := .ins C.cn dn (ntF D b c d)) tn
      have hR := hR.out (o := .ins C.cn dn (ntF D b c d)) sans_here tn
      have hT2 : TabsN TT (upd H1 net (.ins C.cn dn (ntF D b c d))) := tabs_put hT1 hn1 trivial
      have hDl : upd H1 net (.ins C.cn dn (ntF D b c d)) D = some (.lst (refs (fun i => L.addr (.pr i)) n)) := by rw [upd_ne nDn]; exact hDl
      have hn2 : upd H1 net (.ins C.cn dn (ntF D b c d)) net = some (.ins C.cn dn (ntF D b c d)) := upd_same
      generalize upd H1 net (.ins C.cn dn (ntF D b c d)) = H2 at hP hR hT2 hDl hn2
      have hp2 : H2 p = some (.lst (vI l)) := (hR.old p _ (by rw [sans_ne npn]; exact hp)).1
      refine ⟨_, rfl, p, _, rfl, .inl (SqL.of hp2), _, _, _, m, rfl, by rw [vI_len, hm]; exact rg3 m (by omega), fun E2 hE2 => ?_⟩
      have nDE : D ≠ E2 := ne_of_none hDl hE2
      have npE : p ≠ E2 := ne_of_none hp2 hE2
      have zE : sans H net E2 = none := by
        cases e : sans H net E2 with
        | none => rfl
        | some o => rw [(hR.old _ _ e).1] at hE2; cases hE2
      refine lc_rangeC (lo := 0) (c := 3) (n := m) (fun k H' => ∃ L, NewP C L H' n ∧ NewC C L H' ((threes l).take k) ∧ Rest L (sans H net) H' ∧ H' D = some (.lst (refs (fun i => L.addr (.pr i)) n)) ∧ H' E2 = some (.lst (refs (fun j => L.addr (.ch j)) k)) ∧ L.tag D = .out ∧ L.tag E2 = .out ∧ L.tag net = .out ∧ H' net = some (.ins C.cn dn (ntF D b c d)) ∧ TabsN TT H' ∧ H' p = some (.lst (vI l))) ?_ ?_ ?_
      · have tE : L.tag E2 = .out := by
          cases e : L.tag E2 with
          | out => rfl
          | _ =>
            obtain ⟨o, z, _⟩ := hR.dom E2 (by rw [e]; intro z; cases z)
            rw [hE2] at z; cases z
        have S0 := same_new (o := .lst []) hE2
        exact ⟨L, hP.same S0, ⟨fun j x e => by simp at e, fun j x e => by simp at e⟩, hR.same S0, S0 _ _ hDl, upd_same, tD, tE, tn, S0 _ _ hn2, tabs_new hT2 hE2, S0 _ _ hp2⟩
      · rintro k H' hk ⟨L, hP, hC, hR, hDl, hEl, tD, tE, tn, hn', hT', hp'⟩
        obtain ⟨ya, yb, yc, ea, eb, ec, et⟩ := threes_get k l (by omega)
        have i0 : (0 : Int) + ((k : Nat) : Int) * 3 = ((3 * k : Nat) : Int) := by omega
        have i1 : (0 : Int) + ((k : Nat) : Int) * 3 + 1 = ((3 * k + 1 : Nat) : Int) := by omega
        have i2 : (0 : Int) + ((k : Nat) : Int) * 3 + 2 = ((3 * k + 2 : Nat) : Int) := by omega
        have lk : ((threes l).take k).length = k := by rw [List.length_take, tlen]; omega
        refine ⟨rfl, tYes_if ?_⟩
        refine ⟨_, rfl, _, rfl, _, _, _, _, rfl, rfl, SqL.of hp', (by rw [i0]; exact vI_at ea), _, rfl, _, rfl, _, _, rfl, rfl, _, _, _, _, rfl, rfl, SqL.of hp', (by rw [i1]; exact vI_at eb), _, rfl, _, rfl, _, _, rfl, rfl, _, _, _, _, rfl, rfl, SqL.of hp', (by rw [i2]; exact vI_at ec), ?_⟩
        intro x dx hx hdx nxd
        refine ⟨x, dx, _, _, _, rfl, upd_same, fun H4 w hw nwx e2 e1 keep => ⟨rfl, ?_⟩⟩
        have hw0 : H' w = none := by
          rw [upd_ne nwx] at hw
          have n2 : w ≠ dx := fun z => by rw [z, upd_same] at hw; cases hw
          rw [upd_ne n2] at hw
          exact hw
        have S : Same H' H4 := fun b o e => keep b o (by rw [upd_ne (ne_of_none e hx), upd_ne (ne_of_none e hdx)]; exact e) (ne_of_none e hx)
        obtain ⟨L', hC', hP', hR', ax, ao, ap, tg⟩ := hC.add (y := (ya, yb, yc)) hP hR hx hw0 nwx.symm S e1 e2
        rw [← take_more et] at hC'
        rw [lk] at ax ao
        have tE' : L'.tag E2 = .out := (tg _ _ hEl).trans tE
        have hE4 := S _ _ hEl
        refine ⟨_, hE4, by rw [refs_len]; omega, L', hP'.out tE', hC'.out tE', hR'.out ?_ tE', ?_, ?_, (tg _ _ hDl).trans tD, tE', (tg _ _ hn').trans tn, ?_, tabs_put (LamX.Tabs.ext hT' S) hE4 trivial, ?_⟩
        · exact zE
        · rw [upd_ne nDE, refs_congr (f := fun i => L.addr (.pr i)) (fun i _ => ap i)]; exact S _ _ hDl
        · rw [upd_same, refs_more (f := fun j => L.addr (.ch j)) ao ax]
        · rw [upd_ne (ne_of (S _ _ hn') hE4 (by intro z; cases z))]; exact S _ _ hn'
        · rw [upd_ne npE]; exact S _ _ hp'
      · rintro H3 ⟨L, hP, hC, hR, hDl, hEl, tD, tE, tn, hn3, hT3, hp3⟩
        refine ⟨_, rfl, net, C.cn, dn, _, rfl, hn3, T.cl_Net, T.n_channels, (by show 4 < 1000; decide), ?_⟩
        rw [ntF_put_channels]
        refine ⟨_, rfl, net, C.cn, dn, _, rfl, upd_same, T.cl_Net, T.n_steps, (by show 4 < 1000; decide), ?_⟩
        rw [ntF_put_steps]
        refine ⟨_, rfl, net, C.cn, dn, _, rfl, upd_same, T.cl_Net, T.n_grown, (by show 4 < 1000; decide), ?_⟩
        rw [ntF_put_grown, upd_upd, upd_upd]
        rw [List.take_of_length_le (Nat.le_of_eq tlen)] at hC
        have nEn : E2 ≠ net := ne_of hEl hn3 (by intro z; cases z)
        obtain ⟨L', N', an, ot⟩ := NetAt.laid (T := TT) (net := net) (dn := dn) (dp := D) (dc := E2) (hP.out (o := .ins C.cn dn (ntF D E2 0 0)) tn) (hC.out tn) (hR.out sans_here tn) upd_same (by rw [upd_ne nDn]; exact hDl) (by rw [upd_ne nEn, tlen]; exact hEl) sans_here (sans_none hD) zE tn tD tE nDE (tabs_put hT3 hn3 trivial) tok
        refine q _ L' N' an fun b o e nb => ?_
        have e' : sans H net b = some o := by rw [sans_ne nb]; exact e
        exact ⟨by rw [upd_ne nb]; exact (hR.old b o e').1, ot b o e'⟩
abbrev s_Net_init : Stmt := inClass (top 17) 0
theorem sc_Net_init : FnScope ["self", "how_many", "rows"] ["self", "how_many", "rows"] (defScope s_Net_init) := ⟨rfl, rfl, rfl, by decide +kernel, rfl, by decide +kernel, by decide +kernel⟩
theorem ok_Net_init {f : Addr} {fd : FuncData} (F : L2.Fun K "__init__" "Net.__init__" s_Net_init f fd) (T : Txt K mg C) (m_lay : C8.Met P w K mg base 3 C.cn "lay" (sp_Net_lay K C TT) []) : FnOk P w K mg base L2.CX0 4 f fd ["self", "how_many", "rows"] (sp_Net_init K C TT) := by
  refine F.ok sc_Net_init (fun vs H Q E h => ?_) (fun cdv A outer s0 H vs Q E hr h => ?_)
  · obtain ⟨net, dn, n, p, l, rfl, _⟩ := h
    rfl
  · obtain ⟨net, dn, n, p, l, rfl, hnet, hp, hn6, hfit, hT, q⟩ := h
    refine ⟨_, (pss_cons (ps_fld (pv 0) (pe_lst pa_nil) rfl) (pss_cons (ps_fld (pv 0) (pe_lst pa_nil) rfl) (pss_cons (ps_fld (pv 0) pe_int rfl) (pss_cons (ps_fld (pv 0) pe_int rfl) (pss_one (ps_expr (C8.pe_mt m_lay hr (by decide) (pv 0) (pa_cons (pv 1) (pa_cons (pv 2) pa_nil))))))))), ?_⟩
    refine ⟨Nat.zero_le _, fun a ha => ?_⟩
    have nna : net ≠ a := ne_of_none hnet ha
    refine ⟨_, rfl, net, C.cn, dn, [], rfl, (by rw [upd_ne nna]; exact hnet), T.cl_Net, T.n_processes, (by show 0 < 1000; decide), ?_⟩
    refine ⟨Nat.zero_le _, fun b hb => ?_⟩
    have nnb : net ≠ b := fun z => by rw [z, upd_same] at hb; cases hb
    rw [upd_ne nnb.symm] at hb
    have nab : a ≠ b := fun z => by rw [z, upd_same] at hb; cases hb
    rw [upd_ne nab.symm] at hb
    refine ⟨_, rfl, net, C.cn, dn, _, rfl, (by rw [upd_ne nnb]; exact upd_same), T.cl_Net, T.n_channels, (by rw [ntF_mk1]; show 1 < 1000; decide), ?_⟩
    refine ⟨_, rfl, net, C.cn, dn, _, rfl, upd_same, T.cl_Net, T.n_steps, (by rw [ntF_mk1, ntF_mk2]; show 2 < 1000; decide), ?_⟩
    refine ⟨_, rfl, net, C.cn, dn, _, rfl, upd_same, T.cl_Net, T.n_grown, (by rw [ntF_mk1, ntF_mk2, ntF_mk3]; show 3 < 1000; decide), ?_⟩
    rw [ntF_mk1, ntF_mk2, ntF_mk3, ntF_mk4, upd_upd, upd_upd]
    have keep : ∀ x o, H x = some o → x ≠ net → upd (upd (upd (upd H a (.lst [])) net (.ins C.cn dn [("processes", V.ref a)])) b (.lst [])) net (.ins C.cn dn (ntF a b 0 0)) x = some o := fun x o e z => by
      rw [upd_ne z, upd_ne (ne_of_none e hb), upd_ne z, upd_ne (ne_of_none e ha)]; exact e
    have hT2 : TabsN TT (upd (upd (upd (upd H a (.lst [])) net (.ins C.cn dn [("processes", V.ref a)])) b (.lst [])) net (.ins C.cn dn (ntF a b 0 0))) := by
      refine tabs_put (o := .ins C.cn dn [("processes", V.ref a)]) (tabs_new (tabs_put (o := .ins C.cn dn []) (tabs_new hT ha) (by rw [upd_ne nna]; exact hnet) trivial) ?_) (by rw [upd_ne nnb]; exact upd_same) trivial
      rw [upd_ne nnb.symm, upd_ne nab.symm]; exact hb
    have npn : p ≠ net := ne_of hp hnet (by intro z; cases z)
    refine ⟨_, rfl, net, dn, _, rfl, upd_same, ntF_no_lay .., _, rfl, _, rfl, net, dn, a, b, 0, 0, n, p, l, rfl, upd_same, keep p _ hp npn, hn6, hfit, hT2, fun H' L N an ot => ?_⟩
    exact q H' L N an fun x o e z => ot x o (keep x o e z) z
end
end Ro
end part_D9
section part_D10
set_option linter.unusedVariables false
set_option maxRecDepth 100000
set_option maxHeartbeats 2000000
namespace Ro
open PySem PySem.Spec PyProof.Rows L2
theorem sq_keep {K : PySem.W.Frag} {H : Hp} {a p : Addr} {xs : List V} {C dx : Addr} {fs : List (Str × V)} {o : HO} (h : SqL K H a xs) (hp : H p = some (.ins C dx fs)) : SqL K (upd H p o) a xs := by
  have ne : ∀ {u : HO}, H a = some u → (∀ C dx fs, u ≠ .ins C dx fs) → a ≠ p := fun e n z => by
    rw [z, hp] at e
    exact n _ _ _ (Option.some.inj e).symm
  rcases h with (h | ⟨ob, h⟩) | h
  · exact .inl (.inl (by rw [upd_ne (ne h (fun _ _ _ z => by cases z))]; exact h))
  · exact .inl (.inr ⟨ob, by rw [upd_ne (ne h (fun _ _ _ z => by cases z))]; exact h⟩)
  · exact .inr h
theorem sq_new {K : PySem.W.Frag} {H : Hp} {a p : Addr} {xs : List V} {o : HO} (h : SqL K H a xs) (hp : H p = none) : SqL K (upd H p o) a xs := (same_new hp).seq h
def sp_Calls_init (K : PySem.W.Frag) (C : Cs) (TT : List NTab) : Sp := fun vs H Q _ => ∃ (p dx nb : Addr), vs = [.ref p, .ref nb] ∧ H p = some (.ins C.cl dx []) ∧ Q .non (upd H p (.ins C.cl dx (clF nb 0)))
def sp_Calls_is_done (K : PySem.W.Frag) (C : Cs) (TT : List NTab) : Sp := fun vs H Q _ => ∃ (p dx nb : Addr) (k : Int) (xs : List V), vs = [.ref p] ∧ H p = some (.ins C.cl dx (clF nb k)) ∧ SqL K H nb xs ∧ Q (.bl (decide ((xs.length : Int) ≤ k))) H
def sp_Calls_number (K : PySem.W.Frag) (C : Cs) (TT : List NTab) : Sp := fun vs H Q _ => ∃ (p dx nb : Addr) (k : Nat) (xs : List V) (v : V), vs = [.ref p] ∧ H p = some (.ins C.cl dx (clF nb (k : Int))) ∧ SqL K H nb xs ∧ xs[k]? = some v ∧ Q v (upd H p (.ins C.cl dx (clF nb ((k + 1 : Nat) : Int))))
def sp_Calls_row (K : PySem.W.Frag) (C : Cs) (TT : List NTab) : Sp := fun vs H Q _ => ∃ (p dx nb : Addr) (k m : Nat) (xs : List V), vs = [.ref p] ∧ H p = some (.ins C.cl dx (clF nb (k : Int))) ∧ SqL K H nb xs ∧ xs[k]? = some (.int (m : Int)) ∧ k + 1 + m ≤ xs.length ∧
  ∀ r, H r = none → Q (.ref r) (upd (upd H p (.ins C.cl dx (clF nb ((k + 1 + m : Nat) : Int)))) r (.lst ((xs.drop (k + 1)).take m)))
section
variable {P : Program} {w : World} {K : PySem.W.Frag} {mg : Str → Option Value} {base : Heap} {C : Cs} {TT : List NTab}
abbrev s_Calls_init : Stmt := inClass (top 54) 0
theorem sc_Calls_init : FnScope ["self", "numbers"] ["self", "numbers"] (defScope s_Calls_init) := ⟨rfl, rfl, rfl, by decide +kernel, rfl, by decide +kernel, by decide +kernel⟩
theorem ok_Calls_init {f : Addr} {fd : FuncData} (F : L2.Fun K "__init__" "Calls.__init__" s_Calls_init f fd) (T : Txt K mg C)  : FnOk P w K mg base L2.CX0 1 f fd ["self", "numbers"] (sp_Calls_init K C TT) := by
  refine F.ok sc_Calls_init (fun vs H Q E h => ?_) (fun cdv A outer s0 H vs Q E hr h => ?_)
  · obtain ⟨p, dx, nb, rfl, _⟩ := h
    rfl
  · obtain ⟨p, dx, nb, rfl, hp, q⟩ := h
    refine ⟨_, (pss_cons (ps_fld (pv 0) (pv 1) rfl) (pss_one (ps_fld (pv 0) pe_int rfl))), ?_⟩
    refine ⟨_, rfl, _, rfl, p, C.cl, dx, [], rfl, hp, T.cl_Calls, T.n_numbers, (by show 0 < 1000; decide), ?_⟩
    refine ⟨_, rfl, p, C.cl, dx, _, rfl, upd_same, T.cl_Calls, T.n_at, (by rw [clF_mk1]; show 1 < 1000; decide), ?_⟩
    rw [clF_mk1, clF_mk2, upd_upd]
    exact q
abbrev s_Calls_is_done : Stmt := inClass (top 54) 1
theorem sc_Calls_is_done : FnScope ["self"] ["self"] (defScope s_Calls_is_done) := ⟨rfl, rfl, rfl, by decide +kernel, rfl, by decide +kernel, by decide +kernel⟩
theorem ok_Calls_is_done {f : Addr} {fd : FuncData} (F : L2.Fun K "is_done" "Calls.is_done" s_Calls_is_done f fd) (T : Txt K mg C)  : FnOk P w K mg base L2.CX0 1 f fd ["self"] (sp_Calls_is_done K C TT) := by
  refine F.ok sc_Calls_is_done (fun vs H Q E h => ?_) (fun cdv A outer s0 H vs Q E hr h => ?_)
  · obtain ⟨p, dx, nb, k, xs, rfl, _⟩ := h
    rfl
  · obtain ⟨p, dx, nb, k, xs, rfl, hp, hs, q⟩ := h
    refine ⟨_, (pss_one (ps_ret (pe_cmpR op_ge (pe_fld (pv 0) rfl) (pe_callB call_len_seq (by rfl) T.len PySem.boot_len (pa_cons (pe_fld (pv 0) rfl) pa_nil)) (nomark _)))), ?_⟩
    exact ⟨_, rfl, p, C.cl, dx, _, _, rfl, hp, T.cl_Calls, T.n_at, clF_at .., _, rfl, p, C.cl, dx, _, _, rfl, hp, T.cl_Calls, T.n_numbers, clF_numbers .., nb, _, rfl, .inl hs, _, _, rfl, rfl, q⟩
abbrev s_Calls_number : Stmt := inClass (top 54) 2
theorem sc_Calls_number : FnScope ["self"] ["self"] (defScope s_Calls_number) := ⟨rfl, rfl, rfl, by decide +kernel, rfl, by decide +kernel, by decide +kernel⟩
theorem ok_Calls_number {f : Addr} {fd : FuncData} (F : L2.Fun K "number" "Calls.number" s_Calls_number f fd) (T : Txt K mg C)  : FnOk P w K mg base L2.CX0 1 f fd ["self"] (sp_Calls_number K C TT) := by
  refine F.ok sc_Calls_number (fun vs H Q E h => ?_) (fun cdv A outer s0 H vs Q E hr h => ?_)
  · obtain ⟨p, dx, nb, k, xs, v, rfl, _⟩ := h
    rfl
  · obtain ⟨p, dx, nb, k, xs, v, rfl, hp, hs, hv, q⟩ := h
    refine ⟨_, (pss_cons (ps_fldaug (pv 0) pe_int in_add) (pss_one (ps_ret (pe_ix ix_list (pe_fld (pv 0) rfl) (pe_op op_sub (pe_fld (pv 0) rfl) pe_int) (fun _ _ => rfl))))), ?_⟩
    refine ⟨_, rfl, p, C.cl, dx, _, _, rfl, hp, T.cl_Calls, T.n_at, clF_at .., _, _, rfl, rfl, dx, _, hp, (by show 2 < 1000; decide), ?_⟩
    rw [clF_put_at]
    have e : (k : Int) + 1 = ((k + 1 : Nat) : Int) := by omega
    rw [e]
    refine ⟨_, rfl, p, C.cl, dx, _, _, rfl, upd_same, T.cl_Calls, T.n_numbers, clF_numbers .., _, rfl, p, C.cl, dx, _, _, rfl, upd_same, T.cl_Calls, T.n_at, clF_at .., _, _, rfl, rfl, nb, xs, _, v, rfl, rfl, sq_keep hs hp, ?_, q⟩
    rw [pred_cast]
    exact atI_of hv
abbrev s_Calls_row : Stmt := inClass (top 54) 3
theorem sc_Calls_row : FnScope ["self", "length"] ["self"] (defScope s_Calls_row) := ⟨rfl, rfl, rfl, by decide +kernel, rfl, by decide +kernel, by decide +kernel⟩
theorem ok_Calls_row {f : Addr} {fd : FuncData} (F : L2.Fun K "row" "Calls.row" s_Calls_row f fd) (T : Txt K mg C) (m_number : C8.Met P w K mg base 1 C.cl "number" (sp_Calls_number K C TT) []) : FnOk P w K mg base L2.CX0 2 f fd ["self"] (sp_Calls_row K C TT) := by
  refine F.ok sc_Calls_row (fun vs H Q E h => ?_) (fun cdv A outer s0 H vs Q E hr h => ?_)
  · obtain ⟨p, dx, nb, k, m, xs, rfl, _⟩ := h
    rfl
  · obtain ⟨p, dx, nb, k, m, xs, rfl, hp, hs, hv, hl, q⟩ := h
    refine ⟨_, (pss_cons (ps_set (i := 1) sc_Calls_row.nd rfl (Or.inl rfl) (C8.pe_mt0 m_number hr (by decide) (pv 0))) (pss_cons (ps_fldaug (pv 0) (pv 1) in_add) (pss_one (ps_ret (pe_slice sl_list (pe_fld (pv 0) rfl) (po_some (pe_op op_sub (pe_fld (pv 0) rfl) (pv 1))) (po_some (pe_fld (pv 0) rfl))))))), ?_⟩
    refine ⟨_, rfl, _, _, _, rfl, hp, clF_no_number .., p, dx, nb, k, xs, _, rfl, hp, hs, hv, ?_⟩
    refine ⟨_, rfl, p, C.cl, dx, _, _, rfl, upd_same, T.cl_Calls, T.n_at, clF_at .., _, rfl, _, _, rfl, rfl, dx, _, upd_same, (by show 2 < 1000; decide), ?_⟩
    rw [clF_put_at, upd_upd]
    have e : ((k + 1 : Nat) : Int) + (m : Int) = ((k + 1 + m : Nat) : Int) := by omega
    rw [e]
    refine ⟨_, rfl, p, C.cl, dx, _, _, rfl, upd_same, T.cl_Calls, T.n_numbers, clF_numbers .., _, rfl, p, C.cl, dx, _, _, rfl, upd_same, T.cl_Calls, T.n_at, clF_at .., _, rfl, _, _, rfl, rfl, _, rfl, _, rfl, p, C.cl, dx, _, _, rfl, upd_same, T.cl_Calls, T.n_at, clF_at .., _, rfl, nb, xs, rfl, sq_keep hs hp, fun r hr' => ?_⟩
    have npr : p ≠ r := fun z => by rw [z, upd_same] at hr'; cases hr'
    rw [upd_ne npr.symm] at hr'
    have ec : cutV xs (some (((k + 1 + m : Nat) : Int) - (m : Int))) (some ((k + 1 + m : Nat) : Int)) = (xs.drop (k + 1)).take m := by
      have e0 : ((k + 1 + m : Nat) : Int) - (m : Int) = ((k + 1 : Nat) : Int) := by omega
      unfold cutV
      rw [e0, HT.sIx_nat, HT.sIx_nat, Nat.min_eq_left hl, Nat.min_eq_left (show k + 1 ≤ xs.length by omega), show k + 1 + m - (k + 1) = m by omega]
    rw [ec]
    exact q r hr'
end
end Ro
end part_D10
section part_D11
set_option linter.unusedVariables false
set_option maxRecDepth 100000
set_option maxHeartbeats 2000000
namespace Ro
open PySem PySem.Spec PyProof.Rows L2
open Hs09 (Instr Proc Chan proc chan stand runs round all stuck grows smallest blocked settles isProc isChan setChan within)
theorem NetAt.out {C : Cs} {T : List NTab} {L : Lay} {H : Hp} {s : Hs09.St} {a : Addr} {o o0 : HO} (N : NetAt C T L H s) (t : L.tag a = .out) (h : H a = some o0) (p : plainO o0) : NetAt C T L (upd H a o) s := by
  refine ⟨fun u v e => ?_, N.tg, fun b z => ?_, tabs_put N.tb h p⟩
  · have g := N.tg u v e
    rw [upd_ne (fun z => by rw [z, t] at g; rw [← g] at e; cases e)]
    exact N.here u v e
  · obtain ⟨v, e, q⟩ := N.dom b z
    exact ⟨v, by rw [upd_ne (fun y => z (by rw [y]; exact t))]; exact e, q⟩
/-- the list of calls at a, read up to its k-th number -/
structure ClAt (K : PySem.W.Frag) (C : Cs) (L : Lay) (H : Hp) (a dx nb : Addr) (k : Nat) (ns : List Nat) : Prop where
  obj : H a = some (.ins C.cl dx (clF nb (k : Int)))
  nums : SqL K H nb (vI ns)
  tag : L.tag a = .out
/-- what a call leaves: the state and the answer are the specification's -/
def callQ (C : Cs) (TT : List NTab) (L : Lay) (H : Hp) (a dx nb : Addr) (k' : Nat) (s' : Hs09.St) (ans : List Int) (Q : VK) : Prop :=
  ∀ (H' : Hp) (L' : Lay) (p : Addr), NetAt C TT L' H' s' → L'.addr .net = L.addr .net → H' p = some (.lst (ans.map V.int)) → H' a = some (.ins C.cl dx (clF nb (k' : Int))) → L'.tag a = .out →
    (∀ b o, H b = some o → L.tag b = .out → b ≠ a → (∀ ps, o ≠ .tbl ps) → H' b = some o ∧ L'.tag b = .out ∧ b ≠ p) → Q (.ref p) H'
/-- need: which numbers make the call, and where it ends -/
def spCall (need : List Nat → Nat → Hs09.Call → Nat → Prop) (K : PySem.W.Frag) (C : Cs) (TT : List NTab) : Sp := fun vs H Q _ => ∃ (L : Lay) (s : Hs09.St) (a dx nb : Addr) (k : Nat) (ns : List Nat) (c : Hs09.Call) (k' : Nat), vs = [.ref (L.addr .net), .ref a] ∧ NetAt C TT L H s ∧ WF s ∧ s.steps + 1200 ≤ 8388608 ∧ ClAt K C L H a dx nb k ns ∧ need ns k c k' ∧
  callQ C TT L H a dx nb k' (Hs09.step s c).1 (Hs09.step s c).2 Q
def sp_call_run := spCall (need2 .run)
def sp_call_round := spCall (need1 .round)
def sp_call_settle := spCall (need1 .settle)
def sp_call_stuck := spCall (need0 .stuck)
def sp_call_grow := spCall (need0 .grow)
def sp_call_widen := spCall (need2 .widen)
def sp_call_process := spCall (need1 .process)
def sp_call_said := spCall (need1 .said)
def sp_call_channel := spCall (need1 .channel)
def sp_call_wrote := spCall (need1 .wrote)
def sp_call_counts := spCall (need0 .counts)
section
variable {K : PySem.W.Frag} {C : Cs} {TT : List NTab} {L L' : Lay} {H H1 H2 : Hp} {a dx nb : Addr} {k k' : Nat} {ns : List Nat} {s s' : Hs09.St} {ans : List Int} {Q : VK}
theorem ClAt.on (c : ClAt K C L H a dx nb k ns) : ClAt K C L (upd H a (.ins C.cl dx (clF nb (k' : Int)))) a dx nb k' ns := ⟨upd_same, sq_keep c.nums c.obj, c.tag⟩
theorem ClAt.net (c : ClAt K C L H a dx nb k ns) (N : NetAt C TT L H s) {o : HO} : NetAt C TT L (upd H a o) s := N.out c.tag c.obj trivial
theorem ClAt.fr (c : ClAt K C L H a dx nb k ns) (f : Fr L H H1) : H1 a = some (.ins C.cl dx (clF nb (k : Int))) := f _ _ c.obj c.tag (fun ps z => by cases z)
/-- a new list is what is answered -/
theorem callQ.ret (q : callQ C TT L H a dx nb k' s' ans Q) (N : NetAt C TT L' H1 s') (an : L'.addr .net = L.addr .net) (ha : H1 a = some (.ins C.cl dx (clF nb (k' : Int)))) (ta : L'.tag a = .out)
    (fr : ∀ b o, H b = some o → L.tag b = .out → b ≠ a → (∀ ps, o ≠ .tbl ps) → H1 b = some o ∧ L'.tag b = .out) {p : Addr} {xs : List V} (hp : H1 p = none) (hx : xs = ans.map V.int) : Q (.ref p) (upd H1 p (.lst xs)) := by
  refine q _ L' p (N.new hp) an (by rw [upd_same, hx]) (by rw [upd_ne (ne_of_none ha hp)]; exact ha) ta fun b o e t n m => ?_
  obtain ⟨h1, h2⟩ := fr b o e t n m
  exact ⟨by rw [upd_ne (ne_of_none h1 hp)]; exact h1, h2, ne_of_none h1 hp⟩
/-- .. where the net lies as it lay -/
theorem callQ.ret' (q : callQ C TT L H a dx nb k' s' ans Q) (c : ClAt K C L H a dx nb k ns) (N : NetAt C TT L H1 s') (f : Fr L (upd H a (.ins C.cl dx (clF nb (k' : Int)))) H1) {p : Addr} {xs : List V} (hp : H1 p = none) (hx : xs = ans.map V.int) : Q (.ref p) (upd H1 p (.lst xs)) :=
  q.ret N rfl ((c.on).fr f) c.tag (fun b o e t n m => ⟨f b o (by rw [upd_ne n]; exact e) t m, t⟩) hp hx
end
theorem step_fst {s : Hs09.St} {c : Hs09.Call} {t : Hs09.St} {l : List Int} (h : Hs09.step s c = (t, l)) : (Hs09.step s c).1 = t ∧ (Hs09.step s c).2 = l := by rw [h]; exact ⟨rfl, rfl⟩
theorem isProc_eq {s : Hs09.St} {p : Nat} : isProc s p = decide (1 ≤ p ∧ p ≤ s.procs.length) := within_eq
theorem isChan_eq {s : Hs09.St} {p : Nat} : isChan s p = decide (1 ≤ p ∧ p ≤ s.chans.length) := within_eq
theorem vI_ints (l : List Nat) : (Hs09.ints l).map V.int = vI l := by unfold Hs09.ints vI; rw [List.map_map]; rfl
section
variable {P : Program} {w : World} {K : PySem.W.Frag} {mg : Str → Option Value} {base : Heap} {C : Cs} {TT : List NTab}
abbrev s_call_stuck : Stmt := top 60
theorem sc_call_stuck : FnScope ["net", "calls"] ["net", "calls"] (defScope s_call_stuck) := ⟨rfl, rfl, rfl, by decide +kernel, rfl, by decide +kernel, by decide +kernel⟩
theorem ok_call_stuck {f : Addr} {fd : FuncData} (F : L2.Fun K "call_stuck" "call_stuck" s_call_stuck f fd) (T : Txt K mg C) (c_how_all_stand : C8.Cal P w K mg base 3 "how_all_stand" (sp_how_all_stand K C TT) []) : FnOk P w K mg base L2.CX0 4 f fd ["net", "calls"] (sp_call_stuck K C TT) := by
  refine F.ok sc_call_stuck (fun vs H Q E h => ?_) (fun cdv A outer s0 H vs Q E hr h => ?_)
  · obtain ⟨L, s, a, dx, nb, k, ns, c, k', rfl, _⟩ := h
    rfl
  · obtain ⟨L, s, a, dx, nb, k, ns, c, k', rfl, N, wf, hst, cl, ⟨rfl, rfl⟩, q⟩ := h
    refine ⟨_, (pss_one (ps_ret (pe_lst (pa_cons (C8.pe_c c_how_all_stand hr (by decide) rfl (pa_cons (pv 0) pa_nil)) pa_nil)))), ?_⟩
    refine ⟨_, rfl, L, s, rfl, N, wf, fun H2 sm => ⟨(by show 1 ≤ sizeLine; decide), fun p hp => ?_⟩⟩
    exact q.ret (N.same sm) rfl (sm _ _ cl.obj) cl.tag (fun b o e t _ _ => ⟨sm _ _ e, t⟩) hp rfl
abbrev s_call_counts : Stmt := top 67
theorem sc_call_counts : FnScope ["net", "calls"] ["net", "calls"] (defScope s_call_counts) := ⟨rfl, rfl, rfl, by decide +kernel, rfl, by decide +kernel, by decide +kernel⟩
theorem ok_call_counts {f : Addr} {fd : FuncData} (F : L2.Fun K "call_counts" "call_counts" s_call_counts f fd) (T : Txt K mg C)  : FnOk P w K mg base L2.CX0 1 f fd ["net", "calls"] (sp_call_counts K C TT) := by
  refine F.ok sc_call_counts (fun vs H Q E h => ?_) (fun cdv A outer s0 H vs Q E hr h => ?_)
  · obtain ⟨L, s, a, dx, nb, k, ns, c, k', rfl, _⟩ := h
    rfl
  · obtain ⟨L, s, a, dx, nb, k, ns, c, k', rfl, N, wf, hst, cl, ⟨rfl, rfl⟩, q⟩ := h
    refine ⟨_, (pss_one (ps_ret (pe_lst (pa_cons (pe_fld (pv 0) rfl) (pa_cons (pe_fld (pv 0) rfl) pa_nil))))), ?_⟩
    refine ⟨_, rfl, _, _, _, _, _, rfl, N.net, T.cl_Net, T.n_steps, ntF_steps .., _, rfl, _, _, _, _, _, rfl, N.net, T.cl_Net, T.n_grown, ntF_grown .., (by show 2 ≤ sizeLine; decide), fun p hp => ?_⟩
    exact q.ret N rfl cl.obj cl.tag (fun b o e t _ _ => ⟨e, t⟩) hp rfl
abbrev s_call_grow : Stmt := top 61
theorem sc_call_grow : FnScope ["net", "calls", "number"] ["net", "calls"] (defScope s_call_grow) := ⟨rfl, rfl, rfl, by decide +kernel, rfl, by decide +kernel, by decide +kernel⟩
theorem ok_call_grow {f : Addr} {fd : FuncData} (F : L2.Fun K "call_grow" "call_grow" s_call_grow f fd) (T : Txt K mg C) (c_grow : C8.Cal P w K mg base 5 "grow" (sp_grow K C TT) []) (c_how_all_stand : C8.Cal P w K mg base 3 "how_all_stand" (sp_how_all_stand K C TT) []) (m_channel : C8.Met P w K mg base 1 C.cn "channel" (sp_Net_channel K C TT) []) : FnOk P w K mg base L2.CX0 6 f fd ["net", "calls"] (sp_call_grow K C TT) := by
  refine F.ok sc_call_grow (fun vs H Q E h => ?_) (fun cdv A outer s0 H vs Q E hr h => ?_)
  · obtain ⟨L, s, a, dx, nb, k, ns, c, k', rfl, _⟩ := h
    rfl
  · obtain ⟨L, s, a, dx, nb, k, ns, c, k', rfl, N, wf, hst, cl, ⟨rfl, rfl⟩, q⟩ := h
    refine ⟨_, (pss_cons (ps_if (pt_cmpR op_ne (C8.pe_c c_how_all_stand hr (by decide) rfl (pa_cons (pv 0) pa_nil)) (C8.pe_gc rfl T.g_WAITS_TO_WRITE) (nomark _)) (pss_one (ps_ret (pe_lst (pa_cons (pe_un un_neg pe_int) pa_nil)))) pss_nil) (pss_cons (ps_set (i := 2) sc_call_grow.nd rfl (Or.inl rfl) (C8.pe_c c_grow hr (by decide) rfl (pa_cons (pv 0) pa_nil))) (pss_one (ps_ret (pe_lst (pa_cons (pv 2) (pa_cons (pe_fld (C8.pe_mt m_channel hr (by decide) (pv 0) (pa_cons (pv 2) pa_nil)) rfl) pa_nil))))))), ?_⟩
    refine ⟨_, rfl, L, s, rfl, N, wf, fun H2 sm => ⟨rfl, _, rfl, ?_⟩⟩
    by_cases h3 : stuck s = 3
    · refine ifF (by rw [dT (by rw [h3]; rfl)]; rfl) ?_
      refine ⟨_, rfl, L, s, rfl, N.same sm, wf, h3, fun H3 c hsm hc N3 F3 => ?_⟩
      have hcg : c < (grows s).chans.length := by rw [(grows_ok wf).2.2.1]; exact hc
      refine ⟨_, rfl, _, rfl, _, _, _, rfl, N3.net, ntF_no_channel .., _, rfl, _, _, _, _, _, _, _, c, _, rfl, N3.net, N3.cs, refs_get hcg, _, _, _, _, _, rfl, N3.ch hcg, T.cl_Channel, T.n_room, chF_room .., (by show 2 ≤ sizeLine; decide), fun p hp => ?_⟩
      have e1 : Hs09.step s .grow = (grows s, Hs09.ints [c + 1, (chan s c).room + 1]) := by
        show (if stuck s ≠ 3 then (s, [-5]) else (grows s, match smallest s (blocked s) with | some c => Hs09.ints [c + 1, (chan s c).room + 1] | none => [0])) = _
        rw [if_neg (fun z => z h3), hsm]
      have e2 : (chan (grows s) c).room = (chan s c).room + 1 := by
        have eg : grows s = { setChan s c { chan s c with room := (chan s c).room + 1 } with grown := s.grown + 1 } := by
          unfold grows; rw [if_pos h3, hsm]
        rw [eg]
        show (chan (setChan s c { chan s c with room := (chan s c).room + 1 }) c).room = _
        rw [chan_set hc]
      rw [(step_fst e1).1, (step_fst e1).2] at q
      exact q.ret N3 rfl (F3 _ _ (sm _ _ cl.obj) cl.tag (fun ps z => by cases z)) cl.tag (fun b o e t _ m => ⟨F3 _ _ (sm _ _ e) t m, t⟩) hp (by rw [e2]; rfl)
    · refine ifT (by rw [dF (by omega)]; rfl) ?_
      refine ⟨_, rfl, (by show 1 ≤ sizeLine; decide), fun p hp => ?_⟩
      have e1 : Hs09.step s .grow = (s, [-5]) := if_pos h3
      rw [(step_fst e1).1, (step_fst e1).2] at q
      exact q.ret (N.same sm) rfl (sm _ _ cl.obj) cl.tag (fun b o e t _ _ => ⟨sm _ _ e, t⟩) hp rfl
end
end Ro
end part_D11
section part_D12
set_option linter.unusedVariables false
set_option maxRecDepth 100000
set_option maxHeartbeats 2000000
namespace Ro
open PySem PySem.Spec PyProof.Rows L2
open Hs09 (Instr Proc Chan proc chan stand runs round all stuck grows smallest blocked settles isProc isChan setChan within)
section
variable {P : Program} {w : World} {K : PySem.W.Frag} {mg : Str → Option Value} {base : Heap} {C : Cs} {TT : List NTab}
abbrev s_call_run : Stmt := top 57
theorem sc_call_run : FnScope ["net", "calls", "number", "most", "process", "done"] ["net", "calls"] (defScope s_call_run) := ⟨rfl, rfl, rfl, by decide +kernel, rfl, by decide +kernel, by decide +kernel⟩
theorem ok_call_run {f : Addr} {fd : FuncData} (F : L2.Fun K "call_run" "call_run" s_call_run f fd) (T : Txt K mg C) (m_number : C8.Met P w K mg base 1 C.cl "number" (sp_Calls_number K C TT) []) (m_process : C8.Met P w K mg base 1 C.cn "process" (sp_Net_process K C TT) []) (c_do_steps : C8.Cal P w K mg base 4 "do_steps" (sp_do_steps K C TT) []) (m_has_process : C8.Met P w K mg base 1 C.cn "has_process" (sp_Net_has_process K C TT) []) (c_how_stands : C8.Cal P w K mg base 2 "how_stands" (sp_how_stands K C TT) []) (c_waited_channel : C8.Cal P w K mg base 3 "waited_channel" (sp_waited_channel K C TT) []) : FnOk P w K mg base L2.CX0 5 f fd ["net", "calls"] (sp_call_run K C TT) := by
  refine F.ok sc_call_run (fun vs H Q E h => ?_) (fun cdv A outer s0 H vs Q E hr h => ?_)
  · obtain ⟨L, s, a, dx, nb, k, ns, c, k', rfl, _⟩ := h
    rfl
  · obtain ⟨L, s, a, dx, nb, k, ns, c, k', rfl, N, wf, hst, cl, ⟨x, y, hx, hy, rfl, rfl⟩, q⟩ := h
    refine ⟨_, (pss_cons (ps_set (i := 2) sc_call_run.nd rfl (Or.inl rfl) (C8.pe_mt0 m_number hr (by decide) (pv 1))) (pss_cons (ps_set (i := 3) sc_call_run.nd rfl (Or.inl rfl) (C8.pe_mt0 m_number hr (by decide) (pv 1))) (pss_cons (ps_if (pt_not (pt_val (C8.pe_mt m_has_process hr (by decide) (pv 0) (pa_cons (pv 2) pa_nil)))) (pss_one (ps_ret (pe_lst (pa_cons (pe_un un_neg pe_int) pa_nil)))) pss_nil) (pss_cons (ps_if (pt_cmpR op_gt (pv 3) (C8.pe_gc rfl T.g_MOST_RUN) (nomark _)) (pss_one (ps_ret (pe_lst (pa_cons (pe_un un_neg pe_int) pa_nil)))) pss_nil) (pss_cons (ps_set (i := 4) sc_call_run.nd rfl (Or.inl rfl) (C8.pe_mt m_process hr (by decide) (pv 0) (pa_cons (pv 2) pa_nil))) (pss_cons (ps_set (i := 5) sc_call_run.nd rfl (Or.inl rfl) (C8.pe_c c_do_steps hr (by decide) rfl (pa_cons (pv 0) (pa_cons (pv 4) (pa_cons (pv 3) pa_nil))))) (pss_one (ps_ret (pe_lst (pa_cons (pv 5) (pa_cons (C8.pe_c c_how_stands hr (by decide) rfl (pa_cons (pv 0) (pa_cons (pv 4) pa_nil))) (pa_cons (C8.pe_c c_waited_channel hr (by decide) rfl (pa_cons (pv 0) (pa_cons (pv 4) pa_nil))) pa_nil)))))))))))), ?_⟩
    refine ⟨_, rfl, _, _, _, rfl, cl.obj, clF_no_number .., _, _, _, k, _, _, rfl, cl.obj, cl.nums, (by rw [vI_get, hx]; rfl), ?_⟩
    have c0 := cl.on (k' := k + 1)
    refine ⟨_, rfl, _, _, _, rfl, c0.obj, clF_no_number .., _, _, _, k + 1, _, _, rfl, c0.obj, c0.nums, (by rw [vI_get, hy]; rfl), ?_⟩
    rw [upd_upd]
    have c1 := cl.on (k' := k + 2)
    have N1 := cl.net N (o := .ins C.cl dx (clF nb ((k + 2 : Nat) : Int)))
    have q' := fun (H1 : Hp) (s' : Hs09.St) (ans : List Int) (e : Hs09.step s (.run x y) = (s', ans)) (n : NetAt C TT L H1 s') (f : Fr L (upd H a (.ins C.cl dx (clF nb ((k + 2 : Nat) : Int)))) H1) (p : Addr) (xs : List V) (hp : H1 p = none) (hx : xs = ans.map V.int) => callQ.ret' (by rw [(step_fst e).1, (step_fst e).2] at q; exact q) cl n f hp hx
    generalize upd H a (.ins C.cl dx (clF nb ((k + 2 : Nat) : Int))) = H1 at c1 N1 q'
    refine ⟨_, rfl, _, _, _, rfl, N1.net, ntF_no_has_process .., _, rfl, _, _, _, _, _, _, _, _, rfl, N1.net, N1.ps, _, rfl, ?_⟩
    rw [refs_len]
    by_cases hi : 1 ≤ x ∧ x ≤ s.procs.length
    rotate_left
    · refine ifT (by rw [decide_eq_false (by omega)]; rfl) ?_
      refine ⟨_, rfl, (by show 1 ≤ sizeLine; decide), fun p hp => ?_⟩
      exact q' H1 s [-1] (by rw [show Hs09.step s (.run x y) = if isProc s x = false then (s, [-1]) else _ from rfl, isProc_eq, if_pos (decide_eq_false hi)]) N1 (Fr.refl _ _) p _ hp rfl
    refine ifF (by rw [decide_eq_true (by omega)]; rfl) ?_
    obtain ⟨i, rfl⟩ : ∃ i, x = i + 1 := ⟨x - 1, by omega⟩
    have hi' : i < s.procs.length := by omega
    have isP : isProc s (i + 1) = true := by rw [isProc_eq]; exact decide_eq_true hi
    refine ⟨_, rfl, _, _, rfl, rfl, _, rfl, ?_⟩
    have e0 : Hs09.step s (.run (i + 1) y) = if 200 < y then (s, [-2]) else (runs y s i, Hs09.ints [(runs y s i).steps - s.steps, (stand (runs y s i) i).1, (stand (runs y s i) i).2]) := by
      show (if isProc s (i + 1) = false then (s, [-1]) else _) = _
      rw [isP, if_neg (by decide)]; rfl
    by_cases hy : 200 < y
    · refine ifT (decide_eq_true (by omega)) ?_
      refine ⟨_, rfl, (by show 1 ≤ sizeLine; decide), fun p hp => ?_⟩
      exact q' H1 s [-2] (by rw [e0, if_pos hy]) N1 (Fr.refl _ _) p _ hp rfl
    refine ifF (decide_eq_false (by omega)) ?_
    refine ⟨_, rfl, _, _, _, rfl, N1.net, ntF_no_process .., _, rfl, _, _, _, _, _, _, _, i, _, rfl, N1.net, N1.ps, refs_get hi', ?_⟩
    refine ⟨_, rfl, _, rfl, _, rfl, L, s, i, y, rfl, N1, wf, hi', by omega, fun H2 N2 F2 => ?_⟩
    obtain ⟨wf2, hp2, -⟩ := runs_ok y wf hi'
    have hi2 : i < (runs y s i).procs.length := by rw [hp2]; exact hi'
    refine ⟨_, rfl, _, rfl, _, rfl, L, _, i, rfl, N2, wf2, hi2, _, rfl, _, rfl, L, _, i, rfl, N2, wf2, hi2, (by show 3 ≤ sizeLine; decide), fun p hp => ?_⟩
    exact q' H2 _ _ (by rw [e0, if_neg hy]) N2 F2 p _ hp rfl
abbrev s_call_round : Stmt := top 58
theorem sc_call_round : FnScope ["net", "calls", "most", "steps_before"] ["net", "calls"] (defScope s_call_round) := ⟨rfl, rfl, rfl, by decide +kernel, rfl, by decide +kernel, by decide +kernel⟩
theorem ok_call_round {f : Addr} {fd : FuncData} (F : L2.Fun K "call_round" "call_round" s_call_round f fd) (T : Txt K mg C) (m_number : C8.Met P w K mg base 1 C.cl "number" (sp_Calls_number K C TT) []) (c_do_round : C8.Cal P w K mg base 5 "do_round" (sp_do_round K C TT) []) : FnOk P w K mg base L2.CX0 6 f fd ["net", "calls"] (sp_call_round K C TT) := by
  refine F.ok sc_call_round (fun vs H Q E h => ?_) (fun cdv A outer s0 H vs Q E hr h => ?_)
  · obtain ⟨L, s, a, dx, nb, k, ns, c, k', rfl, _⟩ := h
    rfl
  · obtain ⟨L, s, a, dx, nb, k, ns, c, k', rfl, N, wf, hst, cl, ⟨x, hx, rfl, rfl⟩, q⟩ := h
    refine ⟨_, (pss_cons (ps_set (i := 2) sc_call_round.nd rfl (Or.inl rfl) (C8.pe_mt0 m_number hr (by decide) (pv 1))) (pss_cons (ps_if (pt_cmpR op_gt (pv 2) (C8.pe_gc rfl T.g_MOST_ROUND) (nomark _)) (pss_one (ps_ret (pe_lst (pa_cons (pe_un un_neg pe_int) pa_nil)))) pss_nil) (pss_cons (ps_set (i := 3) sc_call_round.nd rfl (Or.inl rfl) (pe_fld (pv 0) rfl)) (pss_cons (ps_expr (C8.pe_c c_do_round hr (by decide) rfl (pa_cons (pv 0) (pa_cons (pv 2) pa_nil)))) (pss_one (ps_ret (pe_lst (pa_cons (pe_op op_sub (pe_fld (pv 0) rfl) (pv 3)) pa_nil)))))))), ?_⟩
    refine ⟨_, rfl, _, _, _, rfl, cl.obj, clF_no_number .., _, _, _, k, _, _, rfl, cl.obj, cl.nums, (by rw [vI_get, hx]; rfl), ?_⟩
    have c1 := cl.on (k' := k + 1)
    have N1 := cl.net N (o := .ins C.cl dx (clF nb ((k + 1 : Nat) : Int)))
    have q' := fun (H1 : Hp) (s' : Hs09.St) (ans : List Int) (e : Hs09.step s (.round x) = (s', ans)) (n : NetAt C TT L H1 s') (f : Fr L (upd H a (.ins C.cl dx (clF nb ((k + 1 : Nat) : Int)))) H1) (p : Addr) (xs : List V) (hp : H1 p = none) (hx : xs = ans.map V.int) => callQ.ret' (by rw [(step_fst e).1, (step_fst e).2] at q; exact q) cl n f hp hx
    generalize upd H a (.ins C.cl dx (clF nb ((k + 1 : Nat) : Int))) = H1 at c1 N1 q'
    refine ⟨_, rfl, _, _, rfl, rfl, _, rfl, ?_⟩
    have e0 : Hs09.step s (.round x) = if 20 < x then (s, [-2]) else (round x (all s) s, Hs09.ints [(round x (all s) s).steps - s.steps]) := rfl
    by_cases hx : 20 < x
    · refine ifT (decide_eq_true (by omega)) ?_
      refine ⟨_, rfl, (by show 1 ≤ sizeLine; decide), fun p hp => ?_⟩
      exact q' H1 s [-2] (by rw [e0, if_pos hx]) N1 (Fr.refl _ _) p _ hp rfl
    refine ifF (decide_eq_false (by omega)) ?_
    refine ⟨_, rfl, _, _, _, _, _, rfl, N1.net, T.cl_Net, T.n_steps, ntF_steps .., ?_⟩
    refine ⟨_, rfl, _, rfl, L, s, x, rfl, N1, wf, by omega, fun H2 N2 F2 => ?_⟩
    refine ⟨_, rfl, _, _, _, _, _, rfl, N2.net, T.cl_Net, T.n_steps, ntF_steps .., _, rfl, _, _, rfl, rfl, (by show 1 ≤ sizeLine; decide), fun p hp => ?_⟩
    obtain ⟨-, -, -, -, hle, -⟩ := round_ok x (all s) wf fun p hp => all_mem.mp hp
    exact q' H2 _ _ (by rw [e0, if_neg hx]) N2 F2 p _ hp (by show [V.int _] = [V.int _]; congr 2; dsimp only; omega)
abbrev s_call_settle : Stmt := top 59
theorem sc_call_settle : FnScope ["net", "calls", "times", "steps_before", "grown_before", "turn"] ["net", "calls"] (defScope s_call_settle) := ⟨rfl, rfl, rfl, by decide +kernel, rfl, by decide +kernel, by decide +kernel⟩
theorem ok_call_settle {f : Addr} {fd : FuncData} (F : L2.Fun K "call_settle" "call_settle" s_call_settle f fd) (T : Txt K mg C) (m_number : C8.Met P w K mg base 1 C.cl "number" (sp_Calls_number K C TT) []) (c_settle_once : C8.Cal P w K mg base 6 "settle_once" (sp_settle_once K C TT) []) (c_how_all_stand : C8.Cal P w K mg base 3 "how_all_stand" (sp_how_all_stand K C TT) []) : FnOk P w K mg base L2.CX0 7 f fd ["net", "calls"] (sp_call_settle K C TT) := by
  refine F.ok sc_call_settle (fun vs H Q E h => ?_) (fun cdv A outer s0 H vs Q E hr h => ?_)
  · obtain ⟨L, s, a, dx, nb, k, ns, c, k', rfl, _⟩ := h
    rfl
  · obtain ⟨L, s, a, dx, nb, k, ns, c, k', rfl, N, wf, hst, cl, ⟨x, hx, rfl, rfl⟩, q⟩ := h
    refine ⟨_, (pss_cons (ps_set (i := 2) sc_call_settle.nd rfl (Or.inl rfl) (C8.pe_mt0 m_number hr (by decide) (pv 1))) (pss_cons (ps_if (pt_cmpR op_gt (pv 2) (C8.pe_gc rfl T.g_MOST_SETTLE) (nomark _)) (pss_one (ps_ret (pe_lst (pa_cons (pe_un un_neg pe_int) pa_nil)))) pss_nil) (pss_cons (ps_set (i := 3) sc_call_settle.nd rfl (Or.inl rfl) (pe_fld (pv 0) rfl)) (pss_cons (ps_set (i := 4) sc_call_settle.nd rfl (Or.inl rfl) (pe_fld (pv 0) rfl)) (pss_cons (ps_for PassesOwn.never rfl (pi_range1 rfl T.range (pa_cons (pv 2) pa_nil)) (pg_name (i := 5) sc_call_settle.nd rfl (Or.inl rfl)) (pss_one (ps_expr (C8.pe_c c_settle_once hr (by decide) rfl (pa_cons (pv 0) pa_nil))))) (pss_one (ps_ret (pe_lst (pa_cons (pe_op op_sub (pe_fld (pv 0) rfl) (pv 3)) (pa_cons (pe_op op_sub (pe_fld (pv 0) rfl) (pv 4)) (pa_cons (C8.pe_c c_how_all_stand hr (by decide) rfl (pa_cons (pv 0) pa_nil)) pa_nil))))))))))), ?_⟩
    refine ⟨_, rfl, _, _, _, rfl, cl.obj, clF_no_number .., _, _, _, k, _, _, rfl, cl.obj, cl.nums, (by rw [vI_get, hx]; rfl), ?_⟩
    have c1 := cl.on (k' := k + 1)
    have N1 := cl.net N (o := .ins C.cl dx (clF nb ((k + 1 : Nat) : Int)))
    have q' := fun (H1 : Hp) (s' : Hs09.St) (ans : List Int) (e : Hs09.step s (.settle x) = (s', ans)) (n : NetAt C TT L H1 s') (f : Fr L (upd H a (.ins C.cl dx (clF nb ((k + 1 : Nat) : Int)))) H1) (p : Addr) (xs : List V) (hp : H1 p = none) (hx : xs = ans.map V.int) => callQ.ret' (by rw [(step_fst e).1, (step_fst e).2] at q; exact q) cl n f hp hx
    generalize upd H a (.ins C.cl dx (clF nb ((k + 1 : Nat) : Int))) = H1 at c1 N1 q'
    refine ⟨_, rfl, _, _, rfl, rfl, _, rfl, ?_⟩
    have e0 : Hs09.step s (.settle x) = if 200 < x then (s, [-2]) else (settles x s, Hs09.ints [(settles x s).steps - s.steps, (settles x s).grown - s.grown, stuck (settles x s)]) := rfl
    by_cases hx : 200 < x
    · refine ifT (decide_eq_true (by omega)) ?_
      refine ⟨_, rfl, (by show 1 ≤ sizeLine; decide), fun p hp => ?_⟩
      exact q' H1 s [-2] (by rw [e0, if_pos hx]) N1 (Fr.refl _ _) p _ hp rfl
    refine ifF (decide_eq_false (by omega)) ?_
    refine ⟨_, rfl, _, _, _, _, _, rfl, N1.net, T.cl_Net, T.n_steps, ntF_steps .., ?_⟩
    refine ⟨_, rfl, _, _, _, _, _, rfl, N1.net, T.cl_Net, T.n_grown, ntF_grown .., ?_⟩
    refine ⟨_, rfl, (x : Int), rfl, by omega, by omega, for_range (lo := 0) (n := x) (fun j σ H' => (∃ v, σ = [some (.ref (L.addr .net)), some (.ref a), some (.int (x : Int)), some (.int (s.steps : Int)), some (.int (s.grown : Int)), v]) ∧ NetAt C TT L H' (turns j s) ∧ Fr L H1 H') ⟨⟨none, rfl⟩, N1, Fr.refl _ _⟩ ?_ ?_⟩
    · rintro j σ H' hj ⟨⟨v, rfl⟩, N', F'⟩
      obtain ⟨wf', -, -, -, hs', -⟩ := turns_ok wf j
      exact ⟨_, rfl, L, _, rfl, N', wf', by omega, fun H2 N2 F2 => ⟨⟨_, rfl⟩, N2, F'.trans F2⟩⟩
    · rintro σ H2 ⟨⟨v, rfl⟩, N2, F2⟩
      obtain ⟨wf2, -, -, hs1, -, hg1, -⟩ := turns_ok wf x
      refine ⟨_, rfl, _, _, _, _, _, rfl, N2.net, T.cl_Net, T.n_steps, ntF_steps .., _, rfl, _, _, rfl, rfl, _, rfl, _, _, _, _, _, rfl, N2.net, T.cl_Net, T.n_grown, ntF_grown .., _, rfl, _, _, rfl, rfl, _, rfl, L, _, rfl, N2, wf2, fun H3 sm => ⟨(by show 3 ≤ sizeLine; decide), fun p hp => ?_⟩⟩
      refine q' H3 _ _ (by rw [e0, if_neg hx, settles_is]) (N2.same sm) (F2.trans (Fr.same sm)) p _ hp ?_
      show [V.int _, V.int _, V.int _] = [V.int _, V.int _, V.int _]
      congr 2
      · dsimp only
        omega
      · congr 2
        dsimp only
        omega
abbrev s_call_widen : Stmt := top 62
theorem sc_call_widen : FnScope ["net", "calls", "number", "room", "channel"] ["net", "calls"] (defScope s_call_widen) := ⟨rfl, rfl, rfl, by decide +kernel, rfl, by decide +kernel, by decide +kernel⟩
theorem ok_call_widen {f : Addr} {fd : FuncData} (F : L2.Fun K "call_widen" "call_widen" s_call_widen f fd) (T : Txt K mg C) (m_number : C8.Met P w K mg base 1 C.cl "number" (sp_Calls_number K C TT) []) (m_channel : C8.Met P w K mg base 1 C.cn "channel" (sp_Net_channel K C TT) []) (m_has_channel : C8.Met P w K mg base 1 C.cn "has_channel" (sp_Net_has_channel K C TT) []) : FnOk P w K mg base L2.CX0 2 f fd ["net", "calls"] (sp_call_widen K C TT) := by
  refine F.ok sc_call_widen (fun vs H Q E h => ?_) (fun cdv A outer s0 H vs Q E hr h => ?_)
  · obtain ⟨L, s, a, dx, nb, k, ns, c, k', rfl, _⟩ := h
    rfl
  · obtain ⟨L, s, a, dx, nb, k, ns, c, k', rfl, N, wf, hst, cl, ⟨x, y, hx, hy, rfl, rfl⟩, q⟩ := h
    refine ⟨_, (pss_cons (ps_set (i := 2) sc_call_widen.nd rfl (Or.inl rfl) (C8.pe_mt0 m_number hr (by decide) (pv 1))) (pss_cons (ps_set (i := 3) sc_call_widen.nd rfl (Or.inl rfl) (C8.pe_mt0 m_number hr (by decide) (pv 1))) (pss_cons (ps_if (pt_not (pt_val (C8.pe_mt m_has_channel hr (by decide) (pv 0) (pa_cons (pv 2) pa_nil)))) (pss_one (ps_ret (pe_lst (pa_cons (pe_un un_neg pe_int) pa_nil)))) pss_nil) (pss_cons (ps_set (i := 4) sc_call_widen.nd rfl (Or.inl rfl) (C8.pe_mt m_channel hr (by decide) (pv 0) (pa_cons (pv 2) pa_nil))) (pss_cons (ps_if (pt_not (pt_chain op_le op_le (pe_fld (pv 4) rfl) (pv 3) (C8.pe_gc rfl T.g_MOST_WIDENED))) (pss_one (ps_ret (pe_lst (pa_cons (pe_un un_neg pe_int) pa_nil)))) pss_nil) (pss_cons (ps_fld (pv 4) (pv 3) rfl) (pss_one (ps_ret (pe_lst (pa_cons (pv 3) pa_nil)))))))))), ?_⟩
    refine ⟨_, rfl, _, _, _, rfl, cl.obj, clF_no_number .., _, _, _, k, _, _, rfl, cl.obj, cl.nums, (by rw [vI_get, hx]; rfl), ?_⟩
    have c0 := cl.on (k' := k + 1)
    refine ⟨_, rfl, _, _, _, rfl, c0.obj, clF_no_number .., _, _, _, k + 1, _, _, rfl, c0.obj, c0.nums, (by rw [vI_get, hy]; rfl), ?_⟩
    rw [upd_upd]
    have c1 := cl.on (k' := k + 2)
    have N1 := cl.net N (o := .ins C.cl dx (clF nb ((k + 2 : Nat) : Int)))
    have q' := fun (H1 : Hp) (s' : Hs09.St) (ans : List Int) (e : Hs09.step s (.widen x y) = (s', ans)) (n : NetAt C TT L H1 s') (f : Fr L (upd H a (.ins C.cl dx (clF nb ((k + 2 : Nat) : Int)))) H1) (p : Addr) (xs : List V) (hp : H1 p = none) (hx : xs = ans.map V.int) => callQ.ret' (by rw [(step_fst e).1, (step_fst e).2] at q; exact q) cl n f hp hx
    generalize upd H a (.ins C.cl dx (clF nb ((k + 2 : Nat) : Int))) = H1 at c1 N1 q'
    refine ⟨_, rfl, _, _, _, rfl, N1.net, ntF_no_has_channel .., _, rfl, _, _, _, _, _, _, _, _, rfl, N1.net, N1.cs, _, rfl, ?_⟩
    rw [refs_len]
    by_cases hi : 1 ≤ x ∧ x ≤ s.chans.length
    rotate_left
    · refine ifT (by rw [decide_eq_false (by omega)]; rfl) ?_
      refine ⟨_, rfl, (by show 1 ≤ sizeLine; decide), fun p hp => ?_⟩
      exact q' H1 s [-1] (by rw [show Hs09.step s (.widen x y) = if isChan s x = false then (s, [-1]) else _ from rfl, isChan_eq, if_pos (decide_eq_false hi)]) N1 (Fr.refl _ _) p _ hp rfl
    refine ifF (by rw [decide_eq_true (by omega)]; rfl) ?_
    obtain ⟨j, rfl⟩ : ∃ j, x = j + 1 := ⟨x - 1, by omega⟩
    have hj : j < s.chans.length := by omega
    have isC : isChan s (j + 1) = true := by rw [isChan_eq]; exact decide_eq_true hi
    refine ⟨_, rfl, _, _, _, rfl, N1.net, ntF_no_channel .., _, rfl, _, _, _, _, _, _, _, j, _, rfl, N1.net, N1.cs, refs_get hj, ?_⟩
    have e0 : Hs09.step s (.widen (j + 1) y) = if y < (chan s j).room ∨ 1000 < y then (s, [-2]) else (setChan s j { chan s j with room := y }, Hs09.ints [y]) := by
      show (if isChan s (j + 1) = false then (s, [-1]) else _) = _
      rw [isC, if_neg (by decide)]; rfl
    refine ⟨_, rfl, _, _, _, _, _, rfl, N1.ch hj, T.cl_Channel, T.n_room, chF_room .., _, rfl, _, _, rfl, rfl, _, rfl, ?_⟩
    by_cases h1 : (chan s j).room ≤ y
    rotate_left
    · refine ifF (decide_eq_false (by omega)) ⟨_, rfl, ifT rfl ?_⟩
      refine ⟨_, rfl, (by show 1 ≤ sizeLine; decide), fun p hp => ?_⟩
      exact q' H1 s [-2] (by rw [e0, if_pos (.inl (by omega))]) N1 (Fr.refl _ _) p _ hp rfl
    refine ifT (decide_eq_true (by omega)) ⟨_, _, rfl, rfl, _, rfl, ?_⟩
    by_cases h2 : y ≤ 1000
    rotate_left
    · refine ifT (by rw [decide_eq_false (by omega)]; rfl) ?_
      refine ⟨_, rfl, (by show 1 ≤ sizeLine; decide), fun p hp => ?_⟩
      exact q' H1 s [-2] (by rw [e0, if_pos (.inr (by omega))]) N1 (Fr.refl _ _) p _ hp rfl
    refine ifF (by rw [decide_eq_true (by omega)]; rfl) ?_
    refine ⟨_, rfl, _, rfl, _, _, _, _, rfl, N1.ch hj, T.cl_Channel, T.n_room, (by show 5 < 1000; decide), ?_⟩
    rw [chF_put_room]
    refine ⟨_, rfl, (by show 1 ≤ sizeLine; decide), fun p hp => ?_⟩
    exact q' _ _ _ (by rw [e0, if_neg (by omega)]) (N1.put (cont_ch hj) (cont_room hj)) (N1.fr (cont_ch hj)) p _ hp rfl
abbrev s_call_process : Stmt := top 63
theorem sc_call_process : FnScope ["net", "calls", "number", "process"] ["net", "calls"] (defScope s_call_process) := ⟨rfl, rfl, rfl, by decide +kernel, rfl, by decide +kernel, by decide +kernel⟩
theorem ok_call_process {f : Addr} {fd : FuncData} (F : L2.Fun K "call_process" "call_process" s_call_process f fd) (T : Txt K mg C) (m_number : C8.Met P w K mg base 1 C.cl "number" (sp_Calls_number K C TT) []) (m_process : C8.Met P w K mg base 1 C.cn "process" (sp_Net_process K C TT) []) (m_has_process : C8.Met P w K mg base 1 C.cn "has_process" (sp_Net_has_process K C TT) []) (c_how_stands : C8.Cal P w K mg base 2 "how_stands" (sp_how_stands K C TT) []) (c_waited_channel : C8.Cal P w K mg base 3 "waited_channel" (sp_waited_channel K C TT) []) : FnOk P w K mg base L2.CX0 4 f fd ["net", "calls"] (sp_call_process K C TT) := by
  refine F.ok sc_call_process (fun vs H Q E h => ?_) (fun cdv A outer s0 H vs Q E hr h => ?_)
  · obtain ⟨L, s, a, dx, nb, k, ns, c, k', rfl, _⟩ := h
    rfl
  · obtain ⟨L, s, a, dx, nb, k, ns, c, k', rfl, N, wf, hst, cl, ⟨x, hx, rfl, rfl⟩, q⟩ := h
    refine ⟨_, (pss_cons (ps_set (i := 2) sc_call_process.nd rfl (Or.inl rfl) (C8.pe_mt0 m_number hr (by decide) (pv 1))) (pss_cons (ps_if (pt_not (pt_val (C8.pe_mt m_has_process hr (by decide) (pv 0) (pa_cons (pv 2) pa_nil)))) (pss_one (ps_ret (pe_lst (pa_cons (pe_un un_neg pe_int) pa_nil)))) pss_nil) (pss_cons (ps_set (i := 3) sc_call_process.nd rfl (Or.inl rfl) (C8.pe_mt m_process hr (by decide) (pv 0) (pa_cons (pv 2) pa_nil))) (pss_one (ps_ret (pe_op op_cat (pe_lst (pa_cons (C8.pe_c c_how_stands hr (by decide) rfl (pa_cons (pv 0) (pa_cons (pv 3) pa_nil))) (pa_cons (C8.pe_c c_waited_channel hr (by decide) rfl (pa_cons (pv 0) (pa_cons (pv 3) pa_nil))) (pa_cons (pe_fld (pv 3) rfl) pa_nil)))) (pe_fld (pv 3) rfl))))))), ?_⟩
    refine ⟨_, rfl, _, _, _, rfl, cl.obj, clF_no_number .., _, _, _, k, _, _, rfl, cl.obj, cl.nums, (by rw [vI_get, hx]; rfl), ?_⟩
    have c1 := cl.on (k' := k + 1)
    have N1 := cl.net N (o := .ins C.cl dx (clF nb ((k + 1 : Nat) : Int)))
    have q' := fun (H1 : Hp) (s' : Hs09.St) (ans : List Int) (e : Hs09.step s (.process x) = (s', ans)) (n : NetAt C TT L H1 s') (f : Fr L (upd H a (.ins C.cl dx (clF nb ((k + 1 : Nat) : Int)))) H1) (p : Addr) (xs : List V) (hp : H1 p = none) (hx : xs = ans.map V.int) => callQ.ret' (by rw [(step_fst e).1, (step_fst e).2] at q; exact q) cl n f hp hx
    generalize upd H a (.ins C.cl dx (clF nb ((k + 1 : Nat) : Int))) = H1 at c1 N1 q'
    refine ⟨_, rfl, _, _, _, rfl, N1.net, ntF_no_has_process .., _, rfl, _, _, _, _, _, _, _, _, rfl, N1.net, N1.ps, _, rfl, ?_⟩
    rw [refs_len]
    by_cases hi : 1 ≤ x ∧ x ≤ s.procs.length
    rotate_left
    · refine ifT (by rw [decide_eq_false (by omega)]; rfl) ?_
      refine ⟨_, rfl, (by show 1 ≤ sizeLine; decide), fun p hp => ?_⟩
      exact q' H1 s [-1] (by show (s, if isProc s x = false then [-1] else _) = _; rw [isProc_eq, if_pos (decide_eq_false hi)]) N1 (Fr.refl _ _) p _ hp rfl
    refine ifF (by rw [decide_eq_true (by omega)]; rfl) ?_
    obtain ⟨i, rfl⟩ : ∃ i, x = i + 1 := ⟨x - 1, by omega⟩
    have hi' : i < s.procs.length := by omega
    have isP : isProc s (i + 1) = true := by rw [isProc_eq]; exact decide_eq_true hi
    refine ⟨_, rfl, _, _, _, rfl, N1.net, ntF_no_process .., _, rfl, _, _, _, _, _, _, _, i, _, rfl, N1.net, N1.ps, refs_get hi', ?_⟩
    have e0 : Hs09.step s (.process (i + 1)) = (s, Hs09.ints ([(stand s i).1, (stand s i).2, (proc s i).next + 1] ++ (proc s i).regs)) := by
      show (s, if isProc s (i + 1) = false then [-1] else _) = _
      rw [isP, if_neg (by decide)]; rfl
    refine ⟨_, rfl, _, rfl, L, s, i, rfl, N1, wf, hi', _, rfl, _, rfl, L, s, i, rfl, N1, wf, hi', _, rfl, _, _, _, _, _, rfl, N1.pr hi', T.cl_Process, T.n_place, prF_place .., (by show 3 ≤ sizeLine; decide), fun l hl => ?_⟩
    have N2 := N1.new (o := .lst [V.int ((stand s i).1 : Nat), V.int ((stand s i).2 : Nat), V.int (((proc s i).next + 1 : Nat) : Int)]) hl
    have hr4 := (wf.proc hi').r4
    refine ⟨_, rfl, _, _, _, _, _, rfl, N2.pr hi', T.cl_Process, T.n_registers, prF_registers .., l, _, _, _, rfl, rfl, upd_same, N2.rg hi', (by rw [vI_len, hr4]; show 3 + 4 ≤ sizeLine; decide), fun p hp => ?_⟩
    exact q' _ s _ e0 N2 (Fr.same (same_new hl)) p _ hp (by rw [vI_ints]; rfl)
abbrev s_call_said : Stmt := top 64
theorem sc_call_said : FnScope ["net", "calls", "number", "said"] ["net", "calls"] (defScope s_call_said) := ⟨rfl, rfl, rfl, by decide +kernel, rfl, by decide +kernel, by decide +kernel⟩
theorem ok_call_said {f : Addr} {fd : FuncData} (F : L2.Fun K "call_said" "call_said" s_call_said f fd) (T : Txt K mg C) (m_number : C8.Met P w K mg base 1 C.cl "number" (sp_Calls_number K C TT) []) (m_has_process : C8.Met P w K mg base 1 C.cn "has_process" (sp_Net_has_process K C TT) []) (m_process : C8.Met P w K mg base 1 C.cn "process" (sp_Net_process K C TT) []) : FnOk P w K mg base L2.CX0 2 f fd ["net", "calls"] (sp_call_said K C TT) := by
  refine F.ok sc_call_said (fun vs H Q E h => ?_) (fun cdv A outer s0 H vs Q E hr h => ?_)
  · obtain ⟨L, s, a, dx, nb, k, ns, c, k', rfl, _⟩ := h
    rfl
  · obtain ⟨L, s, a, dx, nb, k, ns, c, k', rfl, N, wf, hst, cl, ⟨x, hx, rfl, rfl⟩, q⟩ := h
    refine ⟨_, (pss_cons (ps_set (i := 2) sc_call_said.nd rfl (Or.inl rfl) (C8.pe_mt0 m_number hr (by decide) (pv 1))) (pss_cons (ps_if (pt_not (pt_val (C8.pe_mt m_has_process hr (by decide) (pv 0) (pa_cons (pv 2) pa_nil)))) (pss_one (ps_ret (pe_lst (pa_cons (pe_un un_neg pe_int) pa_nil)))) pss_nil) (pss_cons (ps_set (i := 3) sc_call_said.nd rfl (Or.inl rfl) (pe_fld (C8.pe_mt m_process hr (by decide) (pv 0) (pa_cons (pv 2) pa_nil)) rfl)) (pss_one (ps_ret (pe_op op_cat (pe_lst (pa_cons (pe_callB call_len_seq (by rfl) T.len PySem.boot_len (pa_cons (pv 3) pa_nil)) pa_nil)) (pv 3))))))), ?_⟩
    refine ⟨_, rfl, _, _, _, rfl, cl.obj, clF_no_number .., _, _, _, k, _, _, rfl, cl.obj, cl.nums, (by rw [vI_get, hx]; rfl), ?_⟩
    have c1 := cl.on (k' := k + 1)
    have N1 := cl.net N (o := .ins C.cl dx (clF nb ((k + 1 : Nat) : Int)))
    have q' := fun (H1 : Hp) (s' : Hs09.St) (ans : List Int) (e : Hs09.step s (.said x) = (s', ans)) (n : NetAt C TT L H1 s') (f : Fr L (upd H a (.ins C.cl dx (clF nb ((k + 1 : Nat) : Int)))) H1) (p : Addr) (xs : List V) (hp : H1 p = none) (hx : xs = ans.map V.int) => callQ.ret' (by rw [(step_fst e).1, (step_fst e).2] at q; exact q) cl n f hp hx
    generalize upd H a (.ins C.cl dx (clF nb ((k + 1 : Nat) : Int))) = H1 at c1 N1 q'
    refine ⟨_, rfl, _, _, _, rfl, N1.net, ntF_no_has_process .., _, rfl, _, _, _, _, _, _, _, _, rfl, N1.net, N1.ps, _, rfl, ?_⟩
    rw [refs_len]
    by_cases hi : 1 ≤ x ∧ x ≤ s.procs.length
    rotate_left
    · refine ifT (by rw [decide_eq_false (by omega)]; rfl) ?_
      refine ⟨_, rfl, (by show 1 ≤ sizeLine; decide), fun p hp => ?_⟩
      exact q' H1 s [-1] (by show (s, if isProc s x = false then [-1] else _) = _; rw [isProc_eq, if_pos (decide_eq_false hi)]) N1 (Fr.refl _ _) p _ hp rfl
    refine ifF (by rw [decide_eq_true (by omega)]; rfl) ?_
    obtain ⟨i, rfl⟩ : ∃ i, x = i + 1 := ⟨x - 1, by omega⟩
    have hi' : i < s.procs.length := by omega
    have isP : isProc s (i + 1) = true := by rw [isProc_eq]; exact decide_eq_true hi
    have e0 : Hs09.step s (.said (i + 1)) = (s, Hs09.told (proc s i).said) := by
      show (s, if isProc s (i + 1) = false then [-1] else _) = _
      rw [isP, if_neg (by decide)]; rfl
    have hsd := (wf.proc hi').sd
    have hbig : sizeLine = 16777216 := by decide
    refine ⟨_, rfl, _, _, _, rfl, N1.net, ntF_no_process .., _, rfl, _, _, _, _, _, _, _, i, _, rfl, N1.net, N1.ps, refs_get hi', _, _, _, _, _, rfl, N1.pr hi', T.cl_Process, T.n_said, prF_said .., ?_⟩
    refine ⟨_, rfl, _, _, rfl, .inl (SqL.of (N1.sd hi')), (by show 1 ≤ sizeLine; decide), fun l hl => ?_⟩
    have N2 := N1.new (o := .lst [V.int ((vI (proc s i).said).length : Int)]) hl
    refine ⟨_, rfl, l, _, _, _, rfl, rfl, upd_same, N2.sd hi', (by rw [vI_len]; show 1 + _ ≤ _; omega), fun p hp => ?_⟩
    exact q' _ s _ e0 N2 (Fr.same (same_new hl)) p _ hp (by unfold Hs09.told; rw [vI_ints, vI_len]; rfl)
abbrev s_call_channel : Stmt := top 65
theorem sc_call_channel : FnScope ["net", "calls", "number", "channel", "unread"] ["net", "calls"] (defScope s_call_channel) := ⟨rfl, rfl, rfl, by decide +kernel, rfl, by decide +kernel, by decide +kernel⟩
theorem ok_call_channel {f : Addr} {fd : FuncData} (F : L2.Fun K "call_channel" "call_channel" s_call_channel f fd) (T : Txt K mg C) (m_number : C8.Met P w K mg base 1 C.cl "number" (sp_Calls_number K C TT) []) (m_channel : C8.Met P w K mg base 1 C.cn "channel" (sp_Net_channel K C TT) []) (m_on_it : C8.Met P w K mg base 1 C.cc "on_it" (sp_Channel_on_it K C TT) []) (m_has_channel : C8.Met P w K mg base 1 C.cn "has_channel" (sp_Net_has_channel K C TT) []) : FnOk P w K mg base L2.CX0 2 f fd ["net", "calls"] (sp_call_channel K C TT) := by
  refine F.ok sc_call_channel (fun vs H Q E h => ?_) (fun cdv A outer s0 H vs Q E hr h => ?_)
  · obtain ⟨L, s, a, dx, nb, k, ns, c, k', rfl, _⟩ := h
    rfl
  · obtain ⟨L, s, a, dx, nb, k, ns, c, k', rfl, N, wf, hst, cl, ⟨x, hx, rfl, rfl⟩, q⟩ := h
    refine ⟨_, (pss_cons (ps_set (i := 2) sc_call_channel.nd rfl (Or.inl rfl) (C8.pe_mt0 m_number hr (by decide) (pv 1))) (pss_cons (ps_if (pt_not (pt_val (C8.pe_mt m_has_channel hr (by decide) (pv 0) (pa_cons (pv 2) pa_nil)))) (pss_one (ps_ret (pe_lst (pa_cons (pe_un un_neg pe_int) pa_nil)))) pss_nil) (pss_cons (ps_set (i := 3) sc_call_channel.nd rfl (Or.inl rfl) (C8.pe_mt m_channel hr (by decide) (pv 0) (pa_cons (pv 2) pa_nil))) (pss_cons (ps_set (i := 4) sc_call_channel.nd rfl (Or.inl rfl) (C8.pe_mt0 m_on_it hr (by decide) (pv 3))) (pss_one (ps_ret (pe_op op_cat (pe_lst (pa_cons (pe_fld (pv 3) rfl) (pa_cons (pe_callB call_len_seq (by rfl) T.len PySem.boot_len (pa_cons (pv 4) pa_nil)) pa_nil))) (pv 4)))))))), ?_⟩
    refine ⟨_, rfl, _, _, _, rfl, cl.obj, clF_no_number .., _, _, _, k, _, _, rfl, cl.obj, cl.nums, (by rw [vI_get, hx]; rfl), ?_⟩
    have c1 := cl.on (k' := k + 1)
    have N1 := cl.net N (o := .ins C.cl dx (clF nb ((k + 1 : Nat) : Int)))
    have q' := fun (H1 : Hp) (s' : Hs09.St) (ans : List Int) (e : Hs09.step s (.channel x) = (s', ans)) (n : NetAt C TT L H1 s') (f : Fr L (upd H a (.ins C.cl dx (clF nb ((k + 1 : Nat) : Int)))) H1) (p : Addr) (xs : List V) (hp : H1 p = none) (hx : xs = ans.map V.int) => callQ.ret' (by rw [(step_fst e).1, (step_fst e).2] at q; exact q) cl n f hp hx
    generalize upd H a (.ins C.cl dx (clF nb ((k + 1 : Nat) : Int))) = H1 at c1 N1 q'
    refine ⟨_, rfl, _, _, _, rfl, N1.net, ntF_no_has_channel .., _, rfl, _, _, _, _, _, _, _, _, rfl, N1.net, N1.cs, _, rfl, ?_⟩
    rw [refs_len]
    by_cases hi : 1 ≤ x ∧ x ≤ s.chans.length
    rotate_left
    · refine ifT (by rw [decide_eq_false (by omega)]; rfl) ?_
      refine ⟨_, rfl, (by show 1 ≤ sizeLine; decide), fun p hp => ?_⟩
      exact q' H1 s [-1] (by show (s, if isChan s x = false then [-1] else _) = _; rw [isChan_eq, if_pos (decide_eq_false hi)]) N1 (Fr.refl _ _) p _ hp rfl
    refine ifF (by rw [decide_eq_true (by omega)]; rfl) ?_
    obtain ⟨j, rfl⟩ : ∃ j, x = j + 1 := ⟨x - 1, by omega⟩
    have hj : j < s.chans.length := by omega
    have isC : isChan s (j + 1) = true := by rw [isChan_eq]; exact decide_eq_true hi
    have e0 : Hs09.step s (.channel (j + 1)) = (s, Hs09.ints ((chan s j).room :: (chan s j).on.length :: (chan s j).on)) := by
      show (s, if isChan s (j + 1) = false then [-1] else _) = _
      rw [isC, if_neg (by decide)]; rfl
    have wc := wf.chan hj
    have wl := wc.wl
    have wle := wc.le
    have hbig : sizeLine = 16777216 := by decide
    refine ⟨_, rfl, _, _, _, rfl, N1.net, ntF_no_channel .., _, rfl, _, _, _, _, _, _, _, j, _, rfl, N1.net, N1.cs, refs_get hj, ?_⟩
    refine ⟨_, rfl, _, _, _, rfl, N1.ch hj, chF_no_on_it .., _, _, _, _, _, _, _, _, rfl, N1.ch hj, N1.wr hj, fun r hr' => ?_⟩
    have ec : cutV (vI (chan s j).wrote) (some (((chan s j).wrote.length - (chan s j).on.length : Nat) : Int)) none = vI (chan s j).on := by
      unfold cutV
      rw [HT.sIx_nat, HT.sIx_none, vI_len, Nat.min_eq_left (by omega)]
      have e1 : vI (chan s j).on = (vI (chan s j).wrote).drop ((chan s j).wrote.length - (chan s j).on.length) := by
        conv => lhs; rw [wc.suf]
        unfold vI
        rw [List.map_drop]
      rw [← e1]
      exact List.take_of_length_le (by rw [vI_len]; omega)
    rw [ec]
    have N2 := N1.new (o := .lst (vI (chan s j).on)) hr'
    refine ⟨_, rfl, _, _, _, _, _, rfl, N2.ch hj, T.cl_Channel, T.n_room, chF_room .., _, rfl, _, _, rfl, .inl (SqL.of upd_same), (by show 2 ≤ sizeLine; decide), fun l hl => ?_⟩
    have N3 := N2.new (o := .lst [V.int ((chan s j).room : Int), V.int ((vI (chan s j).on).length : Int)]) hl
    have nrl : r ≠ l := fun z => by rw [← z, upd_same] at hl; cases hl
    refine ⟨_, rfl, l, r, _, _, rfl, rfl, upd_same, (by rw [upd_ne nrl]; exact upd_same), (by rw [vI_len]; show 2 + _ ≤ _; omega), fun p hp => ?_⟩
    exact q' _ s _ e0 N3 (Fr.same ((same_new hr').trans (same_new hl))) p _ hp (by rw [vI_ints, vI_len]; rfl)
abbrev s_call_wrote : Stmt := top 66
theorem sc_call_wrote : FnScope ["net", "calls", "number", "written"] ["net", "calls"] (defScope s_call_wrote) := ⟨rfl, rfl, rfl, by decide +kernel, rfl, by decide +kernel, by decide +kernel⟩
theorem ok_call_wrote {f : Addr} {fd : FuncData} (F : L2.Fun K "call_wrote" "call_wrote" s_call_wrote f fd) (T : Txt K mg C) (m_number : C8.Met P w K mg base 1 C.cl "number" (sp_Calls_number K C TT) []) (m_has_channel : C8.Met P w K mg base 1 C.cn "has_channel" (sp_Net_has_channel K C TT) []) (m_channel : C8.Met P w K mg base 1 C.cn "channel" (sp_Net_channel K C TT) []) : FnOk P w K mg base L2.CX0 2 f fd ["net", "calls"] (sp_call_wrote K C TT) := by
  refine F.ok sc_call_wrote (fun vs H Q E h => ?_) (fun cdv A outer s0 H vs Q E hr h => ?_)
  · obtain ⟨L, s, a, dx, nb, k, ns, c, k', rfl, _⟩ := h
    rfl
  · obtain ⟨L, s, a, dx, nb, k, ns, c, k', rfl, N, wf, hst, cl, ⟨x, hx, rfl, rfl⟩, q⟩ := h
    refine ⟨_, (pss_cons (ps_set (i := 2) sc_call_wrote.nd rfl (Or.inl rfl) (C8.pe_mt0 m_number hr (by decide) (pv 1))) (pss_cons (ps_if (pt_not (pt_val (C8.pe_mt m_has_channel hr (by decide) (pv 0) (pa_cons (pv 2) pa_nil)))) (pss_one (ps_ret (pe_lst (pa_cons (pe_un un_neg pe_int) pa_nil)))) pss_nil) (pss_cons (ps_set (i := 3) sc_call_wrote.nd rfl (Or.inl rfl) (pe_fld (C8.pe_mt m_channel hr (by decide) (pv 0) (pa_cons (pv 2) pa_nil)) rfl)) (pss_one (ps_ret (pe_op op_cat (pe_lst (pa_cons (pe_callB call_len_seq (by rfl) T.len PySem.boot_len (pa_cons (pv 3) pa_nil)) pa_nil)) (pv 3))))))), ?_⟩
    refine ⟨_, rfl, _, _, _, rfl, cl.obj, clF_no_number .., _, _, _, k, _, _, rfl, cl.obj, cl.nums, (by rw [vI_get, hx]; rfl), ?_⟩
    have c1 := cl.on (k' := k + 1)
    have N1 := cl.net N (o := .ins C.cl dx (clF nb ((k + 1 : Nat) : Int)))
    have q' := fun (H1 : Hp) (s' : Hs09.St) (ans : List Int) (e : Hs09.step s (.wrote x) = (s', ans)) (n : NetAt C TT L H1 s') (f : Fr L (upd H a (.ins C.cl dx (clF nb ((k + 1 : Nat) : Int)))) H1) (p : Addr) (xs : List V) (hp : H1 p = none) (hx : xs = ans.map V.int) => callQ.ret' (by rw [(step_fst e).1, (step_fst e).2] at q; exact q) cl n f hp hx
    generalize upd H a (.ins C.cl dx (clF nb ((k + 1 : Nat) : Int))) = H1 at c1 N1 q'
    refine ⟨_, rfl, _, _, _, rfl, N1.net, ntF_no_has_channel .., _, rfl, _, _, _, _, _, _, _, _, rfl, N1.net, N1.cs, _, rfl, ?_⟩
    rw [refs_len]
    by_cases hi : 1 ≤ x ∧ x ≤ s.chans.length
    rotate_left
    · refine ifT (by rw [decide_eq_false (by omega)]; rfl) ?_
      refine ⟨_, rfl, (by show 1 ≤ sizeLine; decide), fun p hp => ?_⟩
      exact q' H1 s [-1] (by show (s, if isChan s x = false then [-1] else _) = _; rw [isChan_eq, if_pos (decide_eq_false hi)]) N1 (Fr.refl _ _) p _ hp rfl
    refine ifF (by rw [decide_eq_true (by omega)]; rfl) ?_
    obtain ⟨j, rfl⟩ : ∃ j, x = j + 1 := ⟨x - 1, by omega⟩
    have hj : j < s.chans.length := by omega
    have isC : isChan s (j + 1) = true := by rw [isChan_eq]; exact decide_eq_true hi
    have e0 : Hs09.step s (.wrote (j + 1)) = (s, Hs09.told (chan s j).wrote) := by
      show (s, if isChan s (j + 1) = false then [-1] else _) = _
      rw [isC, if_neg (by decide)]; rfl
    have wl := (wf.chan hj).wl
    have hbig : sizeLine = 16777216 := by decide
    refine ⟨_, rfl, _, _, _, rfl, N1.net, ntF_no_channel .., _, rfl, _, _, _, _, _, _, _, j, _, rfl, N1.net, N1.cs, refs_get hj, _, _, _, _, _, rfl, N1.ch hj, T.cl_Channel, T.n_written, chF_written .., ?_⟩
    refine ⟨_, rfl, _, _, rfl, .inl (SqL.of (N1.wr hj)), (by show 1 ≤ sizeLine; decide), fun l hl => ?_⟩
    have N2 := N1.new (o := .lst [V.int ((vI (chan s j).wrote).length : Int)]) hl
    refine ⟨_, rfl, l, _, _, _, rfl, rfl, upd_same, N2.wr hj, (by rw [vI_len]; show 1 + _ ≤ _; omega), fun p hp => ?_⟩
    exact q' _ s _ e0 N2 (Fr.same (same_new hl)) p _ hp (by unfold Hs09.told; rw [vI_ints, vI_len]; rfl)
end
end Ro
end part_D12
section part_D13
set_option linter.unusedVariables false
set_option maxRecDepth 100000
set_option maxHeartbeats 2000000
namespace Ro
open PySem PySem.Spec PyProof.Rows L2
open Hs09 (Instr Proc Chan proc chan isProc setProc noProc within threes fours fresh instrOf isRight)
def sp_call_net := spCall (needR 36 .net)
def sp_call_program := spCall (needR 104 .program)
theorem cut_row (ns : List Nat) (i m : Nat) : ((vI ns).drop i).take m = vI ((ns.drop i).take m) := by unfold vI; rw [List.map_take, List.map_drop]
theorem chs_not {n : Nat} {l : List Nat} (h : chsFit n l = false) : l.length % 3 ≠ 0 ∨ 30 < l.length ∨ (threes l).all (fun x => within 1 n x.1 && (within 1 n x.2.1 && within 1 50 x.2.2)) = false := by
  unfold chsFit at h
  by_cases h1 : l.length % 3 = 0
  · by_cases h2 : l.length ≤ 30
    · rw [decide_eq_true h1, decide_eq_true h2, Bool.true_and, Bool.true_and] at h
      exact .inr (.inr h)
    · exact .inr (.inl (by omega))
  · exact .inl h1
theorem chs_yes {n : Nat} {l : List Nat} (h : chsFit n l = true) : ¬ (l.length % 3 ≠ 0 ∨ 30 < l.length ∨ (threes l).all (fun x => within 1 n x.1 && (within 1 n x.2.1 && within 1 50 x.2.2)) = false) := by
  unfold chsFit at h
  rw [Bool.and_eq_true, Bool.and_eq_true, decide_eq_true_iff, decide_eq_true_iff] at h
  rintro (z | z | z)
  · exact z h.1
  · omega
  · have : (threes l).all (chFit n) = false := z
    rw [h.2.2] at this; cases this
theorem prs_not {s : Hs09.St} {p : Nat} {l : List Nat} (h : prFit s p l = false) : l.length % 4 ≠ 0 ∨ 96 < l.length ∨ (fours l).all (isRight s (p - 1) (l.length / 4)) = false := by
  unfold prFit at h
  by_cases h1 : l.length % 4 = 0
  · by_cases h2 : l.length ≤ 96
    · rw [decide_eq_true h1, decide_eq_true h2, Bool.true_and, Bool.true_and] at h
      exact .inr (.inr h)
    · exact .inr (.inl (by omega))
  · exact .inl h1
theorem prs_yes {s : Hs09.St} {p : Nat} {l : List Nat} (h : prFit s p l = true) : l.length % 4 = 0 ∧ l.length ≤ 96 ∧ (fours l).all (isRight s (p - 1) (l.length / 4)) = true := by
  unfold prFit at h
  rw [Bool.and_eq_true, Bool.and_eq_true, decide_eq_true_iff, decide_eq_true_iff] at h
  exact h
section
variable {P : Program} {w : World} {K : PySem.W.Frag} {mg : Str → Option Value} {base : Heap} {C : Cs} {TT : List NTab}
abbrev s_call_net : Stmt := top 55
theorem sc_call_net : FnScope ["net", "calls", "how_many", "rows"] ["net", "calls"] (defScope s_call_net) := ⟨rfl, rfl, rfl, by decide +kernel, rfl, by decide +kernel, by decide +kernel⟩
theorem ok_call_net {f : Addr} {fd : FuncData} (F : L2.Fun K "call_net" "call_net" s_call_net f fd) (T : Txt K mg C) (m_number : C8.Met P w K mg base 1 C.cl "number" (sp_Calls_number K C TT) []) (m_row : C8.Met P w K mg base 2 C.cl "row" (sp_Calls_row K C TT) []) (m_lay : C8.Met P w K mg base 3 C.cn "lay" (sp_Net_lay K C TT) []) (c_channels_fit : C8.Cal P w K mg base 2 "channels_fit" (sp_channels_fit K C TT) []) : FnOk P w K mg base L2.CX0 4 f fd ["net", "calls"] (sp_call_net K C TT) := by
  refine F.ok sc_call_net (fun vs H Q E h => ?_) (fun cdv A outer s0 H vs Q E hr h => ?_)
  · obtain ⟨L, s, a, dx, nb, k, ns, c, k', rfl, _⟩ := h
    rfl
  · obtain ⟨L, s, a, dx, nb, k, ns, c, k', rfl, N, wf, hst, cl, ⟨x, m, hx, hm, hlen, hmost, rfl, rfl⟩, q⟩ := h
    refine ⟨_, (pss_cons (ps_set (i := 2) sc_call_net.nd rfl (Or.inl rfl) (C8.pe_mt0 m_number hr (by decide) (pv 1))) (pss_cons (ps_set (i := 3) sc_call_net.nd rfl (Or.inl rfl) (C8.pe_mt0 m_row hr (by decide) (pv 1))) (pss_cons (ps_if (pt_not (pt_chain op_le op_le pe_int (pv 2) (C8.pe_gc rfl T.g_MOST_PROCESSES))) (pss_one (ps_ret (pe_lst (pa_cons (pe_un un_neg pe_int) pa_nil)))) pss_nil) (pss_cons (ps_if (pt_not (pt_val (C8.pe_c c_channels_fit hr (by decide) rfl (pa_cons (pv 2) (pa_cons (pv 3) pa_nil))))) (pss_one (ps_ret (pe_lst (pa_cons (pe_un un_neg pe_int) pa_nil)))) pss_nil) (pss_cons (ps_expr (C8.pe_mt m_lay hr (by decide) (pv 0) (pa_cons (pv 2) (pa_cons (pv 3) pa_nil)))) (pss_one (ps_ret (pe_lst (pa_cons (pe_callB call_len_seq (by rfl) T.len PySem.boot_len (pa_cons (pe_fld (pv 0) rfl) pa_nil)) pa_nil))))))))), ?_⟩
    refine ⟨_, rfl, _, _, _, rfl, cl.obj, clF_no_number .., _, _, _, k, _, _, rfl, cl.obj, cl.nums, (by rw [vI_get, hx]; rfl), ?_⟩
    have c0 := cl.on (k' := k + 1)
    refine ⟨_, rfl, _, _, _, rfl, c0.obj, clF_no_row .., _, _, _, k + 1, m, _, rfl, c0.obj, c0.nums, (by rw [vI_get, hm]; rfl), (by rw [vI_len]; omega), fun r hr0 => ?_⟩
    rw [upd_upd, cut_row, show k + 1 + 1 + m = k + 2 + m by omega]
    have nra : r ≠ a := fun z => by rw [z, upd_same] at hr0; cases hr0
    rw [upd_ne nra] at hr0
    have ha1 : upd H a (.ins C.cl dx (clF nb ((k + 2 + m : Nat) : Int))) a = some (.ins C.cl dx (clF nb ((k + 2 + m : Nat) : Int))) := upd_same
    have N1 := cl.net N (o := .ins C.cl dx (clF nb ((k + 2 + m : Nat) : Int)))
    have hr1 : upd H a (.ins C.cl dx (clF nb ((k + 2 + m : Nat) : Int))) r = none := by rw [upd_ne nra]; exact hr0
    have o1 : ∀ b o, H b = some o → b ≠ a → upd H a (.ins C.cl dx (clF nb ((k + 2 + m : Nat) : Int))) b = some o := fun b o e n => by rw [upd_ne n]; exact e
    generalize upd H a (.ins C.cl dx (clF nb ((k + 2 + m : Nat) : Int))) = H1 at ha1 N1 hr1 o1
    generalize hl : (ns.drop (k + 2)).take m = l at q
    have l36 : l.length ≤ 36 := by rw [← hl, List.length_take]; omega
    have S2 := same_new (o := .lst (vI l)) hr1
    have N2 := N1.same S2
    have ha2 := S2 _ _ ha1
    have hr2 : upd H1 r (.lst (vI l)) r = some (.lst (vI l)) := upd_same
    have o2 : ∀ b o, H b = some o → b ≠ a → upd H1 r (.lst (vI l)) b = some o := fun b o e n => S2 _ _ (o1 b o e n)
    generalize upd H1 r (.lst (vI l)) = H2 at N2 ha2 hr2 o2
    have ref : ∀ (n : Int), Hs09.step s (.net x l) = (s, [n]) → ∀ p, H2 p = none → Q (.ref p) (upd H2 p (.lst [.int n])) := fun n e p hp => by
      rw [(step_fst e).1, (step_fst e).2] at q
      exact q.ret N2 rfl ha2 cl.tag (fun b o e t n _ => ⟨o2 b o e n, t⟩) hp rfl
    have e0 : Hs09.step s (.net x l) = if within 1 6 x = false then (s, [-1]) else if l.length % 3 ≠ 0 ∨ 30 < l.length ∨ (threes l).all (fun y => within 1 x y.1 && (within 1 x y.2.1 && within 1 50 y.2.2)) = false then (s, [-2]) else (fresh x (threes l), Hs09.ints [l.length / 3]) := rfl
    refine ⟨_, rfl, _, _, rfl, rfl, _, rfl, ?_⟩
    by_cases h1 : 1 ≤ x
    rotate_left
    · refine ifF (decide_eq_false (by omega)) ⟨_, rfl, ifT rfl ?_⟩
      exact ⟨_, rfl, (by show 1 ≤ sizeLine; decide), ref (-1) (by rw [e0, within_eq, if_pos (decide_eq_false (by omega))])⟩
    refine ifT (decide_eq_true (by omega)) ⟨_, _, rfl, rfl, _, rfl, ?_⟩
    by_cases h6 : x ≤ 6
    rotate_left
    · refine ifT (by rw [decide_eq_false (by omega)]; rfl) ?_
      exact ⟨_, rfl, (by show 1 ≤ sizeLine; decide), ref (-1) (by rw [e0, within_eq, if_pos (decide_eq_false (by omega))])⟩
    refine ifF (by rw [decide_eq_true (by omega)]; rfl) ?_
    have w6 : ¬ within 1 6 x = false := by rw [within_eq, decide_eq_true ⟨h1, h6⟩]; decide
    refine ⟨_, rfl, _, rfl, x, r, l, rfl, hr2, l36, _, rfl, ?_⟩
    cases hf : chsFit x l with
    | false =>
      refine ifT rfl ?_
      exact ⟨_, rfl, (by show 1 ≤ sizeLine; decide), ref (-2) (by rw [e0, if_neg w6, if_pos (chs_not hf)])⟩
    | true =>
      refine ifF rfl ?_
      have e1 : Hs09.step s (.net x l) = (fresh x (threes l), Hs09.ints [l.length / 3]) := by rw [e0, if_neg w6, if_neg (chs_yes hf)]
      obtain ⟨m3, hm3, -, tlen, -⟩ := chs_ok hf
      refine ⟨_, rfl, _, _, _, rfl, N2.net, ntF_no_lay .., _, rfl, _, rfl, L.addr .net, _, _, _, _, _, x, r, l, rfl, N2.net, hr2, h6, hf, N2.tb, fun H3 L3 N3 an ot => ?_⟩
      have nan : ∀ b, L.tag b = .out → b ≠ L.addr .net := fun b t z => by
        have := N.tg .net _ rfl
        rw [← z, t] at this
        cases this
      have hnet3 := N3.net
      rw [an] at hnet3
      refine ⟨_, rfl, _, _, _, _, _, rfl, hnet3, T.cl_Net, T.n_channels, ntF_channels .., _, _, rfl, .inl (SqL.of N3.cs), (by show 1 ≤ sizeLine; decide), fun p hp => ?_⟩
      rw [(step_fst e1).1, (step_fst e1).2] at q
      obtain ⟨g1, g2⟩ := ot a _ ha2 (nan a cl.tag)
      refine q.ret N3 an g1 g2 (fun b o e t n _ => ot b o (o2 b o e n) (nan b t)) hp ?_
      rw [refs_len]
      have : (fresh x (threes l)).chans.length = l.length / 3 := by
        show ((threes l).map _).length = _
        rw [List.length_map, tlen]; omega
      rw [this]; rfl
abbrev s_call_program : Stmt := top 56
theorem sc_call_program : FnScope ["net", "calls", "owner", "numbers", "program", "start"] ["net", "calls"] (defScope s_call_program) := ⟨rfl, rfl, rfl, by decide +kernel, rfl, by decide +kernel, by decide +kernel⟩
theorem ok_call_program {f : Addr} {fd : FuncData} (F : L2.Fun K "call_program" "call_program" s_call_program f fd) (T : Txt K mg C) (m_number : C8.Met P w K mg base 1 C.cl "number" (sp_Calls_number K C TT) []) (m_row : C8.Met P w K mg base 2 C.cl "row" (sp_Calls_row K C TT) []) (m_begin : C8.Met P w K mg base 1 C.cp "begin" (sp_Process_begin K C TT) []) (m_has_process : C8.Met P w K mg base 1 C.cn "has_process" (sp_Net_has_process K C TT) []) (c_instructions_fit : C8.Cal P w K mg base 5 "instructions_fit" (sp_instructions_fit K C TT) []) (m_process : C8.Met P w K mg base 1 C.cn "process" (sp_Net_process K C TT) []) : FnOk P w K mg base L2.CX0 6 f fd ["net", "calls"] (sp_call_program K C TT) := by
  refine F.ok sc_call_program (fun vs H Q E h => ?_) (fun cdv A outer s0 H vs Q E hr h => ?_)
  · obtain ⟨L, s, a, dx, nb, k, ns, c, k', rfl, _⟩ := h
    rfl
  · obtain ⟨L, s, a, dx, nb, k, ns, c, k', rfl, N, wf, hst, cl, ⟨x, m, hx, hm, hlen, hmost, rfl, rfl⟩, q⟩ := h
    refine ⟨_, (pss_cons (ps_set (i := 2) sc_call_program.nd rfl (Or.inl rfl) (C8.pe_mt0 m_number hr (by decide) (pv 1))) (pss_cons (ps_set (i := 3) sc_call_program.nd rfl (Or.inr rfl) (C8.pe_mt0 m_row hr (by decide) (pv 1))) (pss_cons (ps_if (pt_not (pt_val (C8.pe_mt m_has_process hr (by decide) (pv 0) (pa_cons (pv 2) pa_nil)))) (pss_one (ps_ret (pe_lst (pa_cons (pe_un un_neg pe_int) pa_nil)))) pss_nil) (pss_cons (ps_if (pt_cmpR op_gt (pe_fld (pv 0) rfl) pe_int (nomark _)) (pss_one (ps_ret (pe_lst (pa_cons (pe_un un_neg pe_int) pa_nil)))) pss_nil) (pss_cons (ps_if (pt_not (pt_val (C8.pe_c c_instructions_fit hr (by decide) rfl (pa_cons (pv 0) (pa_cons (pv 2) (pa_cons (pv 3) pa_nil)))))) (pss_one (ps_ret (pe_lst (pa_cons (pe_un un_neg pe_int) pa_nil)))) pss_nil) (pss_cons (ps_setLc (i := 4) (own := [("start", 5)]) (g := gName 5) (te := (tSl (rSlL K) (tVar 3) (tPart (tVar 5)) (tPart (tOp (rI0 fun i j => .int (i + j)) (tVar 5) (tC (.int 4)))))) (tt := tYes) rfl sc_call_program.nd rfl rfl (sw_true rfl rfl rfl (by decide +kernel)) (pi_range3 rfl T.range (pa_cons pe_int (pa_cons (pe_callB call_len_seq (by rfl) T.len PySem.boot_len (pa_cons (pv 3) pa_nil)) (pa_cons pe_int pa_nil)))) (blkOk_by (own := [("start", 5)]) (N := ["net", "calls", "owner", "numbers", "program", "start"]) (sc := defScope s_call_program) (by decide +kernel)) (fun _ _ _ _ _ => pg_name (i := 5) sc_call_program.nd rfl (Or.inl rfl)) (fun _ _ _ _ _ => pts_nil) (fun _ _ _ _ _ => (pe_slice sl_list (pv 3) (po_some (pv 5)) (po_some (pe_op op_add (pv 5) pe_int))))) (pss_cons (ps_expr (C8.pe_mt m_begin hr (by decide) (C8.pe_mt m_process hr (by decide) (pv 0) (pa_cons (pv 2) pa_nil)) (pa_cons (pv 4) pa_nil))) (pss_one (ps_ret (pe_lst (pa_cons (pe_callB call_len_seq (by rfl) T.len PySem.boot_len (pa_cons (pv 4) pa_nil)) pa_nil))))))))))), ?_⟩
    refine ⟨_, rfl, _, _, _, rfl, cl.obj, clF_no_number .., _, _, _, k, _, _, rfl, cl.obj, cl.nums, (by rw [vI_get, hx]; rfl), ?_⟩
    have c0 := cl.on (k' := k + 1)
    refine ⟨_, rfl, _, _, _, rfl, c0.obj, clF_no_row .., _, _, _, k + 1, m, _, rfl, c0.obj, c0.nums, (by rw [vI_get, hm]; rfl), (by rw [vI_len]; omega), fun r hr0 => ?_⟩
    rw [upd_upd, cut_row, show k + 1 + 1 + m = k + 2 + m by omega]
    have nra : r ≠ a := fun z => by rw [z, upd_same] at hr0; cases hr0
    rw [upd_ne nra] at hr0
    have ha1 : upd H a (.ins C.cl dx (clF nb ((k + 2 + m : Nat) : Int))) a = some (.ins C.cl dx (clF nb ((k + 2 + m : Nat) : Int))) := upd_same
    have N1 := cl.net N (o := .ins C.cl dx (clF nb ((k + 2 + m : Nat) : Int)))
    have hr1 : upd H a (.ins C.cl dx (clF nb ((k + 2 + m : Nat) : Int))) r = none := by rw [upd_ne nra]; exact hr0
    have o1 : ∀ b o, H b = some o → b ≠ a → upd H a (.ins C.cl dx (clF nb ((k + 2 + m : Nat) : Int))) b = some o := fun b o e n => by rw [upd_ne n]; exact e
    generalize upd H a (.ins C.cl dx (clF nb ((k + 2 + m : Nat) : Int))) = H1 at ha1 N1 hr1 o1
    generalize hl : (ns.drop (k + 2)).take m = l at q
    have l104 : l.length ≤ 104 := by rw [← hl, List.length_take]; omega
    have S2 := same_new (o := .lst (vI l)) hr1
    have N2 := N1.same S2
    have ha2 := S2 _ _ ha1
    have hr2 : upd H1 r (.lst (vI l)) r = some (.lst (vI l)) := upd_same
    have o2 : ∀ b o, H b = some o → b ≠ a → upd H1 r (.lst (vI l)) b = some o := fun b o e n => S2 _ _ (o1 b o e n)
    generalize upd H1 r (.lst (vI l)) = H2 at N2 ha2 hr2 o2
    have ref : ∀ (n : Int) (H3 : Hp), Same H2 H3 → Hs09.step s (.program x l) = (s, [n]) → ∀ p, H3 p = none → Q (.ref p) (upd H3 p (.lst [.int n])) := fun n H3 sm e p hp => by
      rw [(step_fst e).1, (step_fst e).2] at q
      exact q.ret (N2.same sm) rfl (sm _ _ ha2) cl.tag (fun b o e t n _ => ⟨sm _ _ (o2 b o e n), t⟩) hp rfl
    have e0 : Hs09.step s (.program x l) = if isProc s x = false then (s, [-1]) else if s.steps ≠ 0 then (s, [-7]) else if l.length % 4 ≠ 0 ∨ 96 < l.length ∨ (fours l).all (isRight s (x - 1) (l.length / 4)) = false then (s, [-3]) else (setProc s (x - 1) { noProc with prog := (fours l).filterMap instrOf }, Hs09.ints [l.length / 4]) := rfl
    refine ⟨_, rfl, _, _, _, rfl, N2.net, ntF_no_has_process .., _, rfl, _, _, _, _, _, _, _, _, rfl, N2.net, N2.ps, _, rfl, ?_⟩
    rw [refs_len]
    by_cases hi : 1 ≤ x ∧ x ≤ s.procs.length
    rotate_left
    · refine ifT (by rw [decide_eq_false (by omega)]; rfl) ?_
      exact ⟨_, rfl, (by show 1 ≤ sizeLine; decide), ref (-1) H2 (Same.refl _) (by rw [e0, isProc_eq, if_pos (decide_eq_false hi)])⟩
    refine ifF (by rw [decide_eq_true (by omega)]; rfl) ?_
    have isP : ¬ isProc s x = false := by rw [isProc_eq, decide_eq_true hi]; decide
    refine ⟨_, rfl, _, _, _, _, _, rfl, N2.net, T.cl_Net, T.n_steps, ntF_steps .., _, _, rfl, rfl, _, rfl, ?_⟩
    by_cases h0 : s.steps = 0
    rotate_left
    · refine ifT (decide_eq_true (by omega)) ?_
      exact ⟨_, rfl, (by show 1 ≤ sizeLine; decide), ref (-7) H2 (Same.refl _) (by rw [e0, if_neg isP, if_pos h0])⟩
    refine ifF (decide_eq_false (by omega)) ?_
    refine ⟨_, rfl, _, rfl, _, rfl, L, s, x, r, l, rfl, N2, hi.1, hr2, l104, fun H3 sm3 => ⟨_, rfl, ?_⟩⟩
    cases hf : prFit s x l with
    | false =>
      refine ifT rfl ?_
      exact ⟨_, rfl, (by show 1 ≤ sizeLine; decide), ref (-3) H3 sm3 (by rw [e0, if_neg isP, if_neg (by omega), if_pos (prs_not hf)])⟩
    | true =>
      refine ifF rfl ?_
      obtain ⟨f1, f2, f3⟩ := prs_yes hf
      have e1 : Hs09.step s (.program x l) = (setProc s (x - 1) { noProc with prog := (fours l).filterMap instrOf }, Hs09.ints [l.length / 4]) := by
        rw [e0, if_neg isP, if_neg (by omega), if_neg]
        rintro (z | z | z)
        · exact z f1
        · omega
        · rw [f3] at z; cases z
      obtain ⟨g1, g2, g3⟩ := prog_of f3
      obtain ⟨m4, hm4⟩ : ∃ m4, l.length = 4 * m4 := ⟨l.length / 4, by omega⟩
      have flen := fours_len m4 l hm4
      have hbig : sizeLine = 16777216 := by decide
      have N3 := N2.same sm3
      have hr3 := sm3 _ _ hr2
      obtain ⟨i, rfl⟩ : ∃ i, x = i + 1 := ⟨x - 1, by omega⟩
      rw [Nat.add_sub_cancel] at e1
      have hi' : i < s.procs.length := by omega
      have hsaid : (proc s i).said = [] := List.eq_nil_of_length_eq_zero (by have := (wf.proc hi').sd; omega)
      refine ⟨_, rfl, r, _, rfl, .inl (SqL.of hr3), _, _, _, m4, rfl, by rw [vI_len, hm4]; exact rg4 m4 (by omega), fun D hD => ?_⟩
      refine lc_rangeC (lo := 0) (c := 4) (n := m4) (fun j H' => ∃ L', NewR L L' H3 H' i (((fours l).take j).map fun q => [q.1, q.2.1, q.2.2.1, q.2.2.2]) ∧ H' D = some (.lst (refs (fun k => L'.addr (.rw i k)) j)) ∧ L'.tag D = .out) ?_ ?_ ?_
      · have S0 := same_new (o := .lst []) hD
        exact ⟨L, ⟨fun k r e => by simp at e, fun t _ => ⟨rfl, rfl⟩, fun b o e => ⟨S0 _ _ e, rfl⟩, fun b t => by obtain ⟨o, e, p⟩ := N3.dom b t; exact ⟨o, S0 _ _ e, p⟩⟩, upd_same, N3.free hD⟩
      · rintro j H' hj ⟨L', R, hDl, tD⟩
        obtain ⟨o, y1, y2, y3, e4, et⟩ := fours_get j l (by omega)
        refine ⟨rfl, tYes_if ?_⟩
        have hr' := (R.old _ _ hr3).1
        refine ⟨_, rfl, _, rfl, _, rfl, _, rfl, _, _, rfl, rfl, _, rfl, r, _, rfl, SqL.of hr', fun y hy => ?_⟩
        have ec : cutV (vI l) (some ((0 : Int) + ((j : Nat) : Int) * 4)) (some ((0 : Int) + ((j : Nat) : Int) * 4 + 4)) = vI [o, y1, y2, y3] := cut_four (by omega) e4
        rw [ec]
        have rl : (((fours l).take j).map fun q => [q.1, q.2.1, q.2.2.1, q.2.2.2]).length = j := by rw [List.length_map, List.length_take, flen]; omega
        obtain ⟨L'', R', ax, ao, tg⟩ := R.add (r := [o, y1, y2, y3]) hy
        rw [rl] at ax ao
        have er : (((fours l).take (j + 1)).map fun q => [q.1, q.2.1, q.2.2.1, q.2.2.2]) = (((fours l).take j).map fun q => [q.1, q.2.1, q.2.2.1, q.2.2.2]) ++ [[o, y1, y2, y3]] := by
          rw [take_more et, List.map_append]; rfl
        rw [← er] at R'
        have tD' : L''.tag D = .out := (tg _ _ hDl).trans tD
        have hD' : upd H' y (.lst (vI [o, y1, y2, y3])) D = some (.lst (refs (fun k => L'.addr (.rw i k)) j)) := by rw [upd_ne (ne_of_none hDl hy)]; exact hDl
        refine ⟨_, hD', by rw [refs_len]; omega, L'', R'.out hD tD', ?_, tD'⟩
        rw [upd_same, refs_more (f := fun k => L'.addr (.rw i k)) ao ax]
      · rintro H4 ⟨L', R, hDl, tD⟩
        rw [List.take_of_length_le (Nat.le_of_eq flen), ← g2] at R
        have S4 : Same H3 H4 := fun b o e => (R.old b o e).1
        have N4 := N3.same S4
        have hql : ((fours l).filterMap instrOf).length = m4 := by rw [g1, flen]
        refine ⟨_, rfl, _, _, _, rfl, N4.net, ntF_no_process .., _, rfl, _, _, _, _, _, _, _, i, _, rfl, N4.net, N4.ps, refs_get hi', _, _, _, rfl, N4.pr hi', prF_no_begin .., _, rfl, _, _, _, _, _, _, D, rfl, N4.pr hi', fun H5 r' hr' k1 k2 keep => ?_⟩
        have hT5 : TabsN TT H5 := LamX.Tabs.ext (tabs_put (o' := .ins C.cp (L.dx (.pr i)) (prF D 1 r' (L.addr (.sd i)))) N4.tb (N4.pr hi') trivial) fun b o e => by
          by_cases z : b = L.addr (.pr i)
          · rw [z, upd_same] at e
            cases e
            rw [z]; exact k2
          · rw [upd_ne z] at e
            exact keep b o e z
        obtain ⟨L5, N5, an, tg5⟩ := NetAt.program (qs := (fours l).filterMap instrOf) (D := D) (r' := r') N3 hi' hsaid R (by rw [hql]; exact hDl) tD hD hr' k1 k2 keep hT5
        have npr : ∀ b, L.tag b = .out → b ≠ L.addr (.pr i) := fun b t z => by
          have := N.tg (.pr i) _ (cont_pr hi')
          rw [← z, t] at this
          cases this
        have nDp : D ≠ L.addr (.pr i) := (ne_of_none (N3.pr hi') hD).symm
        have hD5 := keep _ _ hDl nDp
        have all5 : ∀ b o, H2 b = some o → L.tag b = .out → H5 b = some o ∧ L5.tag b = .out := fun b o e t => ⟨keep b o (S4 _ _ (sm3 _ _ e)) (npr b t), by rw [tg5 b o (sm3 _ _ e)]; exact t⟩
        refine ⟨_, rfl, D, _, rfl, .inl (SqL.of hD5), (by show 1 ≤ sizeLine; decide), fun p hp => ?_⟩
        rw [(step_fst e1).1, (step_fst e1).2] at q
        refine q.ret N5 an (all5 a _ ha2 cl.tag).1 (all5 a _ ha2 cl.tag).2 (fun b o e t n _ => all5 b o (o2 b o e n) t) hp ?_
        rw [refs_len, show l.length / 4 = m4 by omega]; rfl
end
end Ro
end part_D13
section part_D14
set_option linter.unusedVariables false
set_option maxRecDepth 100000
set_option maxHeartbeats 2000000
namespace Ro
open PySem PySem.Spec PyProof.Rows L2
/-- the promise of the k-th of CALLS -/
def caSp (K : PySem.W.Frag) (C : Cs) (TT : List NTab) (op : Nat) : Sp := spCall (needOf op) K C TT
def sp_answers (K : PySem.W.Frag) (C : Cs) (TT : List NTab) : Sp := fun vs H Q _ => ∃ (a : Addr) (ns : List Nat), vs = [.ref a] ∧ SqL K H a (vI ns) ∧ PyHs09.answers_asked (zI ns) = true ∧ TabsN TT H ∧ ∀ (H' : Hp) (p : Addr), H' p = some (.lst ((PyHs09.answers (zI ns)).map V.int)) → Q (.ref p) H'
section
variable {P : Program} {w : World} {K : PySem.W.Frag} {mg : Str → Option Value} {base : Heap} {C : Cs} {TT : List NTab}
abbrev s_answers : Stmt := top 69
theorem sc_answers : FnScope ["calls", "unread", "net", "told", "answer"] ["calls"] (defScope s_answers) := ⟨rfl, rfl, rfl, by decide +kernel, rfl, by decide +kernel, by decide +kernel⟩
theorem ok_answers {f : Addr} {fd : FuncData} (F : L2.Fun K "answers" "answers" s_answers f fd) (T : Txt K mg C) (k_Calls : C8.Mak P w K mg base 1 "Calls" C.cl (sp_Calls_init K C TT) []) (k_Net : C8.Mak P w K mg base 4 "Net" C.cn (sp_Net_init K C TT) []) (m_is_done : C8.Met P w K mg base 1 C.cl "is_done" (sp_Calls_is_done K C TT) []) (m_number : C8.Met P w K mg base 1 C.cl "number" (sp_Calls_number K C TT) []) (hd : ∀ k g, C.cas[k]? = some g → Held P w K mg base 7 g (caSp K C TT k)) : FnOk P w K mg base L2.CX0 8 f fd ["calls"] (sp_answers K C TT) := by
  refine F.ok sc_answers (fun vs H Q E h => ?_) (fun cdv A outer s0 H vs Q E hr h => ?_)
  · obtain ⟨a, ns, rfl, _⟩ := h
    rfl
  · obtain ⟨a, ns, rfl, hS, hask, hT, q⟩ := h
    obtain ⟨rest0, hc0, hr0, h60, hans, hlong⟩ := asked_of hask
    have hbig : sizeLine = 16777216 := by decide
    refine ⟨_, (pss_cons (ps_set (i := 1) sc_answers.nd rfl (Or.inl rfl) (C8.pe_mk k_Calls hr (by decide) rfl (pa_cons (pv 0) pa_nil))) (pss_cons (ps_set (i := 2) sc_answers.nd rfl (Or.inl rfl) (C8.pe_mk k_Net hr (by decide) rfl (pa_cons pe_int (pa_cons (pe_lst (pa_cons pe_int (pa_cons pe_int (pa_cons pe_int pa_nil)))) pa_nil)))) (pss_cons (ps_set (i := 3) sc_answers.nd rfl (Or.inl rfl) (pe_lst pa_nil)) (pss_cons (ps_while PassesOwn.never (pt_not (pt_val (C8.pe_mt0 m_is_done hr (by decide) (pv 1)))) (pss_cons (ps_set (i := 4) sc_answers.nd rfl (Or.inl rfl) (pe_callE (k := 7) hr (by decide) (pe_ix ix_tup (C8.pe_gc rfl T.g_CALLS) (C8.pe_mt0 m_number hr (by decide) (pv 1)) (fun _ _ => rfl)) (pa_cons (pv 2) (pa_cons (pv 1) pa_nil)))) (pss_cons (ps_expr (pe_bm PySem.F.plainAttrs_list PySem.F.slot_list_append PySem.F.type_list_append mt_append (pv 3) (pa_cons (pe_callB call_len_seq (by rfl) T.len PySem.boot_len (pa_cons (pv 4) pa_nil)) pa_nil))) (pss_one (ps_expr (pe_bm PySem.F.plainAttrs_list PySem.F.slot_list_extend PySem.F.type_list_extend mt_extend (pv 3) (pa_cons (pv 4) pa_nil))))))) (pss_one (ps_ret (pv 3))))))), ?_⟩
    refine ⟨_, rfl, fun x dx hx hdx nxd => ⟨x, dx, a, rfl, upd_same, ⟨rfl, ?_⟩⟩⟩
    rw [upd_upd]
    -- the list of calls stands at x
    have S1 : Same H (upd (upd H dx (.own x)) x (.ins C.cl dx (clF a 0))) := fun b o e => by rw [upd_ne (ne_of_none e hx), upd_ne (ne_of_none e hdx)]; exact e
    have T1 : TabsN TT (upd (upd H dx (.own x)) x (.ins C.cl dx (clF a 0))) := LamX.Tabs.ext hT S1
    have hx1 : upd (upd H dx (.own x)) x (.ins C.cl dx (clF a 0)) x = some (.ins C.cl dx (clF a 0)) := upd_same
    generalize upd (upd H dx (.own x)) x (.ins C.cl dx (clF a 0)) = H1 at S1 T1 hx1
    refine ⟨(by show 3 ≤ sizeLine; decide), fun r hr1 => ?_⟩
    have S2 : Same H1 (upd H1 r (.lst [.int 1, .int 2, .int 1])) := same_new hr1
    have hr2 : upd H1 r (.lst [.int 1, .int 2, .int 1]) r = some (.lst (vI [1, 2, 1])) := upd_same
    generalize upd H1 r (.lst [.int 1, .int 2, .int 1]) = H2 at S2 hr2
    intro net dn hn hdn nnd
    have S3 : Same H2 (upd (upd H2 dn (.own net)) net (.ins C.cn dn [])) := fun b o e => by rw [upd_ne (ne_of_none e hn), upd_ne (ne_of_none e hdn)]; exact e
    have nn : ∀ b o, H2 b = some o → b ≠ net := fun b o e => ne_of_none e hn
    refine ⟨net, dn, 2, r, [1, 2, 1], rfl, upd_same, S3 _ _ hr2, by decide, by decide +kernel, LamX.Tabs.ext T1 (S2.trans S3), fun H4 L N an ot => ⟨rfl, ?_⟩⟩
    have old4 : ∀ b o, H2 b = some o → H4 b = some o ∧ L.tag b = .out := fun b o e => ot b o (S3 _ _ e) (nn b o e)
    have hx4 := old4 x _ (S2 _ _ hx1)
    have oldH : ∀ b o, H b = some o → H4 b = some o ∧ L.tag b = .out := fun b o e => old4 b o (S2 _ _ (S1 _ _ e))
    have N : NetAt C TT L H4 Hs09.init := N
    refine ⟨Nat.zero_le _, fun t ht => ?_⟩
    have tt := N.free ht
    have xt : x ≠ t := ne_of_none hx4.1 ht
    have sqOf : ∀ {H' : Hp}, (∀ b o, H b = some o → (∀ ps, o ≠ .tbl ps) → H' b = some o) → SqL K H' a (vI ns) := fun {H'} h => by
      rcases hS with (z | ⟨ob, z⟩) | z
      · exact .inl (.inl (h _ _ z (fun ps y => by cases y)))
      · exact .inl (.inr ⟨ob, h _ _ z (fun ps y => by cases y)⟩)
      · exact .inr z
    refine ⟨fun m σ H' => ∃ (L : Lay) (k f : Nat) (rest : List (List (List Int))) (s : Hs09.St) (out : List Int) (v : Option V), σ = [some (.ref a), some (.ref x), some (.ref net), some (.ref t), v] ∧ m = ns.length - k ∧ NetAt C TT L H' s ∧ L.addr .net = net ∧ WF s ∧ s.steps + 1200 * rest.length ≤ 72000 ∧
        H' x = some (.ins C.cl dx (clF a (k : Int))) ∧ L.tag x = .out ∧ PyFlat.calls PyHs09.shape f ((zI ns).drop k) = some rest ∧ Ready rest ∧ H' t = some (.lst (out.map V.int)) ∧ L.tag t = .out ∧ out ++ toldOf s rest = PyHs09.answers (zI ns) ∧ (∀ b o, H b = some o → (∀ ps, o ≠ .tbl ps) → H' b = some o ∧ L.tag b = .out ∧ b ≠ t ∧ b ≠ x),
      ⟨ns.length, L, 0, _, rest0, Hs09.init, [], none, rfl, rfl, N.new ht, an, init_ok, by show 0 + 1200 * rest0.length ≤ 72000; omega, by rw [upd_ne xt]; exact hx4.1, hx4.2, hc0, hr0, upd_same, tt, hans.symm, fun b o e _ => ⟨by rw [upd_ne (ne_of_none (oldH b o e).1 ht)]; exact (oldH b o e).1, (oldH b o e).2, ne_of_none (oldH b o e).1 ht, ne_of_none e hx⟩⟩, ?_⟩
    rintro m σ H' ⟨L, k, f, rest, s, out, v, rfl, rfl, N, an, wf, hst, hx', tx, hcs, hrd, ht', tt, hout, hold⟩
    have hsq := sqOf (H' := H') fun b o e n => (hold b o e n).1
    refine ⟨_, rfl, _, _, _, rfl, hx', clF_no_is_done .., _, _, _, _, _, rfl, hx', hsq, _, rfl, ?_⟩
    rw [vI_len]
    have hoL : out.length + (toldOf s rest).length ≤ 10000000 := by rw [← List.length_append, hout]; exact hlong
    by_cases hlt : k < ns.length
    · refine ifT (by rw [decide_eq_false (by omega)]; rfl) ?_
      obtain ⟨op, xc, k', g, rest', h1, h2, h3, h4, h5, h6, h7, h8⟩ := next_call hcs hrd hlt
      have hs8 := h8 s
      have cl : ClAt K C L H' x dx a k ns := ⟨hx', hsq, tx⟩
      have c1 := cl.on (k' := k + 1)
      have N1 := cl.net N (o := .ins C.cl dx (clF a ((k + 1 : Nat) : Int)))
      obtain ⟨gA, hgA⟩ : ∃ gA, C.cas[op]? = some gA := ⟨_, List.getElem?_eq_getElem (by rw [T.n_cas]; exact h2)⟩
      refine ⟨fun σ' H'' => ∃ (L : Lay) (rest : List (List (List Int))) (s : Hs09.St) (out : List Int) (v : Option V), σ' = [some (.ref a), some (.ref x), some (.ref net), some (.ref t), v] ∧ NetAt C TT L H'' s ∧ L.addr .net = net ∧ WF s ∧ s.steps + 1200 * rest.length ≤ 72000 ∧
        H'' x = some (.ins C.cl dx (clF a (k' : Int))) ∧ L.tag x = .out ∧ (∃ f, PyFlat.calls PyHs09.shape f ((zI ns).drop k') = some rest) ∧ Ready rest ∧ H'' t = some (.lst (out.map V.int)) ∧ L.tag t = .out ∧ out ++ toldOf s rest = PyHs09.answers (zI ns) ∧ (∀ b o, H b = some o → (∀ ps, o ≠ .tbl ps) → H'' b = some o ∧ L.tag b = .out ∧ b ≠ t ∧ b ≠ x), ?_, ?_⟩
      · rintro σ' H'' ⟨L, rest, s, out, v, rfl, a1, a2, a3, a4, a5, a6, ⟨f, a7⟩, a8, a9, a10, a11, a12⟩
        exact ⟨ns.length - k', by omega, L, k', f, rest, s, out, v, rfl, rfl, a1, a2, a3, a4, a5, a6, a7, a8, a9, a10, a11, a12⟩
      · refine ⟨_, rfl, _, _, _, rfl, hx', clF_no_number .., _, _, _, k, _, _, rfl, hx', hsq, (by rw [vI_get, h1]; rfl), _, _, _, _, rfl, rfl, T.t_CALLS _, atI_of (by rw [List.getElem?_map, hgA]; rfl), gA, _, rfl, hd _ _ hgA, _, rfl, _, rfl, L, s, x, dx, a, k + 1, ns, xc, k', by rw [an], N1, wf, by omega, c1, h3, fun H2 L2 p N2 an2 hp2 hx2 tx2 fr2 => ?_⟩
        obtain ⟨ht2, tt2, ntp⟩ := fr2 t _ (by rw [upd_ne xt.symm]; exact ht') tt xt.symm (fun ps z => by cases z)
        have hal : out.length + ((Hs09.step s xc).2.length + 1 + (toldOf (Hs09.step s xc).1 rest').length) ≤ 10000000 := by
          rw [hs8, List.length_append, List.length_cons] at hoL
          exact hoL
        refine ⟨_, rfl, .inl ⟨rfl, _, SqL.of ht2⟩, _, rfl, p, _, rfl, .inl (SqL.of hp2), t, _, _, rfl, rfl, ht2, (by rw [List.length_map]; omega), ?_⟩
        refine ⟨_, rfl, .inl ⟨rfl, _, SqL.of upd_same⟩, _, rfl, t, p, _, _, rfl, rfl, upd_same, (by rw [upd_ne ntp.symm]; exact hp2), (by rw [List.length_append, List.length_map, List.length_map, List.length_singleton]; omega), ?_⟩
        rw [upd_upd]
        obtain ⟨wf2, hst2⟩ := step_ok wf xc
        refine ⟨L2, rest', (Hs09.step s xc).1, out ++ ((((Hs09.step s xc).2.length : Int)) :: (Hs09.step s xc).2), _, rfl, N2.out tt2 ht2 trivial, an2.trans an, wf2, by omega, by rw [upd_ne xt]; exact hx2, tx2, ⟨g, h5⟩, h6, ?_, tt2, ?_, fun b o e n => ?_⟩
        · rw [upd_same, List.length_map, List.map_append, List.append_assoc]; rfl
        · rw [List.append_assoc, ← hs8]; exact hout
        · obtain ⟨b1, b2, b3, b4⟩ := hold b o e n
          obtain ⟨d1, d2, d3⟩ := fr2 b o (by rw [upd_ne b4]; exact b1) b2 b4 n
          exact ⟨by rw [upd_ne b3]; exact d1, d2, b3, b4⟩
    · refine ifF (by rw [decide_eq_true (by omega)]; rfl) ?_
      have hk2 : (zI ns).drop k = [] := List.drop_eq_nil_of_le (by rw [List.length_map]; omega)
      rw [hk2] at hcs
      rw [calls_end hcs, toldOf_nil, List.append_nil] at hout
      rw [hout] at ht'
      exact ⟨_, rfl, q _ t ht'⟩
end
end Ro
end part_D14
section part_E1
set_option linter.unusedVariables false
set_option maxRecDepth 100000
set_option maxHeartbeats 4000000
namespace Ro
open PySem PySem.Spec PyProof.Rows L2
/-- the def st stands at f, under these names -/
def FnIn (K : PySem.W.Frag) (x qual : Str) (st : Stmt) (f : Addr) : Prop := ∃ (oc : Value) (od : Option Addr) (kV dc pm : Value) (an : Option Addr) (cd ct : Value) (sl : Array (Option Value)),
  K.lookup f = some ⟨oc, od, .func (PySem.W.fnOf x qual (defArgs st) (defBody st) (defScope st) .none kV dc pm an cd ct), sl⟩ ∧ PySem.W.codeIn K cd qual = true ∧ PySem.W.keepIn K (.ref f) = true
def DefIn (K : PySem.W.Frag) (x : Str) (st : Stmt) : Prop := ∃ f, PySem.W.nsIn K mainGlobals x = some (some (.ref f)) ∧ FnIn K x x st f
def MethIn (K : PySem.W.Frag) (C : Addr) (m qual : Str) (st : Stmt) : Prop := ∃ f, PySem.W.findIn K (.ref C) m = some (some (.ref f)) ∧ PySem.W.isFn K (.ref f) = true ∧ FnIn K m qual st f
structure ClsIn (K : PySem.W.Frag) (x : Str) (C : Addr) : Prop where
  ns : PySem.W.nsIn K mainGlobals x = some (some (.ref C))
  pg : PySem.W.plainGet K C Str.empty = true
  hd : PySem.W.hasDictIn K C = true
  po : PySem.W.plainOver K C = true
  sa : PySem.W.findIn K (.ref C) "__setattr__" = some (some (.builtin "object.__setattr__"))
  ma : PySem.W.makesIn K C = true
  kc : PySem.W.keepIn K (.ref C) = true
theorem ClsIn.cls {K : PySem.W.Frag} {x : Str} {C : Addr} (c : ClsIn K x C) : Cls K C := ⟨c.pg, c.hd, c.po, c.sa⟩
def IntIn (K : PySem.W.Frag) (x : Str) (v : Int) : Prop := ∃ t, PySem.W.nsIn K mainGlobals x = some (some (.int v t))
/-- a tuple of defs -/
def TupIn (K : PySem.W.Frag) (x : Str) (gs : List Addr) : Prop := ∃ (a : Addr) (od : Option Addr) (n : Nat) (sl : Array (Option Value)), PySem.W.nsIn K mainGlobals x = some (some (.ref a)) ∧ K.lookup a = some ⟨.type "tuple", od, .seq (gs.map Value.ref).toArray n, sl⟩
def StrsIn (K : PySem.W.Frag) (a : Addr) (x y z : Str) : Prop := ∃ (t u v : Tok) (od : Option Addr) (n : Nat) (sl : Array (Option Value)), K.lookup a = some ⟨.type "tuple", od, .seq [.str x t, .str y u, .str z v].toArray n, sl⟩
/-- where the code object of a def has its table -/
def CodeAt (K : PySem.W.Frag) (x : Str) (st : Stmt) (f c P : Addr) : Prop := PySem.W.nsIn K mainGlobals x = some (some (.ref f)) ∧ (∃ (oc : Value) (od : Option Addr) (kV dc pm : Value) (an : Option Addr) (ct : Value) (sl : Array (Option Value)),
  K.lookup f = some ⟨oc, od, .func (PySem.W.fnOf x x (defArgs st) (defBody st) (defScope st) .none kV dc pm an (.ref c) ct), sl⟩ ∧ PySem.W.codeIn K (.ref c) x = true ∧ PySem.W.keepIn K (.ref f) = true) ∧
  ∃ (e : Value) (dd : Option Addr) (vs : Array Value) (sl : Array (Option Value)), K.lookup c = some ⟨e, dd, .fields vs, sl⟩ ∧ vs[11]? = some (.ref P)
theorem CodeAt.tab {K : PySem.W.Frag} {x : Str} {st : Stmt} {f c P : Addr} (h : CodeAt K x st f c P) : PySem.W.tabIn K x = some (c, P) := by
  obtain ⟨h1, ⟨oc, od, kV, dc, pm, an, ct, sl, h2, -, -⟩, e, dd, vs, sl2, h3, h4⟩ := h
  unfold PySem.W.tabIn
  rw [h1]
  dsimp only
  rw [h2]
  dsimp only
  rw [h3]
  dsimp only
  rw [h4]
theorem sqT_of {K : PySem.W.Frag} {a : Addr} {od : Option Addr} {its : List Value} {n : Nat} {sl : Array (Option Value)} {xs : List V} (h : K.lookup a = some ⟨.type "tuple", od, .seq its.toArray n, sl⟩) (hl : its.length ≤ sizeLine) (hv : Vals xs its) (H : Hp) : SqT K H a xs :=
  .inr ⟨_, its.toArray, n, h, rfl, rfl, by rw [List.size_toArray]; exact hl, by simpa using hv⟩
theorem vals_refs : ∀ gs : List Addr, Vals (gs.map V.ref) (gs.map Value.ref)
  | [] => .nil
  | _ :: gs => .cons rfl (vals_refs gs)
theorem fn_of_in {K : PySem.W.Frag} {x qual : Str} {st : Stmt} {f : Addr} (h : FnIn K x qual st f) : ∃ fd, L2.Fun K x qual st f fd := by
  obtain ⟨oc, od, kV, dc, pm, an, cd, ct, sl, l, c, k⟩ := h
  exact ⟨_, fun_mk (st := st) l c k⟩
theorem DefIn.mk {K : PySem.W.Frag} {x : Str} {st : Stmt} {f : Addr} {oc : Value} {od : Option Addr} {kV dc pm : Value} {an : Option Addr} {cd ct : Value} {sl : Array (Option Value)} (a : PySem.W.nsIn K mainGlobals x = some (some (.ref f))) (l : K.lookup f = some ⟨oc, od, .func (PySem.W.fnOf x x (defArgs st) (defBody st) (defScope st) .none kV dc pm an cd ct), sl⟩) (c : PySem.W.codeIn K cd x = true) (k : PySem.W.keepIn K (.ref f) = true) : DefIn K x st :=
  ⟨f, a, oc, od, kV, dc, pm, an, cd, ct, sl, l, c, k⟩
theorem MethIn.mk {K : PySem.W.Frag} {C : Addr} {m qual : Str} {st : Stmt} {f : Addr} {oc : Value} {od : Option Addr} {kV dc pm : Value} {an : Option Addr} {cd ct : Value} {sl : Array (Option Value)} (a : PySem.W.findIn K (.ref C) m = some (some (.ref f))) (i : PySem.W.isFn K (.ref f) = true) (l : K.lookup f = some ⟨oc, od, .func (PySem.W.fnOf m qual (defArgs st) (defBody st) (defScope st) .none kV dc pm an cd ct), sl⟩) (c : PySem.W.codeIn K cd qual = true) (k : PySem.W.keepIn K (.ref f) = true) : MethIn K C m qual st :=
  ⟨f, a, i, oc, od, kV, dc, pm, an, cd, ct, sl, l, c, k⟩
theorem IntIn.mk {K : PySem.W.Frag} {x : Str} {v : Int} {t : Tok} (a : PySem.W.nsIn K mainGlobals x = some (some (.int v t))) : IntIn K x v := ⟨t, a⟩
theorem StrsIn.mk {K : PySem.W.Frag} {a : Addr} {x y z : Str} {t u v : Tok} {od : Option Addr} {n : Nat} {sl : Array (Option Value)} (l : K.lookup a = some ⟨.type "tuple", od, .seq [.str x t, .str y u, .str z v].toArray n, sl⟩) : StrsIn K a x y z := ⟨t, u, v, od, n, sl, l⟩
def TupAt (K : PySem.W.Frag) (a : Addr) (vs : List Value) : Prop := ∃ (od : Option Addr) (n : Nat) (sl : Array (Option Value)), K.lookup a = some ⟨.type "tuple", od, .seq vs.toArray n, sl⟩
theorem TupAt.mk {K : PySem.W.Frag} {a : Addr} {vs : List Value} {od : Option Addr} {n : Nat} {sl : Array (Option Value)} (l : K.lookup a = some ⟨.type "tuple", od, .seq vs.toArray n, sl⟩) : TupAt K a vs := ⟨od, n, sl, l⟩
theorem CodeAt.mk {K : PySem.W.Frag} {x : Str} {st : Stmt} {f c P : Addr} {oc : Value} {od : Option Addr} {kV dc pm : Value} {an : Option Addr} {ct : Value} {sl : Array (Option Value)} {e : Value} {dd : Option Addr} {vs : Array Value} {sl2 : Array (Option Value)} (a : PySem.W.nsIn K mainGlobals x = some (some (.ref f))) (l : K.lookup f = some ⟨oc, od, .func (PySem.W.fnOf x x (defArgs st) (defBody st) (defScope st) .none kV dc pm an (.ref c) ct), sl⟩) (q : PySem.W.codeIn K (.ref c) x = true) (k : PySem.W.keepIn K (.ref f) = true) (m : K.lookup c = some ⟨e, dd, .fields vs, sl2⟩) (t : vs[11]? = some (.ref P)) : CodeAt K x st f c P :=
  ⟨a, ⟨oc, od, kV, dc, pm, an, ct, sl, l, q, k⟩, e, dd, vs, sl2, m, t⟩
theorem ns_inj {K : PySem.W.Frag} {x : Str} {f g : Addr} (h : PySem.W.nsIn K mainGlobals x = some (some (.ref f))) (h2 : PySem.W.nsIn K mainGlobals x = some (some (.ref g))) : f = g := by
  rw [h] at h2
  cases h2
  rfl

/-- all of it -/
structure Wr (K : PySem.W.Frag) (C : Cs) (fg cg Pg : Addr) : Prop where
  c_Channel : ClsIn K "Channel" C.cc
  n_writer : PySem.W.findIn K (.ref C.cc) "writer" = some none
  n_reader : PySem.W.findIn K (.ref C.cc) "reader" = some none
  n_room : PySem.W.findIn K (.ref C.cc) "room" = some none
  n_written : PySem.W.findIn K (.ref C.cc) "written" = some none
  n_taken : PySem.W.findIn K (.ref C.cc) "taken" = some none
  c_Process : ClsIn K "Process" C.cp
  n_program : PySem.W.findIn K (.ref C.cp) "program" = some none
  n_place : PySem.W.findIn K (.ref C.cp) "place" = some none
  n_registers : PySem.W.findIn K (.ref C.cp) "registers" = some none
  n_said : PySem.W.findIn K (.ref C.cp) "said" = some none
  c_Net : ClsIn K "Net" C.cn
  n_processes : PySem.W.findIn K (.ref C.cn) "processes" = some none
  n_channels : PySem.W.findIn K (.ref C.cn) "channels" = some none
  n_steps : PySem.W.findIn K (.ref C.cn) "steps" = some none
  n_grown : PySem.W.findIn K (.ref C.cn) "grown" = some none
  c_Calls : ClsIn K "Calls" C.cl
  n_numbers : PySem.W.findIn K (.ref C.cl) "numbers" = some none
  n_at : PySem.W.findIn K (.ref C.cl) "at" = some none
  d_channel_fits : DefIn K "channel_fits" s_channel_fits
  d_channels_fit : DefIn K "channels_fit" s_channels_fit
  d_is_source : DefIn K "is_source" s_is_source
  d_is_target : DefIn K "is_target" s_is_target
  d_number_fits : DefIn K "number_fits" s_number_fits
  d_instruction_fits : DefIn K "instruction_fits" s_instruction_fits
  d_instructions_fit : DefIn K "instructions_fit" s_instructions_fit
  m_Channel_init : MethIn K C.cc "__init__" "Channel.__init__" s_Channel_init
  m_Channel_is_empty : MethIn K C.cc "is_empty" "Channel.is_empty" s_Channel_is_empty
  m_Channel_is_full : MethIn K C.cc "is_full" "Channel.is_full" s_Channel_is_full
  m_Channel_take : MethIn K C.cc "take" "Channel.take" s_Channel_take
  m_Channel_put : MethIn K C.cc "put" "Channel.put" s_Channel_put
  m_Channel_on_it : MethIn K C.cc "on_it" "Channel.on_it" s_Channel_on_it
  m_Process_init : MethIn K C.cp "__init__" "Process.__init__" s_Process_init
  m_Process_begin : MethIn K C.cp "begin" "Process.begin" s_Process_begin
  m_Process_is_at_end : MethIn K C.cp "is_at_end" "Process.is_at_end" s_Process_is_at_end
  m_Process_instruction : MethIn K C.cp "instruction" "Process.instruction" s_Process_instruction
  m_Net_init : MethIn K C.cn "__init__" "Net.__init__" s_Net_init
  m_Net_lay : MethIn K C.cn "lay" "Net.lay" s_Net_lay
  m_Net_has_process : MethIn K C.cn "has_process" "Net.has_process" s_Net_has_process
  m_Net_process : MethIn K C.cn "process" "Net.process" s_Net_process
  m_Net_has_channel : MethIn K C.cn "has_channel" "Net.has_channel" s_Net_has_channel
  m_Net_channel : MethIn K C.cn "channel" "Net.channel" s_Net_channel
  d_how_stands : DefIn K "how_stands" s_how_stands
  d_waited_channel : DefIn K "waited_channel" s_waited_channel
  d_do_get : DefIn K "do_get" s_do_get
  d_do_put : DefIn K "do_put" s_do_put
  d_do_set : DefIn K "do_set" s_do_set
  d_do_copy : DefIn K "do_copy" s_do_copy
  d_do_plus : DefIn K "do_plus" s_do_plus
  d_do_minus : DefIn K "do_minus" s_do_minus
  d_do_times : DefIn K "do_times" s_do_times
  d_do_jump : DefIn K "do_jump" s_do_jump
  d_do_if_zero : DefIn K "do_if_zero" s_do_if_zero
  d_do_if_less : DefIn K "do_if_less" s_do_if_less
  d_do_say : DefIn K "do_say" s_do_say
  d_do_step : DefIn K "do_step" s_do_step
  d_do_steps : DefIn K "do_steps" s_do_steps
  d_how_all_stand : DefIn K "how_all_stand" s_how_all_stand
  d_channels_waited_to_write : DefIn K "channels_waited_to_write" s_channels_waited_to_write
  d_do_round : DefIn K "do_round" s_do_round
  d_settle_once : DefIn K "settle_once" s_settle_once
  m_Calls_init : MethIn K C.cl "__init__" "Calls.__init__" s_Calls_init
  m_Calls_is_done : MethIn K C.cl "is_done" "Calls.is_done" s_Calls_is_done
  m_Calls_number : MethIn K C.cl "number" "Calls.number" s_Calls_number
  m_Calls_row : MethIn K C.cl "row" "Calls.row" s_Calls_row
  d_call_net : DefIn K "call_net" s_call_net
  d_call_program : DefIn K "call_program" s_call_program
  d_call_run : DefIn K "call_run" s_call_run
  d_call_round : DefIn K "call_round" s_call_round
  d_call_settle : DefIn K "call_settle" s_call_settle
  d_call_stuck : DefIn K "call_stuck" s_call_stuck
  d_call_grow : DefIn K "call_grow" s_call_grow
  d_call_widen : DefIn K "call_widen" s_call_widen
  d_call_process : DefIn K "call_process" s_call_process
  d_call_said : DefIn K "call_said" s_call_said
  d_call_channel : DefIn K "call_channel" s_call_channel
  d_call_wrote : DefIn K "call_wrote" s_call_wrote
  d_call_counts : DefIn K "call_counts" s_call_counts
  d_answers : DefIn K "answers" s_answers
  i_MOST_CHANNELS : IntIn K "MOST_CHANNELS" 10
  i_MOST_ROOM : IntIn K "MOST_ROOM" 50
  i_MOST_INSTRUCTIONS : IntIn K "MOST_INSTRUCTIONS" 24
  i_LAST_REGISTER : IntIn K "LAST_REGISTER" 3
  i_MOST_VALUE : IntIn K "MOST_VALUE" 65535
  i_CAN_STEP : IntIn K "CAN_STEP" 0
  i_AT_END : IntIn K "AT_END" 1
  i_WAITS_TO_READ : IntIn K "WAITS_TO_READ" 2
  i_WAITS_TO_WRITE : IntIn K "WAITS_TO_WRITE" 3
  i_GET : IntIn K "GET" 0
  i_PUT : IntIn K "PUT" 1
  i_MODULUS : IntIn K "MODULUS" 65536
  i_MOST_PROCESSES : IntIn K "MOST_PROCESSES" 6
  i_MOST_RUN : IntIn K "MOST_RUN" 200
  i_MOST_ROUND : IntIn K "MOST_ROUND" 20
  i_MOST_SETTLE : IntIn K "MOST_SETTLE" 200
  i_MOST_WIDENED : IntIn K "MOST_WIDENED" 1000
  z_len : PySem.W.nsIn K mainGlobals "len" = some none
  z_range : PySem.W.nsIn K mainGlobals "range" = some none
  z_min : PySem.W.nsIn K mainGlobals "min" = some none
  grow : CodeAt K "grow" s_grow fg cg Pg
  kinds : PySem.W.nsIn K mainGlobals "KINDS" = some (some (.ref C.kinds))
  kindT : ∃ (od : Option Addr) (n : Nat) (sl : Array (Option Value)), K.lookup C.kinds = some ⟨.type "tuple", od, .seq (C.kin.map Value.ref).toArray n, sl⟩
  kin : ∃ k0 k1 k2 k3 k4 k5 k6 k7 k8 k9 k10, C.kin = [k0, k1, k2, k3, k4, k5, k6, k7, k8, k9, k10] ∧ StrsIn K k0 "cell" "source" "zero" ∧ StrsIn K k1 "cell" "target" "zero" ∧ StrsIn K k2 "cell" "value" "zero" ∧ StrsIn K k3 "cell" "cell" "zero" ∧ StrsIn K k4 "cell" "cell" "zero" ∧ StrsIn K k5 "cell" "cell" "zero" ∧ StrsIn K k6 "cell" "cell" "zero" ∧ StrsIn K k7 "place" "zero" "zero" ∧ StrsIn K k8 "cell" "place" "zero" ∧ StrsIn K k9 "cell" "cell" "place" ∧ StrsIn K k10 "cell" "zero" "zero"
  doings : PySem.W.nsIn K mainGlobals "DOINGS" = some (some (.ref C.doings))
  doingsT : ∃ (od : Option Addr) (n : Nat) (sl : Array (Option Value)), K.lookup C.doings = some ⟨.type "tuple", od, .seq (C.dos.map Value.ref).toArray n, sl⟩
  dos : ∃ g0 g1 g2 g3 g4 g5 g6 g7 g8 g9 g10, C.dos = [g0, g1, g2, g3, g4, g5, g6, g7, g8, g9, g10] ∧ PySem.W.nsIn K mainGlobals "do_get" = some (some (.ref g0)) ∧ PySem.W.nsIn K mainGlobals "do_put" = some (some (.ref g1)) ∧ PySem.W.nsIn K mainGlobals "do_set" = some (some (.ref g2)) ∧ PySem.W.nsIn K mainGlobals "do_copy" = some (some (.ref g3)) ∧ PySem.W.nsIn K mainGlobals "do_plus" = some (some (.ref g4)) ∧ PySem.W.nsIn K mainGlobals "do_minus" = some (some (.ref g5)) ∧ PySem.W.nsIn K mainGlobals "do_times" = some (some (.ref g6)) ∧ PySem.W.nsIn K mainGlobals "do_jump" = some (some (.ref g7)) ∧ PySem.W.nsIn K mainGlobals "do_if_zero" = some (some (.ref g8)) ∧ PySem.W.nsIn K mainGlobals "do_if_less" = some (some (.ref g9)) ∧ PySem.W.nsIn K mainGlobals "do_say" = some (some (.ref g10))
  table : PySem.W.nsIn K mainGlobals "CALLS" = some (some (.ref C.table))
  tableT : ∃ (od : Option Addr) (n : Nat) (sl : Array (Option Value)), K.lookup C.table = some ⟨.type "tuple", od, .seq (C.cas.map Value.ref).toArray n, sl⟩
  cas : ∃ g0 g1 g2 g3 g4 g5 g6 g7 g8 g9 g10 g11 g12, C.cas = [g0, g1, g2, g3, g4, g5, g6, g7, g8, g9, g10, g11, g12] ∧ PySem.W.nsIn K mainGlobals "call_net" = some (some (.ref g0)) ∧ PySem.W.nsIn K mainGlobals "call_program" = some (some (.ref g1)) ∧ PySem.W.nsIn K mainGlobals "call_run" = some (some (.ref g2)) ∧ PySem.W.nsIn K mainGlobals "call_round" = some (some (.ref g3)) ∧ PySem.W.nsIn K mainGlobals "call_settle" = some (some (.ref g4)) ∧ PySem.W.nsIn K mainGlobals "call_stuck" = some (some (.ref g5)) ∧ PySem.W.nsIn K mainGlobals "call_grow" = some (some (.ref g6)) ∧ PySem.W.nsIn K mainGlobals "call_widen" = some (some (.ref g7)) ∧ PySem.W.nsIn K mainGlobals "call_process" = some (some (.ref g8)) ∧ PySem.W.nsIn K mainGlobals "call_said" = some (some (.ref g9)) ∧ PySem.W.nsIn K mainGlobals "call_channel" = some (some (.ref g10)) ∧ PySem.W.nsIn K mainGlobals "call_wrote" = some (some (.ref g11)) ∧ PySem.W.nsIn K mainGlobals "call_counts" = some (some (.ref g12))
theorem Wr.of {K : PySem.W.Frag} {wcc wcp wcn wcl wkk wdd waa fg cg Pg wk0 wk1 wk2 wk3 wk4 wk5 wk6 wk7 wk8 wk9 wk10 wd0 wd1 wd2 wd3 wd4 wd5 wd6 wd7 wd8 wd9 wd10 wa0 wa1 wa2 wa3 wa4 wa5 wa6 wa7 wa8 wa9 wa10 wa11 wa12 : Addr} (c_Channel : ClsIn K "Channel" wcc) (n_writer : PySem.W.findIn K (.ref wcc) "writer" = some none) (n_reader : PySem.W.findIn K (.ref wcc) "reader" = some none) (n_room : PySem.W.findIn K (.ref wcc) "room" = some none) (n_written : PySem.W.findIn K (.ref wcc) "written" = some none) (n_taken : PySem.W.findIn K (.ref wcc) "taken" = some none) (c_Process : ClsIn K "Process" wcp) (n_program : PySem.W.findIn K (.ref wcp) "program" = some none) (n_place : PySem.W.findIn K (.ref wcp) "place" = some none) (n_registers : PySem.W.findIn K (.ref wcp) "registers" = some none) (n_said : PySem.W.findIn K (.ref wcp) "said" = some none) (c_Net : ClsIn K "Net" wcn) (n_processes : PySem.W.findIn K (.ref wcn) "processes" = some none) (n_channels : PySem.W.findIn K (.ref wcn) "channels" = some none) (n_steps : PySem.W.findIn K (.ref wcn) "steps" = some none) (n_grown : PySem.W.findIn K (.ref wcn) "grown" = some none) (c_Calls : ClsIn K "Calls" wcl) (n_numbers : PySem.W.findIn K (.ref wcl) "numbers" = some none) (n_at : PySem.W.findIn K (.ref wcl) "at" = some none) (d_channel_fits : DefIn K "channel_fits" s_channel_fits) (d_channels_fit : DefIn K "channels_fit" s_channels_fit) (d_is_source : DefIn K "is_source" s_is_source) (d_is_target : DefIn K "is_target" s_is_target) (d_number_fits : DefIn K "number_fits" s_number_fits) (d_instruction_fits : DefIn K "instruction_fits" s_instruction_fits) (d_instructions_fit : DefIn K "instructions_fit" s_instructions_fit) (m_Channel_init : MethIn K wcc "__init__" "Channel.__init__" s_Channel_init) (m_Channel_is_empty : MethIn K wcc "is_empty" "Channel.is_empty" s_Channel_is_empty) (m_Channel_is_full : MethIn K wcc "is_full" "Channel.is_full" s_Channel_is_full) (m_Channel_take : MethIn K wcc "take" "Channel.take" s_Channel_take) (m_Channel_put : MethIn K wcc "put" "Channel.put" s_Channel_put) (m_Channel_on_it : MethIn K wcc "on_it" "Channel.on_it" s_Channel_on_it) (m_Process_init : MethIn K wcp "__init__" "Process.__init__" s_Process_init) (m_Process_begin : MethIn K wcp "begin" "Process.begin" s_Process_begin) (m_Process_is_at_end : MethIn K wcp "is_at_end" "Process.is_at_end" s_Process_is_at_end) (m_Process_instruction : MethIn K wcp "instruction" "Process.instruction" s_Process_instruction) (m_Net_init : MethIn K wcn "__init__" "Net.__init__" s_Net_init) (m_Net_lay : MethIn K wcn "lay" "Net.lay" s_Net_lay) (m_Net_has_process : MethIn K wcn "has_process" "Net.has_process" s_Net_has_process) (m_Net_process : MethIn K wcn "process" "Net.process" s_Net_process) (m_Net_has_channel : MethIn K wcn "has_channel" "Net.has_channel" s_Net_has_channel) (m_Net_channel : MethIn K wcn "channel" "Net.channel" s_Net_channel) (d_how_stands : DefIn K "how_stands" s_how_stands) (d_waited_channel : DefIn K "waited_channel" s_waited_channel) (d_do_get : DefIn K "do_get" s_do_get) (d_do_put : DefIn K "do_put" s_do_put) (d_do_set : DefIn K "do_set" s_do_set) (d_do_copy : DefIn K "do_copy" s_do_copy) (d_do_plus : DefIn K "do_plus" s_do_plus) (d_do_minus : DefIn K "do_minus" s_do_minus) (d_do_times : DefIn K "do_times" s_do_times) (d_do_jump : DefIn K "do_jump" s_do_jump) (d_do_if_zero : DefIn K "do_if_zero" s_do_if_zero) (d_do_if_less : DefIn K "do_if_less" s_do_if_less) (d_do_say : DefIn K "do_say" s_do_say) (d_do_step : DefIn K "do_step" s_do_step) (d_do_steps : DefIn K "do_steps" s_do_steps) (d_how_all_stand : DefIn K "how_all_stand" s_how_all_stand) (d_channels_waited_to_write : DefIn K "channels_waited_to_write" s_channels_waited_to_write) (d_do_round : DefIn K "do_round" s_do_round) (d_settle_once : DefIn K "settle_once" s_settle_once) (m_Calls_init : MethIn K wcl "__init__" "Calls.__init__" s_Calls_init) (m_Calls_is_done : MethIn K wcl "is_done" "Calls.is_done" s_Calls_is_done) (m_Calls_number : MethIn K wcl "number" "Calls.number" s_Calls_number) (m_Calls_row : MethIn K wcl "row" "Calls.row" s_Calls_row) (d_call_net : DefIn K "call_net" s_call_net) (d_call_program : DefIn K "call_program" s_call_program) (d_call_run : DefIn K "call_run" s_call_run) (d_call_round : DefIn K "call_round" s_call_round) (d_call_settle : DefIn K "call_settle" s_call_settle) (d_call_stuck : DefIn K "call_stuck" s_call_stuck) (d_call_grow : DefIn K "call_grow" s_call_grow) (d_call_widen : DefIn K "call_widen" s_call_widen) (d_call_process : DefIn K "call_process" s_call_process) (d_call_said : DefIn K "call_said" s_call_said) (d_call_channel : DefIn K "call_channel" s_call_channel) (d_call_wrote : DefIn K "call_wrote" s_call_wrote) (d_call_counts : DefIn K "call_counts" s_call_counts) (d_answers : DefIn K "answers" s_answers) (i_MOST_CHANNELS : IntIn K "MOST_CHANNELS" 10) (i_MOST_ROOM : IntIn K "MOST_ROOM" 50) (i_MOST_INSTRUCTIONS : IntIn K "MOST_INSTRUCTIONS" 24) (i_LAST_REGISTER : IntIn K "LAST_REGISTER" 3) (i_MOST_VALUE : IntIn K "MOST_VALUE" 65535) (i_CAN_STEP : IntIn K "CAN_STEP" 0) (i_AT_END : IntIn K "AT_END" 1) (i_WAITS_TO_READ : IntIn K "WAITS_TO_READ" 2) (i_WAITS_TO_WRITE : IntIn K "WAITS_TO_WRITE" 3) (i_GET : IntIn K "GET" 0) (i_PUT : IntIn K "PUT" 1) (i_MODULUS : IntIn K "MODULUS" 65536) (i_MOST_PROCESSES : IntIn K "MOST_PROCESSES" 6) (i_MOST_RUN : IntIn K "MOST_RUN" 200) (i_MOST_ROUND : IntIn K "MOST_ROUND" 20) (i_MOST_SETTLE : IntIn K "MOST_SETTLE" 200) (i_MOST_WIDENED : IntIn K "MOST_WIDENED" 1000) (z_len : PySem.W.nsIn K mainGlobals "len" = some none) (z_range : PySem.W.nsIn K mainGlobals "range" = some none) (z_min : PySem.W.nsIn K mainGlobals "min" = some none) (grow : CodeAt K "grow" s_grow fg cg Pg) (kinds : PySem.W.nsIn K mainGlobals "KINDS" = some (some (.ref wkk))) (kindsT : TupAt K wkk [Value.ref wk0, Value.ref wk1, Value.ref wk2, Value.ref wk3, Value.ref wk4, Value.ref wk5, Value.ref wk6, Value.ref wk7, Value.ref wk8, Value.ref wk9, Value.ref wk10]) (s_wk0 : StrsIn K wk0 "cell" "source" "zero") (s_wk1 : StrsIn K wk1 "cell" "target" "zero") (s_wk2 : StrsIn K wk2 "cell" "value" "zero") (s_wk3 : StrsIn K wk3 "cell" "cell" "zero") (s_wk4 : StrsIn K wk4 "cell" "cell" "zero") (s_wk5 : StrsIn K wk5 "cell" "cell" "zero") (s_wk6 : StrsIn K wk6 "cell" "cell" "zero") (s_wk7 : StrsIn K wk7 "place" "zero" "zero") (s_wk8 : StrsIn K wk8 "cell" "place" "zero") (s_wk9 : StrsIn K wk9 "cell" "cell" "place") (s_wk10 : StrsIn K wk10 "cell" "zero" "zero") (doings : PySem.W.nsIn K mainGlobals "DOINGS" = some (some (.ref wdd))) (doingsT : TupAt K wdd [Value.ref wd0, Value.ref wd1, Value.ref wd2, Value.ref wd3, Value.ref wd4, Value.ref wd5, Value.ref wd6, Value.ref wd7, Value.ref wd8, Value.ref wd9, Value.ref wd10]) (s_wd0 : PySem.W.nsIn K mainGlobals "do_get" = some (some (.ref wd0))) (s_wd1 : PySem.W.nsIn K mainGlobals "do_put" = some (some (.ref wd1))) (s_wd2 : PySem.W.nsIn K mainGlobals "do_set" = some (some (.ref wd2))) (s_wd3 : PySem.W.nsIn K mainGlobals "do_copy" = some (some (.ref wd3))) (s_wd4 : PySem.W.nsIn K mainGlobals "do_plus" = some (some (.ref wd4))) (s_wd5 : PySem.W.nsIn K mainGlobals "do_minus" = some (some (.ref wd5))) (s_wd6 : PySem.W.nsIn K mainGlobals "do_times" = some (some (.ref wd6))) (s_wd7 : PySem.W.nsIn K mainGlobals "do_jump" = some (some (.ref wd7))) (s_wd8 : PySem.W.nsIn K mainGlobals "do_if_zero" = some (some (.ref wd8))) (s_wd9 : PySem.W.nsIn K mainGlobals "do_if_less" = some (some (.ref wd9))) (s_wd10 : PySem.W.nsIn K mainGlobals "do_say" = some (some (.ref wd10))) (table : PySem.W.nsIn K mainGlobals "CALLS" = some (some (.ref waa))) (tableT : TupAt K waa [Value.ref wa0, Value.ref wa1, Value.ref wa2, Value.ref wa3, Value.ref wa4, Value.ref wa5, Value.ref wa6, Value.ref wa7, Value.ref wa8, Value.ref wa9, Value.ref wa10, Value.ref wa11, Value.ref wa12]) (s_wa0 : PySem.W.nsIn K mainGlobals "call_net" = some (some (.ref wa0))) (s_wa1 : PySem.W.nsIn K mainGlobals "call_program" = some (some (.ref wa1))) (s_wa2 : PySem.W.nsIn K mainGlobals "call_run" = some (some (.ref wa2))) (s_wa3 : PySem.W.nsIn K mainGlobals "call_round" = some (some (.ref wa3))) (s_wa4 : PySem.W.nsIn K mainGlobals "call_settle" = some (some (.ref wa4))) (s_wa5 : PySem.W.nsIn K mainGlobals "call_stuck" = some (some (.ref wa5))) (s_wa6 : PySem.W.nsIn K mainGlobals "call_grow" = some (some (.ref wa6))) (s_wa7 : PySem.W.nsIn K mainGlobals "call_widen" = some (some (.ref wa7))) (s_wa8 : PySem.W.nsIn K mainGlobals "call_process" = some (some (.ref wa8))) (s_wa9 : PySem.W.nsIn K mainGlobals "call_said" = some (some (.ref wa9))) (s_wa10 : PySem.W.nsIn K mainGlobals "call_channel" = some (some (.ref wa10))) (s_wa11 : PySem.W.nsIn K mainGlobals "call_wrote" = some (some (.ref wa11))) (s_wa12 : PySem.W.nsIn K mainGlobals "call_counts" = some (some (.ref wa12))) : Wr K ⟨wcc, wcp, wcn, wcl, wkk, [wk0, wk1, wk2, wk3, wk4, wk5, wk6, wk7, wk8, wk9, wk10], wdd, [wd0, wd1, wd2, wd3, wd4, wd5, wd6, wd7, wd8, wd9, wd10], waa, [wa0, wa1, wa2, wa3, wa4, wa5, wa6, wa7, wa8, wa9, wa10, wa11, wa12]⟩ fg cg Pg :=
  ⟨c_Channel, n_writer, n_reader, n_room, n_written, n_taken, c_Process, n_program, n_place, n_registers, n_said, c_Net, n_processes, n_channels, n_steps, n_grown, c_Calls, n_numbers, n_at, d_channel_fits, d_channels_fit, d_is_source, d_is_target, d_number_fits, d_instruction_fits, d_instructions_fit, m_Channel_init, m_Channel_is_empty, m_Channel_is_full, m_Channel_take, m_Channel_put, m_Channel_on_it, m_Process_init, m_Process_begin, m_Process_is_at_end, m_Process_instruction, m_Net_init, m_Net_lay, m_Net_has_process, m_Net_process, m_Net_has_channel, m_Net_channel, d_how_stands, d_waited_channel, d_do_get, d_do_put, d_do_set, d_do_copy, d_do_plus, d_do_minus, d_do_times, d_do_jump, d_do_if_zero, d_do_if_less, d_do_say, d_do_step, d_do_steps, d_how_all_stand, d_channels_waited_to_write, d_do_round, d_settle_once, m_Calls_init, m_Calls_is_done, m_Calls_number, m_Calls_row, d_call_net, d_call_program, d_call_run, d_call_round, d_call_settle, d_call_stuck, d_call_grow, d_call_widen, d_call_process, d_call_said, d_call_channel, d_call_wrote, d_call_counts, d_answers, i_MOST_CHANNELS, i_MOST_ROOM, i_MOST_INSTRUCTIONS, i_LAST_REGISTER, i_MOST_VALUE, i_CAN_STEP, i_AT_END, i_WAITS_TO_READ, i_WAITS_TO_WRITE, i_GET, i_PUT, i_MODULUS, i_MOST_PROCESSES, i_MOST_RUN, i_MOST_ROUND, i_MOST_SETTLE, i_MOST_WIDENED, z_len, z_range, z_min, grow, kinds, kindsT, ⟨wk0, wk1, wk2, wk3, wk4, wk5, wk6, wk7, wk8, wk9, wk10, rfl, s_wk0, s_wk1, s_wk2, s_wk3, s_wk4, s_wk5, s_wk6, s_wk7, s_wk8, s_wk9, s_wk10⟩, doings, doingsT, ⟨wd0, wd1, wd2, wd3, wd4, wd5, wd6, wd7, wd8, wd9, wd10, rfl, s_wd0, s_wd1, s_wd2, s_wd3, s_wd4, s_wd5, s_wd6, s_wd7, s_wd8, s_wd9, s_wd10⟩, table, tableT, ⟨wa0, wa1, wa2, wa3, wa4, wa5, wa6, wa7, wa8, wa9, wa10, wa11, wa12, rfl, s_wa0, s_wa1, s_wa2, s_wa3, s_wa4, s_wa5, s_wa6, s_wa7, s_wa8, s_wa9, s_wa10, s_wa11, s_wa12⟩⟩
theorem key_of {f : World → PySem.W.Frag} {C : Cs} {fg cg Pg : Addr} (h : ∀ w, Wr (f w) C fg cg Pg) (n : ∀ w, (f w).lookup Pg = none) : ∃ (C : Cs) (fg cg Pg : Addr), (∀ w, Wr (f w) C fg cg Pg) ∧ ∀ w, (f w).lookup Pg = none := ⟨C, fg, cg, Pg, h, n⟩
theorem Wr.txt {K : PySem.W.Frag} {C : Cs} {fg cg Pg : Addr} {h : Heap} {mg : Str → Option Value} (W : Wr K C fg cg Pg) (X : K.In h) (G : h.Ns mainGlobals mg) : Txt K mg C := by
  have gi : ∀ {x : Str} {v : Int}, IntIn K x v → ∃ u, mg x = some u ∧ RelV (.int v) u := fun ⟨t, e⟩ => ⟨_, PySem.W.mg_of X G e, t, rfl⟩
  obtain ⟨odk, nk, slk, hk⟩ := W.kindT
  obtain ⟨odd, nd, sld, hd⟩ := W.doingsT
  obtain ⟨odc, nc, slc, hc⟩ := W.tableT
  obtain ⟨k0, k1, k2, k3, k4, k5, k6, k7, k8, k9, k10, ek, hk0, hk1, hk2, hk3, hk4, hk5, hk6, hk7, hk8, hk9, hk10⟩ := W.kin
  obtain ⟨g0, g1, g2, g3, g4, g5, g6, g7, g8, g9, g10, ed, _⟩ := W.dos
  obtain ⟨c0, c1, c2, c3, c4, c5, c6, c7, c8, c9, c10, c11, c12, ec, _⟩ := W.cas
  have st : ∀ {a : Addr} {x y z : Str}, StrsIn K a x y z → ∀ H, SqT K H a ([x, y, z].map V.str) := fun ⟨t, u, v, od, n, sl, e⟩ H => sqT_of e (by show 3 ≤ sizeLine; decide) (show Vals [V.str _, V.str _, V.str _] _ from .cons ⟨_, rfl⟩ (.cons ⟨_, rfl⟩ (.cons ⟨_, rfl⟩ .nil))) H
  refine ⟨W.c_Channel.cls, W.n_writer, W.n_reader, W.n_room, W.n_written, W.n_taken, W.c_Process.cls, W.n_program, W.n_place, W.n_registers, W.n_said, W.c_Net.cls, W.n_processes, W.n_channels, W.n_steps, W.n_grown, W.c_Calls.cls, W.n_numbers, W.n_at, gi W.i_MOST_CHANNELS, gi W.i_MOST_ROOM, gi W.i_MOST_INSTRUCTIONS, gi W.i_LAST_REGISTER, gi W.i_MOST_VALUE, gi W.i_CAN_STEP, gi W.i_AT_END, gi W.i_WAITS_TO_READ, gi W.i_WAITS_TO_WRITE, gi W.i_GET, gi W.i_PUT, gi W.i_MODULUS, gi W.i_MOST_PROCESSES, gi W.i_MOST_RUN, gi W.i_MOST_ROUND, gi W.i_MOST_SETTLE, gi W.i_MOST_WIDENED, ⟨_, PySem.W.mg_of X G W.kinds, rfl⟩, ⟨_, PySem.W.mg_of X G W.doings, rfl⟩, ⟨_, PySem.W.mg_of X G W.table, rfl⟩, fun H => sqT_of hk (by rw [ek]; show 11 ≤ sizeLine; decide) (vals_refs _) H, fun H => sqT_of hd (by rw [ed]; show 11 ≤ sizeLine; decide) (vals_refs _) H, fun H => sqT_of hc (by rw [ec]; show 13 ≤ sizeLine; decide) (vals_refs _) H, by rw [ek]; rfl, by rw [ed]; rfl, by rw [ec]; rfl, ?_, PySem.W.mg_none_of X G W.z_len, PySem.W.mg_none_of X G W.z_range, PySem.W.mg_none_of X G W.z_min⟩
  rw [ek]
  intro i l hl
  match i, hl with
  | 0, hl => exact ⟨k0, rfl, by obtain rfl := Option.some.inj hl; exact st hk0⟩
  | 1, hl => exact ⟨k1, rfl, by obtain rfl := Option.some.inj hl; exact st hk1⟩
  | 2, hl => exact ⟨k2, rfl, by obtain rfl := Option.some.inj hl; exact st hk2⟩
  | 3, hl => exact ⟨k3, rfl, by obtain rfl := Option.some.inj hl; exact st hk3⟩
  | 4, hl => exact ⟨k4, rfl, by obtain rfl := Option.some.inj hl; exact st hk4⟩
  | 5, hl => exact ⟨k5, rfl, by obtain rfl := Option.some.inj hl; exact st hk5⟩
  | 6, hl => exact ⟨k6, rfl, by obtain rfl := Option.some.inj hl; exact st hk6⟩
  | 7, hl => exact ⟨k7, rfl, by obtain rfl := Option.some.inj hl; exact st hk7⟩
  | 8, hl => exact ⟨k8, rfl, by obtain rfl := Option.some.inj hl; exact st hk8⟩
  | 9, hl => exact ⟨k9, rfl, by obtain rfl := Option.some.inj hl; exact st hk9⟩
  | 10, hl => exact ⟨k10, rfl, by obtain rfl := Option.some.inj hl; exact st hk10⟩
  | _ + 11, hl => cases hl
section
variable {P : Program} {w : World} {K : PySem.W.Frag} {mg : Str → Option Value} {base : Heap} {C : Cs} {TT : List NTab} {h : Heap}
theorem cal_of {x : Str} {st : Stmt} {f : Addr} {fd : FuncData} {ps : List Str} {k : Nat} {sp : Sp} (F : L2.Fun K x x st f fd) (X : K.In h) (G : h.Ns mainGlobals mg) (e : PySem.W.nsIn K mainGlobals x = some (some (.ref f))) (ok : FnOk P w K mg base L2.CX0 k f fd ps sp) (b : Binds K fd ps []) : C8.Cal P w K mg base k x sp [] :=
  ⟨f, fd, ps, [], ok, PySem.W.mg_of X G e, F.kp, b, .nil⟩
theorem met_of {x qual : Str} {st : Stmt} {f Cl : Addr} {fd : FuncData} {ps : List Str} {k : Nat} {sp : Sp} (F : L2.Fun K x qual st f fd) (c : Cls K Cl) (e : PySem.W.findIn K (.ref Cl) x = some (some (.ref f))) (i : PySem.W.isFn K (.ref f) = true) (ok : FnOk P w K mg base L2.CX0 k f fd ps sp) (b : Binds K fd ps []) : C8.Met P w K mg base k Cl x sp [] :=
  ⟨f, fd, ps, [], c, ⟨e, i, F.kp⟩, ok, b, .nil⟩
theorem mak_of {x qual : Str} {st : Stmt} {f Cl : Addr} {fd : FuncData} {ps : List Str} {k : Nat} {sp : Sp} (F : L2.Fun K "__init__" qual st f fd) (X : K.In h) (G : h.Ns mainGlobals mg) (c : ClsIn K x Cl) (e : PySem.W.findIn K (.ref Cl) "__init__" = some (some (.ref f))) (i : PySem.W.isFn K (.ref f) = true) (ok : FnOk P w K mg base L2.CX0 k f fd ps sp) (b : Binds K fd ps []) : C8.Mak P w K mg base k x Cl sp [] :=
  ⟨f, fd, ps, [], ⟨c.ma, e, i, c.kc⟩, ok, PySem.W.mg_of X G c.ns, b, .nil⟩
theorem held_of {x : Str} {sp : Sp} {k j : Nat} {g : Addr} (c : C8.Cal P w K mg base k x sp []) (X : K.In h) (G : h.Ns mainGlobals mg) (e : PySem.W.nsIn K mainGlobals x = some (some (.ref g))) (hk : k ≤ j) : Held P w K mg base j g sp := by
  obtain ⟨f, fd, ps, ds, F, m, kp, b, v⟩ := c.ex
  have e2 := m.symm.trans (PySem.W.mg_of X G e)
  cases e2
  cases v
  exact ⟨fd, ps, F.mono hk, kp, b⟩
end

theorem all_mk {P : Program} {w : World} {K : PySem.W.Frag} {h : Heap} {mg : Str → Option Value} {C : Cs} {fa fg cg Pg : Addr} (X : K.In h) (G : h.Ns mainGlobals mg) (hfa : mg "answers" = some (.ref fa)) (W : Wr K C fg cg Pg) :
    ∃ fd : FuncData, (∀ (s : Shared) (us : List Value), us.length = (["calls"] : List Str).length → BindsTo s fd ⟨us, []⟩ ((["calls"] : List Str).zip us)) ∧ ∀ base : Heap, K.In base → base.Ns mainGlobals mg → LamX.TabB base mg cg Pg → FnOk P w K mg base L2.CX0 8 fa fd ["calls"] (sp_answers K C [(Pg, lamName)]) := by
  have T := W.txt X G
  obtain ⟨fA, eA, ocA, odA, kVA, dcA, pmA, anA, cdA, ctA, slA, lA, cA, kA⟩ := W.d_answers
  have efa := hfa.symm.trans (PySem.W.mg_of X G eA)
  cases efa
  have FA := fun_mk (st := s_answers) lA cA kA
  refine ⟨PySem.W.fnOf "answers" "answers" (defArgs s_answers) (defBody s_answers) (defScope s_answers) .none kVA dcA pmA anA cdA ctA, fun s us hu => match us, hu with | [_], _ => .of_eq rfl, fun base _ _ TB => ?_⟩
  obtain ⟨eg, ⟨ocg, odg, kVg, dcg, pmg, ang, ctg, slg, lg, hcg, kg⟩, -⟩ := W.grow
  obtain ⟨f_channel_fits, e_channel_fits, q_channel_fits⟩ := W.d_channel_fits
  obtain ⟨fd_channel_fits, F_channel_fits⟩ := fn_of_in q_channel_fits
  have c_channel_fits := cal_of F_channel_fits X G e_channel_fits (ok_channel_fits (P := P) (w := w) (base := base) (TT := [(Pg, lamName)]) F_channel_fits T ) (F_channel_fits.binds (ps := ["how_many", "writer", "reader", "room"]) fun _ _ _ _ _ _ us hl => match us, hl with | [_, _, _, _], _ => rfl)
  obtain ⟨f_Channel_init, e_Channel_init, i_Channel_init, q_Channel_init⟩ := W.m_Channel_init
  obtain ⟨fd_Channel_init, F_Channel_init⟩ := fn_of_in q_Channel_init
  have k_Channel := mak_of F_Channel_init X G W.c_Channel e_Channel_init i_Channel_init (ok_Channel_init (P := P) (w := w) (base := base) (TT := [(Pg, lamName)]) F_Channel_init T ) (F_Channel_init.binds (ps := ["self", "writer", "reader", "room"]) fun _ _ _ _ _ _ us hl => match us, hl with | [_, _, _, _], _ => rfl)
  obtain ⟨f_Channel_is_empty, e_Channel_is_empty, i_Channel_is_empty, q_Channel_is_empty⟩ := W.m_Channel_is_empty
  obtain ⟨fd_Channel_is_empty, F_Channel_is_empty⟩ := fn_of_in q_Channel_is_empty
  have m_is_empty := met_of F_Channel_is_empty W.c_Channel.cls e_Channel_is_empty i_Channel_is_empty (ok_Channel_is_empty (P := P) (w := w) (base := base) (TT := [(Pg, lamName)]) F_Channel_is_empty T ) (F_Channel_is_empty.binds (ps := ["self"]) fun _ _ _ _ _ _ us hl => match us, hl with | [_], _ => rfl)
  obtain ⟨f_Channel_is_full, e_Channel_is_full, i_Channel_is_full, q_Channel_is_full⟩ := W.m_Channel_is_full
  obtain ⟨fd_Channel_is_full, F_Channel_is_full⟩ := fn_of_in q_Channel_is_full
  have m_is_full := met_of F_Channel_is_full W.c_Channel.cls e_Channel_is_full i_Channel_is_full (ok_Channel_is_full (P := P) (w := w) (base := base) (TT := [(Pg, lamName)]) F_Channel_is_full T ) (F_Channel_is_full.binds (ps := ["self"]) fun _ _ _ _ _ _ us hl => match us, hl with | [_], _ => rfl)
  obtain ⟨f_Channel_take, e_Channel_take, i_Channel_take, q_Channel_take⟩ := W.m_Channel_take
  obtain ⟨fd_Channel_take, F_Channel_take⟩ := fn_of_in q_Channel_take
  have m_take := met_of F_Channel_take W.c_Channel.cls e_Channel_take i_Channel_take (ok_Channel_take (P := P) (w := w) (base := base) (TT := [(Pg, lamName)]) F_Channel_take T ) (F_Channel_take.binds (ps := ["self"]) fun _ _ _ _ _ _ us hl => match us, hl with | [_], _ => rfl)
  obtain ⟨f_Channel_put, e_Channel_put, i_Channel_put, q_Channel_put⟩ := W.m_Channel_put
  obtain ⟨fd_Channel_put, F_Channel_put⟩ := fn_of_in q_Channel_put
  have m_put := met_of F_Channel_put W.c_Channel.cls e_Channel_put i_Channel_put (ok_Channel_put (P := P) (w := w) (base := base) (TT := [(Pg, lamName)]) F_Channel_put T ) (F_Channel_put.binds (ps := ["self", "number"]) fun _ _ _ _ _ _ us hl => match us, hl with | [_, _], _ => rfl)
  obtain ⟨f_Channel_on_it, e_Channel_on_it, i_Channel_on_it, q_Channel_on_it⟩ := W.m_Channel_on_it
  obtain ⟨fd_Channel_on_it, F_Channel_on_it⟩ := fn_of_in q_Channel_on_it
  have m_on_it := met_of F_Channel_on_it W.c_Channel.cls e_Channel_on_it i_Channel_on_it (ok_Channel_on_it (P := P) (w := w) (base := base) (TT := [(Pg, lamName)]) F_Channel_on_it T ) (F_Channel_on_it.binds (ps := ["self"]) fun _ _ _ _ _ _ us hl => match us, hl with | [_], _ => rfl)
  obtain ⟨f_Process_init, e_Process_init, i_Process_init, q_Process_init⟩ := W.m_Process_init
  obtain ⟨fd_Process_init, F_Process_init⟩ := fn_of_in q_Process_init
  have k_Process := mak_of F_Process_init X G W.c_Process e_Process_init i_Process_init (ok_Process_init (P := P) (w := w) (base := base) (TT := [(Pg, lamName)]) F_Process_init T ) (F_Process_init.binds (ps := ["self"]) fun _ _ _ _ _ _ us hl => match us, hl with | [_], _ => rfl)
  obtain ⟨f_Process_begin, e_Process_begin, i_Process_begin, q_Process_begin⟩ := W.m_Process_begin
  obtain ⟨fd_Process_begin, F_Process_begin⟩ := fn_of_in q_Process_begin
  have m_begin := met_of F_Process_begin W.c_Process.cls e_Process_begin i_Process_begin (ok_Process_begin (P := P) (w := w) (base := base) (TT := [(Pg, lamName)]) F_Process_begin T ) (F_Process_begin.binds (ps := ["self", "program"]) fun _ _ _ _ _ _ us hl => match us, hl with | [_, _], _ => rfl)
  obtain ⟨f_Process_is_at_end, e_Process_is_at_end, i_Process_is_at_end, q_Process_is_at_end⟩ := W.m_Process_is_at_end
  obtain ⟨fd_Process_is_at_end, F_Process_is_at_end⟩ := fn_of_in q_Process_is_at_end
  have m_is_at_end := met_of F_Process_is_at_end W.c_Process.cls e_Process_is_at_end i_Process_is_at_end (ok_Process_is_at_end (P := P) (w := w) (base := base) (TT := [(Pg, lamName)]) F_Process_is_at_end T ) (F_Process_is_at_end.binds (ps := ["self"]) fun _ _ _ _ _ _ us hl => match us, hl with | [_], _ => rfl)
  obtain ⟨f_Process_instruction, e_Process_instruction, i_Process_instruction, q_Process_instruction⟩ := W.m_Process_instruction
  obtain ⟨fd_Process_instruction, F_Process_instruction⟩ := fn_of_in q_Process_instruction
  have m_instruction := met_of F_Process_instruction W.c_Process.cls e_Process_instruction i_Process_instruction (ok_Process_instruction (P := P) (w := w) (base := base) (TT := [(Pg, lamName)]) F_Process_instruction T ) (F_Process_instruction.binds (ps := ["self"]) fun _ _ _ _ _ _ us hl => match us, hl with | [_], _ => rfl)
  obtain ⟨f_Net_has_process, e_Net_has_process, i_Net_has_process, q_Net_has_process⟩ := W.m_Net_has_process
  obtain ⟨fd_Net_has_process, F_Net_has_process⟩ := fn_of_in q_Net_has_process
  have m_has_process := met_of F_Net_has_process W.c_Net.cls e_Net_has_process i_Net_has_process (ok_Net_has_process (P := P) (w := w) (base := base) (TT := [(Pg, lamName)]) F_Net_has_process T ) (F_Net_has_process.binds (ps := ["self", "number"]) fun _ _ _ _ _ _ us hl => match us, hl with | [_, _], _ => rfl)
  obtain ⟨f_Net_process, e_Net_process, i_Net_process, q_Net_process⟩ := W.m_Net_process
  obtain ⟨fd_Net_process, F_Net_process⟩ := fn_of_in q_Net_process
  have m_process := met_of F_Net_process W.c_Net.cls e_Net_process i_Net_process (ok_Net_process (P := P) (w := w) (base := base) (TT := [(Pg, lamName)]) F_Net_process T ) (F_Net_process.binds (ps := ["self", "number"]) fun _ _ _ _ _ _ us hl => match us, hl with | [_, _], _ => rfl)
  obtain ⟨f_Net_has_channel, e_Net_has_channel, i_Net_has_channel, q_Net_has_channel⟩ := W.m_Net_has_channel
  obtain ⟨fd_Net_has_channel, F_Net_has_channel⟩ := fn_of_in q_Net_has_channel
  have m_has_channel := met_of F_Net_has_channel W.c_Net.cls e_Net_has_channel i_Net_has_channel (ok_Net_has_channel (P := P) (w := w) (base := base) (TT := [(Pg, lamName)]) F_Net_has_channel T ) (F_Net_has_channel.binds (ps := ["self", "number"]) fun _ _ _ _ _ _ us hl => match us, hl with | [_, _], _ => rfl)
  obtain ⟨f_Net_channel, e_Net_channel, i_Net_channel, q_Net_channel⟩ := W.m_Net_channel
  obtain ⟨fd_Net_channel, F_Net_channel⟩ := fn_of_in q_Net_channel
  have m_channel := met_of F_Net_channel W.c_Net.cls e_Net_channel i_Net_channel (ok_Net_channel (P := P) (w := w) (base := base) (TT := [(Pg, lamName)]) F_Net_channel T ) (F_Net_channel.binds (ps := ["self", "number"]) fun _ _ _ _ _ _ us hl => match us, hl with | [_, _], _ => rfl)
  obtain ⟨f_do_set, e_do_set, q_do_set⟩ := W.d_do_set
  obtain ⟨fd_do_set, F_do_set⟩ := fn_of_in q_do_set
  have c_do_set := cal_of F_do_set X G e_do_set (ok_do_set (P := P) (w := w) (base := base) (TT := [(Pg, lamName)]) F_do_set T ) (F_do_set.binds (ps := ["net", "process", "x", "n", "zero"]) fun _ _ _ _ _ _ us hl => match us, hl with | [_, _, _, _, _], _ => rfl)
  obtain ⟨f_do_copy, e_do_copy, q_do_copy⟩ := W.d_do_copy
  obtain ⟨fd_do_copy, F_do_copy⟩ := fn_of_in q_do_copy
  have c_do_copy := cal_of F_do_copy X G e_do_copy (ok_do_copy (P := P) (w := w) (base := base) (TT := [(Pg, lamName)]) F_do_copy T ) (F_do_copy.binds (ps := ["net", "process", "x", "y", "zero"]) fun _ _ _ _ _ _ us hl => match us, hl with | [_, _, _, _, _], _ => rfl)
  obtain ⟨f_do_plus, e_do_plus, q_do_plus⟩ := W.d_do_plus
  obtain ⟨fd_do_plus, F_do_plus⟩ := fn_of_in q_do_plus
  have c_do_plus := cal_of F_do_plus X G e_do_plus (ok_do_plus (P := P) (w := w) (base := base) (TT := [(Pg, lamName)]) F_do_plus T ) (F_do_plus.binds (ps := ["net", "process", "x", "y", "zero"]) fun _ _ _ _ _ _ us hl => match us, hl with | [_, _, _, _, _], _ => rfl)
  obtain ⟨f_do_minus, e_do_minus, q_do_minus⟩ := W.d_do_minus
  obtain ⟨fd_do_minus, F_do_minus⟩ := fn_of_in q_do_minus
  have c_do_minus := cal_of F_do_minus X G e_do_minus (ok_do_minus (P := P) (w := w) (base := base) (TT := [(Pg, lamName)]) F_do_minus T ) (F_do_minus.binds (ps := ["net", "process", "x", "y", "zero"]) fun _ _ _ _ _ _ us hl => match us, hl with | [_, _, _, _, _], _ => rfl)
  obtain ⟨f_do_times, e_do_times, q_do_times⟩ := W.d_do_times
  obtain ⟨fd_do_times, F_do_times⟩ := fn_of_in q_do_times
  have c_do_times := cal_of F_do_times X G e_do_times (ok_do_times (P := P) (w := w) (base := base) (TT := [(Pg, lamName)]) F_do_times T ) (F_do_times.binds (ps := ["net", "process", "x", "y", "zero"]) fun _ _ _ _ _ _ us hl => match us, hl with | [_, _, _, _, _], _ => rfl)
  obtain ⟨f_do_jump, e_do_jump, q_do_jump⟩ := W.d_do_jump
  obtain ⟨fd_do_jump, F_do_jump⟩ := fn_of_in q_do_jump
  have c_do_jump := cal_of F_do_jump X G e_do_jump (ok_do_jump (P := P) (w := w) (base := base) (TT := [(Pg, lamName)]) F_do_jump T ) (F_do_jump.binds (ps := ["net", "process", "i", "zero", "zero_too"]) fun _ _ _ _ _ _ us hl => match us, hl with | [_, _, _, _, _], _ => rfl)
  obtain ⟨f_do_if_zero, e_do_if_zero, q_do_if_zero⟩ := W.d_do_if_zero
  obtain ⟨fd_do_if_zero, F_do_if_zero⟩ := fn_of_in q_do_if_zero
  have c_do_if_zero := cal_of F_do_if_zero X G e_do_if_zero (ok_do_if_zero (P := P) (w := w) (base := base) (TT := [(Pg, lamName)]) F_do_if_zero T ) (F_do_if_zero.binds (ps := ["net", "process", "x", "i", "zero"]) fun _ _ _ _ _ _ us hl => match us, hl with | [_, _, _, _, _], _ => rfl)
  obtain ⟨f_do_if_less, e_do_if_less, q_do_if_less⟩ := W.d_do_if_less
  obtain ⟨fd_do_if_less, F_do_if_less⟩ := fn_of_in q_do_if_less
  have c_do_if_less := cal_of F_do_if_less X G e_do_if_less (ok_do_if_less (P := P) (w := w) (base := base) (TT := [(Pg, lamName)]) F_do_if_less T ) (F_do_if_less.binds (ps := ["net", "process", "x", "y", "i"]) fun _ _ _ _ _ _ us hl => match us, hl with | [_, _, _, _, _], _ => rfl)
  obtain ⟨f_do_say, e_do_say, q_do_say⟩ := W.d_do_say
  obtain ⟨fd_do_say, F_do_say⟩ := fn_of_in q_do_say
  have c_do_say := cal_of F_do_say X G e_do_say (ok_do_say (P := P) (w := w) (base := base) (TT := [(Pg, lamName)]) F_do_say T ) (F_do_say.binds (ps := ["net", "process", "x", "zero", "zero_too"]) fun _ _ _ _ _ _ us hl => match us, hl with | [_, _, _, _, _], _ => rfl)
  obtain ⟨f_Calls_init, e_Calls_init, i_Calls_init, q_Calls_init⟩ := W.m_Calls_init
  obtain ⟨fd_Calls_init, F_Calls_init⟩ := fn_of_in q_Calls_init
  have k_Calls := mak_of F_Calls_init X G W.c_Calls e_Calls_init i_Calls_init (ok_Calls_init (P := P) (w := w) (base := base) (TT := [(Pg, lamName)]) F_Calls_init T ) (F_Calls_init.binds (ps := ["self", "numbers"]) fun _ _ _ _ _ _ us hl => match us, hl with | [_, _], _ => rfl)
  obtain ⟨f_Calls_is_done, e_Calls_is_done, i_Calls_is_done, q_Calls_is_done⟩ := W.m_Calls_is_done
  obtain ⟨fd_Calls_is_done, F_Calls_is_done⟩ := fn_of_in q_Calls_is_done
  have m_is_done := met_of F_Calls_is_done W.c_Calls.cls e_Calls_is_done i_Calls_is_done (ok_Calls_is_done (P := P) (w := w) (base := base) (TT := [(Pg, lamName)]) F_Calls_is_done T ) (F_Calls_is_done.binds (ps := ["self"]) fun _ _ _ _ _ _ us hl => match us, hl with | [_], _ => rfl)
  obtain ⟨f_Calls_number, e_Calls_number, i_Calls_number, q_Calls_number⟩ := W.m_Calls_number
  obtain ⟨fd_Calls_number, F_Calls_number⟩ := fn_of_in q_Calls_number
  have m_number := met_of F_Calls_number W.c_Calls.cls e_Calls_number i_Calls_number (ok_Calls_number (P := P) (w := w) (base := base) (TT := [(Pg, lamName)]) F_Calls_number T ) (F_Calls_number.binds (ps := ["self"]) fun _ _ _ _ _ _ us hl => match us, hl with | [_], _ => rfl)
  obtain ⟨f_call_counts, e_call_counts, q_call_counts⟩ := W.d_call_counts
  obtain ⟨fd_call_counts, F_call_counts⟩ := fn_of_in q_call_counts
  have c_call_counts := cal_of F_call_counts X G e_call_counts (ok_call_counts (P := P) (w := w) (base := base) (TT := [(Pg, lamName)]) F_call_counts T ) (F_call_counts.binds (ps := ["net", "calls"]) fun _ _ _ _ _ _ us hl => match us, hl with | [_, _], _ => rfl)
  obtain ⟨f_channels_fit, e_channels_fit, q_channels_fit⟩ := W.d_channels_fit
  obtain ⟨fd_channels_fit, F_channels_fit⟩ := fn_of_in q_channels_fit
  have c_channels_fit := cal_of F_channels_fit X G e_channels_fit (ok_channels_fit (P := P) (w := w) (base := base) (TT := [(Pg, lamName)]) F_channels_fit T c_channel_fits) (F_channels_fit.binds (ps := ["how_many", "rows"]) fun _ _ _ _ _ _ us hl => match us, hl with | [_, _], _ => rfl)
  obtain ⟨f_is_source, e_is_source, q_is_source⟩ := W.d_is_source
  obtain ⟨fd_is_source, F_is_source⟩ := fn_of_in q_is_source
  have c_is_source := cal_of F_is_source X G e_is_source (ok_is_source (P := P) (w := w) (base := base) (TT := [(Pg, lamName)]) F_is_source T m_has_channel m_channel) (F_is_source.binds (ps := ["net", "owner", "number"]) fun _ _ _ _ _ _ us hl => match us, hl with | [_, _, _], _ => rfl)
  obtain ⟨f_is_target, e_is_target, q_is_target⟩ := W.d_is_target
  obtain ⟨fd_is_target, F_is_target⟩ := fn_of_in q_is_target
  have c_is_target := cal_of F_is_target X G e_is_target (ok_is_target (P := P) (w := w) (base := base) (TT := [(Pg, lamName)]) F_is_target T m_has_channel m_channel) (F_is_target.binds (ps := ["net", "owner", "number"]) fun _ _ _ _ _ _ us hl => match us, hl with | [_, _, _], _ => rfl)
  obtain ⟨f_how_stands, e_how_stands, q_how_stands⟩ := W.d_how_stands
  obtain ⟨fd_how_stands, F_how_stands⟩ := fn_of_in q_how_stands
  have c_how_stands := cal_of F_how_stands X G e_how_stands (ok_how_stands (P := P) (w := w) (base := base) (TT := [(Pg, lamName)]) F_how_stands T m_is_at_end m_instruction m_is_empty m_is_full m_channel) (F_how_stands.binds (ps := ["net", "process"]) fun _ _ _ _ _ _ us hl => match us, hl with | [_, _], _ => rfl)
  obtain ⟨f_do_get, e_do_get, q_do_get⟩ := W.d_do_get
  obtain ⟨fd_do_get, F_do_get⟩ := fn_of_in q_do_get
  have c_do_get := cal_of F_do_get X G e_do_get (ok_do_get (P := P) (w := w) (base := base) (TT := [(Pg, lamName)]) F_do_get T m_take m_channel) (F_do_get.binds (ps := ["net", "process", "x", "c", "zero"]) fun _ _ _ _ _ _ us hl => match us, hl with | [_, _, _, _, _], _ => rfl)
  obtain ⟨f_do_put, e_do_put, q_do_put⟩ := W.d_do_put
  obtain ⟨fd_do_put, F_do_put⟩ := fn_of_in q_do_put
  have c_do_put := cal_of F_do_put X G e_do_put (ok_do_put (P := P) (w := w) (base := base) (TT := [(Pg, lamName)]) F_do_put T m_put m_channel) (F_do_put.binds (ps := ["net", "process", "x", "c", "zero"]) fun _ _ _ _ _ _ us hl => match us, hl with | [_, _, _, _, _], _ => rfl)
  obtain ⟨f_Calls_row, e_Calls_row, i_Calls_row, q_Calls_row⟩ := W.m_Calls_row
  obtain ⟨fd_Calls_row, F_Calls_row⟩ := fn_of_in q_Calls_row
  have m_row := met_of F_Calls_row W.c_Calls.cls e_Calls_row i_Calls_row (ok_Calls_row (P := P) (w := w) (base := base) (TT := [(Pg, lamName)]) F_Calls_row T m_number) (F_Calls_row.binds (ps := ["self"]) fun _ _ _ _ _ _ us hl => match us, hl with | [_], _ => rfl)
  obtain ⟨f_call_widen, e_call_widen, q_call_widen⟩ := W.d_call_widen
  obtain ⟨fd_call_widen, F_call_widen⟩ := fn_of_in q_call_widen
  have c_call_widen := cal_of F_call_widen X G e_call_widen (ok_call_widen (P := P) (w := w) (base := base) (TT := [(Pg, lamName)]) F_call_widen T m_number m_channel m_has_channel) (F_call_widen.binds (ps := ["net", "calls"]) fun _ _ _ _ _ _ us hl => match us, hl with | [_, _], _ => rfl)
  obtain ⟨f_call_said, e_call_said, q_call_said⟩ := W.d_call_said
  obtain ⟨fd_call_said, F_call_said⟩ := fn_of_in q_call_said
  have c_call_said := cal_of F_call_said X G e_call_said (ok_call_said (P := P) (w := w) (base := base) (TT := [(Pg, lamName)]) F_call_said T m_number m_has_process m_process) (F_call_said.binds (ps := ["net", "calls"]) fun _ _ _ _ _ _ us hl => match us, hl with | [_, _], _ => rfl)
  obtain ⟨f_call_channel, e_call_channel, q_call_channel⟩ := W.d_call_channel
  obtain ⟨fd_call_channel, F_call_channel⟩ := fn_of_in q_call_channel
  have c_call_channel := cal_of F_call_channel X G e_call_channel (ok_call_channel (P := P) (w := w) (base := base) (TT := [(Pg, lamName)]) F_call_channel T m_number m_channel m_on_it m_has_channel) (F_call_channel.binds (ps := ["net", "calls"]) fun _ _ _ _ _ _ us hl => match us, hl with | [_, _], _ => rfl)
  obtain ⟨f_call_wrote, e_call_wrote, q_call_wrote⟩ := W.d_call_wrote
  obtain ⟨fd_call_wrote, F_call_wrote⟩ := fn_of_in q_call_wrote
  have c_call_wrote := cal_of F_call_wrote X G e_call_wrote (ok_call_wrote (P := P) (w := w) (base := base) (TT := [(Pg, lamName)]) F_call_wrote T m_number m_has_channel m_channel) (F_call_wrote.binds (ps := ["net", "calls"]) fun _ _ _ _ _ _ us hl => match us, hl with | [_, _], _ => rfl)
  obtain ⟨f_number_fits, e_number_fits, q_number_fits⟩ := W.d_number_fits
  obtain ⟨fd_number_fits, F_number_fits⟩ := fn_of_in q_number_fits
  have c_number_fits := cal_of F_number_fits X G e_number_fits (ok_number_fits (P := P) (w := w) (base := base) (TT := [(Pg, lamName)]) F_number_fits T c_is_source c_is_target) (F_number_fits.binds (ps := ["net", "owner", "behind_last", "kind", "number"]) fun _ _ _ _ _ _ us hl => match us, hl with | [_, _, _, _, _], _ => rfl)
  obtain ⟨f_Net_lay, e_Net_lay, i_Net_lay, q_Net_lay⟩ := W.m_Net_lay
  obtain ⟨fd_Net_lay, F_Net_lay⟩ := fn_of_in q_Net_lay
  have m_lay := met_of F_Net_lay W.c_Net.cls e_Net_lay i_Net_lay (ok_Net_lay (P := P) (w := w) (base := base) (TT := [(Pg, lamName)]) F_Net_lay T k_Process k_Channel) (F_Net_lay.binds (ps := ["self", "how_many", "rows"]) fun _ _ _ _ _ _ us hl => match us, hl with | [_, _, _], _ => rfl)
  obtain ⟨f_waited_channel, e_waited_channel, q_waited_channel⟩ := W.d_waited_channel
  obtain ⟨fd_waited_channel, F_waited_channel⟩ := fn_of_in q_waited_channel
  have c_waited_channel := cal_of F_waited_channel X G e_waited_channel (ok_waited_channel (P := P) (w := w) (base := base) (TT := [(Pg, lamName)]) F_waited_channel T c_how_stands m_instruction) (F_waited_channel.binds (ps := ["net", "process"]) fun _ _ _ _ _ _ us hl => match us, hl with | [_, _], _ => rfl)
  obtain ⟨g0, g1, g2, g3, g4, g5, g6, g7, g8, g9, g10, ed, hg0, hg1, hg2, hg3, hg4, hg5, hg6, hg7, hg8, hg9, hg10⟩ := W.dos
  have hdo : ∀ k g, C.dos[k]? = some g → Held P w K mg base 2 g (doSp K C [(Pg, lamName)] k) := by
    rw [ed]
    intro k g hk
    match k, hk with
    | 0, hk => exact Option.some.inj hk ▸ held_of c_do_get X G hg0 (by decide)
    | 1, hk => exact Option.some.inj hk ▸ held_of c_do_put X G hg1 (by decide)
    | 2, hk => exact Option.some.inj hk ▸ held_of c_do_set X G hg2 (by decide)
    | 3, hk => exact Option.some.inj hk ▸ held_of c_do_copy X G hg3 (by decide)
    | 4, hk => exact Option.some.inj hk ▸ held_of c_do_plus X G hg4 (by decide)
    | 5, hk => exact Option.some.inj hk ▸ held_of c_do_minus X G hg5 (by decide)
    | 6, hk => exact Option.some.inj hk ▸ held_of c_do_times X G hg6 (by decide)
    | 7, hk => exact Option.some.inj hk ▸ held_of c_do_jump X G hg7 (by decide)
    | 8, hk => exact Option.some.inj hk ▸ held_of c_do_if_zero X G hg8 (by decide)
    | 9, hk => exact Option.some.inj hk ▸ held_of c_do_if_less X G hg9 (by decide)
    | 10, hk => exact Option.some.inj hk ▸ held_of c_do_say X G hg10 (by decide)
    | _ + 11, hk => cases hk
  obtain ⟨f_do_step, e_do_step, q_do_step⟩ := W.d_do_step
  obtain ⟨fd_do_step, F_do_step⟩ := fn_of_in q_do_step
  have c_do_step := cal_of F_do_step X G e_do_step (ok_do_step (P := P) (w := w) (base := base) (TT := [(Pg, lamName)]) F_do_step T m_instruction hdo) (F_do_step.binds (ps := ["net", "process"]) fun _ _ _ _ _ _ us hl => match us, hl with | [_, _], _ => rfl)
  obtain ⟨f_how_all_stand, e_how_all_stand, q_how_all_stand⟩ := W.d_how_all_stand
  obtain ⟨fd_how_all_stand, F_how_all_stand⟩ := fn_of_in q_how_all_stand
  have c_how_all_stand := cal_of F_how_all_stand X G e_how_all_stand (ok_how_all_stand (P := P) (w := w) (base := base) (TT := [(Pg, lamName)]) F_how_all_stand T c_how_stands) (F_how_all_stand.binds (ps := ["net"]) fun _ _ _ _ _ _ us hl => match us, hl with | [_], _ => rfl)
  obtain ⟨f_instruction_fits, e_instruction_fits, q_instruction_fits⟩ := W.d_instruction_fits
  obtain ⟨fd_instruction_fits, F_instruction_fits⟩ := fn_of_in q_instruction_fits
  have c_instruction_fits := cal_of F_instruction_fits X G e_instruction_fits (ok_instruction_fits (P := P) (w := w) (base := base) (TT := [(Pg, lamName)]) F_instruction_fits T c_number_fits) (F_instruction_fits.binds (ps := ["net", "owner", "behind_last", "instruction"]) fun _ _ _ _ _ _ us hl => match us, hl with | [_, _, _, _], _ => rfl)
  obtain ⟨f_Net_init, e_Net_init, i_Net_init, q_Net_init⟩ := W.m_Net_init
  obtain ⟨fd_Net_init, F_Net_init⟩ := fn_of_in q_Net_init
  have k_Net := mak_of F_Net_init X G W.c_Net e_Net_init i_Net_init (ok_Net_init (P := P) (w := w) (base := base) (TT := [(Pg, lamName)]) F_Net_init T m_lay) (F_Net_init.binds (ps := ["self", "how_many", "rows"]) fun _ _ _ _ _ _ us hl => match us, hl with | [_, _, _], _ => rfl)
  obtain ⟨f_do_steps, e_do_steps, q_do_steps⟩ := W.d_do_steps
  obtain ⟨fd_do_steps, F_do_steps⟩ := fn_of_in q_do_steps
  have c_do_steps := cal_of F_do_steps X G e_do_steps (ok_do_steps (P := P) (w := w) (base := base) (TT := [(Pg, lamName)]) F_do_steps T c_do_step c_how_stands) (F_do_steps.binds (ps := ["net", "process", "most"]) fun _ _ _ _ _ _ us hl => match us, hl with | [_, _, _], _ => rfl)
  obtain ⟨f_channels_waited_to_write, e_channels_waited_to_write, q_channels_waited_to_write⟩ := W.d_channels_waited_to_write
  obtain ⟨fd_channels_waited_to_write, F_channels_waited_to_write⟩ := fn_of_in q_channels_waited_to_write
  have c_channels_waited_to_write := cal_of F_channels_waited_to_write X G e_channels_waited_to_write (ok_channels_waited_to_write (P := P) (w := w) (base := base) (TT := [(Pg, lamName)]) F_channels_waited_to_write T c_waited_channel c_how_stands) (F_channels_waited_to_write.binds (ps := ["net"]) fun _ _ _ _ _ _ us hl => match us, hl with | [_], _ => rfl)
  obtain ⟨f_call_net, e_call_net, q_call_net⟩ := W.d_call_net
  obtain ⟨fd_call_net, F_call_net⟩ := fn_of_in q_call_net
  have c_call_net := cal_of F_call_net X G e_call_net (ok_call_net (P := P) (w := w) (base := base) (TT := [(Pg, lamName)]) F_call_net T m_number m_row m_lay c_channels_fit) (F_call_net.binds (ps := ["net", "calls"]) fun _ _ _ _ _ _ us hl => match us, hl with | [_, _], _ => rfl)
  obtain ⟨f_call_stuck, e_call_stuck, q_call_stuck⟩ := W.d_call_stuck
  obtain ⟨fd_call_stuck, F_call_stuck⟩ := fn_of_in q_call_stuck
  have c_call_stuck := cal_of F_call_stuck X G e_call_stuck (ok_call_stuck (P := P) (w := w) (base := base) (TT := [(Pg, lamName)]) F_call_stuck T c_how_all_stand) (F_call_stuck.binds (ps := ["net", "calls"]) fun _ _ _ _ _ _ us hl => match us, hl with | [_, _], _ => rfl)
  obtain ⟨f_call_process, e_call_process, q_call_process⟩ := W.d_call_process
  obtain ⟨fd_call_process, F_call_process⟩ := fn_of_in q_call_process
  have c_call_process := cal_of F_call_process X G e_call_process (ok_call_process (P := P) (w := w) (base := base) (TT := [(Pg, lamName)]) F_call_process T m_number m_process m_has_process c_how_stands c_waited_channel) (F_call_process.binds (ps := ["net", "calls"]) fun _ _ _ _ _ _ us hl => match us, hl with | [_, _], _ => rfl)
  obtain ⟨f_instructions_fit, e_instructions_fit, q_instructions_fit⟩ := W.d_instructions_fit
  obtain ⟨fd_instructions_fit, F_instructions_fit⟩ := fn_of_in q_instructions_fit
  have c_instructions_fit := cal_of F_instructions_fit X G e_instructions_fit (ok_instructions_fit (P := P) (w := w) (base := base) (TT := [(Pg, lamName)]) F_instructions_fit T c_instruction_fits) (F_instructions_fit.binds (ps := ["net", "owner", "numbers"]) fun _ _ _ _ _ _ us hl => match us, hl with | [_, _, _], _ => rfl)
  have F_grow := fun_mk (st := s_grow) lg hcg kg
  have c_grow := cal_of F_grow X G eg (ok_grow (P := P) (w := w) (base := base) (TT := [(Pg, lamName)]) lg hcg T TB rfl m_channel c_channels_waited_to_write) (F_grow.binds (ps := ["net"]) fun _ _ _ _ _ _ us hl => match us, hl with | [_], _ => rfl)
  obtain ⟨f_do_round, e_do_round, q_do_round⟩ := W.d_do_round
  obtain ⟨fd_do_round, F_do_round⟩ := fn_of_in q_do_round
  have c_do_round := cal_of F_do_round X G e_do_round (ok_do_round (P := P) (w := w) (base := base) (TT := [(Pg, lamName)]) F_do_round T c_do_steps) (F_do_round.binds (ps := ["net", "most"]) fun _ _ _ _ _ _ us hl => match us, hl with | [_, _], _ => rfl)
  obtain ⟨f_call_run, e_call_run, q_call_run⟩ := W.d_call_run
  obtain ⟨fd_call_run, F_call_run⟩ := fn_of_in q_call_run
  have c_call_run := cal_of F_call_run X G e_call_run (ok_call_run (P := P) (w := w) (base := base) (TT := [(Pg, lamName)]) F_call_run T m_number m_process c_do_steps m_has_process c_how_stands c_waited_channel) (F_call_run.binds (ps := ["net", "calls"]) fun _ _ _ _ _ _ us hl => match us, hl with | [_, _], _ => rfl)
  obtain ⟨f_settle_once, e_settle_once, q_settle_once⟩ := W.d_settle_once
  obtain ⟨fd_settle_once, F_settle_once⟩ := fn_of_in q_settle_once
  have c_settle_once := cal_of F_settle_once X G e_settle_once (ok_settle_once (P := P) (w := w) (base := base) (TT := [(Pg, lamName)]) F_settle_once T c_how_all_stand c_do_round c_grow) (F_settle_once.binds (ps := ["net"]) fun _ _ _ _ _ _ us hl => match us, hl with | [_], _ => rfl)
  obtain ⟨f_call_program, e_call_program, q_call_program⟩ := W.d_call_program
  obtain ⟨fd_call_program, F_call_program⟩ := fn_of_in q_call_program
  have c_call_program := cal_of F_call_program X G e_call_program (ok_call_program (P := P) (w := w) (base := base) (TT := [(Pg, lamName)]) F_call_program T m_number m_row m_begin m_has_process c_instructions_fit m_process) (F_call_program.binds (ps := ["net", "calls"]) fun _ _ _ _ _ _ us hl => match us, hl with | [_, _], _ => rfl)
  obtain ⟨f_call_round, e_call_round, q_call_round⟩ := W.d_call_round
  obtain ⟨fd_call_round, F_call_round⟩ := fn_of_in q_call_round
  have c_call_round := cal_of F_call_round X G e_call_round (ok_call_round (P := P) (w := w) (base := base) (TT := [(Pg, lamName)]) F_call_round T m_number c_do_round) (F_call_round.binds (ps := ["net", "calls"]) fun _ _ _ _ _ _ us hl => match us, hl with | [_, _], _ => rfl)
  obtain ⟨f_call_grow, e_call_grow, q_call_grow⟩ := W.d_call_grow
  obtain ⟨fd_call_grow, F_call_grow⟩ := fn_of_in q_call_grow
  have c_call_grow := cal_of F_call_grow X G e_call_grow (ok_call_grow (P := P) (w := w) (base := base) (TT := [(Pg, lamName)]) F_call_grow T c_grow c_how_all_stand m_channel) (F_call_grow.binds (ps := ["net", "calls"]) fun _ _ _ _ _ _ us hl => match us, hl with | [_, _], _ => rfl)
  obtain ⟨f_call_settle, e_call_settle, q_call_settle⟩ := W.d_call_settle
  obtain ⟨fd_call_settle, F_call_settle⟩ := fn_of_in q_call_settle
  have c_call_settle := cal_of F_call_settle X G e_call_settle (ok_call_settle (P := P) (w := w) (base := base) (TT := [(Pg, lamName)]) F_call_settle T m_number c_settle_once c_how_all_stand) (F_call_settle.binds (ps := ["net", "calls"]) fun _ _ _ _ _ _ us hl => match us, hl with | [_, _], _ => rfl)
  obtain ⟨c0, c1, c2, c3, c4, c5, c6, c7, c8, c9, c10, c11, c12, ec, hc0, hc1, hc2, hc3, hc4, hc5, hc6, hc7, hc8, hc9, hc10, hc11, hc12⟩ := W.cas
  have hca : ∀ k g, C.cas[k]? = some g → Held P w K mg base 7 g (caSp K C [(Pg, lamName)] k) := by
    rw [ec]
    intro k g hk
    match k, hk with
    | 0, hk => exact Option.some.inj hk ▸ held_of c_call_net X G hc0 (by decide)
    | 1, hk => exact Option.some.inj hk ▸ held_of c_call_program X G hc1 (by decide)
    | 2, hk => exact Option.some.inj hk ▸ held_of c_call_run X G hc2 (by decide)
    | 3, hk => exact Option.some.inj hk ▸ held_of c_call_round X G hc3 (by decide)
    | 4, hk => exact Option.some.inj hk ▸ held_of c_call_settle X G hc4 (by decide)
    | 5, hk => exact Option.some.inj hk ▸ held_of c_call_stuck X G hc5 (by decide)
    | 6, hk => exact Option.some.inj hk ▸ held_of c_call_grow X G hc6 (by decide)
    | 7, hk => exact Option.some.inj hk ▸ held_of c_call_widen X G hc7 (by decide)
    | 8, hk => exact Option.some.inj hk ▸ held_of c_call_process X G hc8 (by decide)
    | 9, hk => exact Option.some.inj hk ▸ held_of c_call_said X G hc9 (by decide)
    | 10, hk => exact Option.some.inj hk ▸ held_of c_call_channel X G hc10 (by decide)
    | 11, hk => exact Option.some.inj hk ▸ held_of c_call_wrote X G hc11 (by decide)
    | 12, hk => exact Option.some.inj hk ▸ held_of c_call_counts X G hc12 (by decide)
    | _ + 13, hk => cases hk
  exact ok_answers FA T k_Calls k_Net m_is_done m_number hca
end Ro
end part_E1
section part_FIN
set_option linter.unusedVariables false
set_option maxRecDepth 100000
set_option maxHeartbeats 4000000
namespace Ro
open PySem PySem.Spec PyProof.Rows L2
open PySem.W (Codec)
theorem zI_of {l : List Int} (h : ∀ z ∈ l, 0 ≤ z) : zI (l.map Int.toNat) = l := by
  induction l with
  | nil => rfl
  | cons z l ih =>
    show ((z.toNat : Nat) : Int) :: zI (l.map Int.toNat) = z :: l
    rw [ih fun y hy => h y (List.mem_cons_of_mem _ hy), Int.toNat_of_nonneg (h z List.mem_cons_self)]
theorem vI_of {l : List Int} (h : ∀ z ∈ l, 0 ≤ z) : vI (l.map Int.toNat) = l.map V.int := by
  induction l with
  | nil => rfl
  | cons z l ih =>
    show V.int ((z.toNat : Nat) : Int) :: vI (l.map Int.toNat) = V.int z :: l.map V.int
    rw [ih fun y hy => h y (List.mem_cons_of_mem _ hy), Int.toNat_of_nonneg (h z List.mem_cons_self)]
theorem asks {K : PySem.W.Frag} {C : Cs} {P b : Addr} {H0 H : Hp} {l : List Int} {Q : VK} {E : XK} (sm : Same H0 H) (hP : H P = some (.tbl #[])) (hs : SqL K H0 b (l.map V.int)) (nn : ∀ z ∈ l, 0 ≤ z) (ha : PyHs09.answers_asked l = true)
    (q : ∀ (H' : Hp) (p : Addr), H' p = some (.lst ((PyHs09.answers l).map V.int)) → Q (.ref p) H') : sp_answers K C [(P, lamName)] [.ref b] H Q E := by
  refine ⟨b, l.map Int.toNat, rfl, by rw [vI_of nn]; exact sm.seq hs, by rw [zI_of nn]; exact ha, fun p hp => ?_, by rw [zI_of nn]; exact q⟩
  rw [List.mem_singleton.mp hp]
  exact LamX.TabS.nil hP
end Ro
open PySem PySem.W PyProof.Rows
set_option maxRecDepth 100000 in
set_option maxHeartbeats 8000000 in
theorem PySem.Challenge.cw_fullrooms_s01_answers_holds : PySem.Challenge.rw_fullrooms_s01_answers.Holds := by
  w_on; k_headS; (case hw => exact ⟨[.list [.int 12]], by decide +kernel, by decide +kernel⟩)
  k_fillS
  have key : ∃ (C : Ro.Cs) (fg cg Pg : Addr), (∀ w : World, Ro.Wr (PySem.Challenge.cw_fullrooms_s01_answers_holds.heap_1 w.params) C fg cg Pg) ∧ ∀ w : World, (PySem.Challenge.cw_fullrooms_s01_answers_holds.heap_1 w.params).lookup Pg = none := by
    refine' Ro.key_of (f := fun w => PySem.Challenge.cw_fullrooms_s01_answers_holds.heap_1 w.params) (fun w => ?zzW) (fun w => ?zzN)
    case zzW =>
      refine' Ro.Wr.of ?zz_c_Channel ?zz_n_writer ?zz_n_reader ?zz_n_room ?zz_n_written ?zz_n_taken ?zz_c_Process ?zz_n_program ?zz_n_place ?zz_n_registers ?zz_n_said ?zz_c_Net ?zz_n_processes ?zz_n_channels ?zz_n_steps ?zz_n_grown ?zz_c_Calls ?zz_n_numbers ?zz_n_at ?zz_d_channel_fits ?zz_d_channels_fit ?zz_d_is_source ?zz_d_is_target ?zz_d_number_fits ?zz_d_instruction_fits ?zz_d_instructions_fit ?zz_m_Channel_init ?zz_m_Channel_is_empty ?zz_m_Channel_is_full ?zz_m_Channel_take ?zz_m_Channel_put ?zz_m_Channel_on_it ?zz_m_Process_init ?zz_m_Process_begin ?zz_m_Process_is_at_end ?zz_m_Process_instruction ?zz_m_Net_init ?zz_m_Net_lay ?zz_m_Net_has_process ?zz_m_Net_process ?zz_m_Net_has_channel ?zz_m_Net_channel ?zz_d_how_stands ?zz_d_waited_channel ?zz_d_do_get ?zz_d_do_put ?zz_d_do_set ?zz_d_do_copy ?zz_d_do_plus ?zz_d_do_minus ?zz_d_do_times ?zz_d_do_jump ?zz_d_do_if_zero ?zz_d_do_if_less ?zz_d_do_say ?zz_d_do_step ?zz_d_do_steps ?zz_d_how_all_stand ?zz_d_channels_waited_to_write ?zz_d_do_round ?zz_d_settle_once ?zz_m_Calls_init ?zz_m_Calls_is_done ?zz_m_Calls_number ?zz_m_Calls_row ?zz_d_call_net ?zz_d_call_program ?zz_d_call_run ?zz_d_call_round ?zz_d_call_settle ?zz_d_call_stuck ?zz_d_call_grow ?zz_d_call_widen ?zz_d_call_process ?zz_d_call_said ?zz_d_call_channel ?zz_d_call_wrote ?zz_d_call_counts ?zz_d_answers ?zz_i_MOST_CHANNELS ?zz_i_MOST_ROOM ?zz_i_MOST_INSTRUCTIONS ?zz_i_LAST_REGISTER ?zz_i_MOST_VALUE ?zz_i_CAN_STEP ?zz_i_AT_END ?zz_i_WAITS_TO_READ ?zz_i_WAITS_TO_WRITE ?zz_i_GET ?zz_i_PUT ?zz_i_MODULUS ?zz_i_MOST_PROCESSES ?zz_i_MOST_RUN ?zz_i_MOST_ROUND ?zz_i_MOST_SETTLE ?zz_i_MOST_WIDENED ?zz_z_len ?zz_z_range ?zz_z_min ?zz_grow ?zz_kinds ?zz_kindsT ?zz_s_wk0 ?zz_s_wk1 ?zz_s_wk2 ?zz_s_wk3 ?zz_s_wk4 ?zz_s_wk5 ?zz_s_wk6 ?zz_s_wk7 ?zz_s_wk8 ?zz_s_wk9 ?zz_s_wk10 ?zz_doings ?zz_doingsT ?zz_s_wd0 ?zz_s_wd1 ?zz_s_wd2 ?zz_s_wd3 ?zz_s_wd4 ?zz_s_wd5 ?zz_s_wd6 ?zz_s_wd7 ?zz_s_wd8 ?zz_s_wd9 ?zz_s_wd10 ?zz_table ?zz_tableT ?zz_s_wa0 ?zz_s_wa1 ?zz_s_wa2 ?zz_s_wa3 ?zz_s_wa4 ?zz_s_wa5 ?zz_s_wa6 ?zz_s_wa7 ?zz_s_wa8 ?zz_s_wa9 ?zz_s_wa10 ?zz_s_wa11 ?zz_s_wa12
      case zz_c_Channel => refine' ⟨?zzns1, ?zzpg1, ?zzhd1, ?zzpo1, ?zzsa1, ?zzma1, ?zzkc1⟩; (case zzns1 => k_is); (case zzpg1 => k_is); (case zzhd1 => k_is); (case zzpo1 => k_is); (case zzsa1 => k_is); (case zzma1 => k_is); (case zzkc1 => k_is)
      case zz_n_writer => k_is
      case zz_n_reader => k_is
      case zz_n_room => k_is
      case zz_n_written => k_is
      case zz_n_taken => k_is
      case zz_c_Process => refine' ⟨?zzns7, ?zzpg7, ?zzhd7, ?zzpo7, ?zzsa7, ?zzma7, ?zzkc7⟩; (case zzns7 => k_is); (case zzpg7 => k_is); (case zzhd7 => k_is); (case zzpo7 => k_is); (case zzsa7 => k_is); (case zzma7 => k_is); (case zzkc7 => k_is)
      case zz_n_program => k_is
      case zz_n_place => k_is
      case zz_n_registers => k_is
      case zz_n_said => k_is
      case zz_c_Net => refine' ⟨?zzns12, ?zzpg12, ?zzhd12, ?zzpo12, ?zzsa12, ?zzma12, ?zzkc12⟩; (case zzns12 => k_is); (case zzpg12 => k_is); (case zzhd12 => k_is); (case zzpo12 => k_is); (case zzsa12 => k_is); (case zzma12 => k_is); (case zzkc12 => k_is)
      case zz_n_processes => k_is
      case zz_n_channels => k_is
      case zz_n_steps => k_is
      case zz_n_grown => k_is
      case zz_c_Calls => refine' ⟨?zzns17, ?zzpg17, ?zzhd17, ?zzpo17, ?zzsa17, ?zzma17, ?zzkc17⟩; (case zzns17 => k_is); (case zzpg17 => k_is); (case zzhd17 => k_is); (case zzpo17 => k_is); (case zzsa17 => k_is); (case zzma17 => k_is); (case zzkc17 => k_is)
      case zz_n_numbers => k_is
      case zz_n_at => k_is
      case zz_d_channel_fits => refine' Ro.DefIn.mk ?zza20 ?zzl20 ?zzc20 ?zzk20; (case zza20 => k_is); (case zzl20 => k_is); (case zzc20 => k_is); (case zzk20 => k_is)
      case zz_d_channels_fit => refine' Ro.DefIn.mk ?zza21 ?zzl21 ?zzc21 ?zzk21; (case zza21 => k_is); (case zzl21 => k_is); (case zzc21 => k_is); (case zzk21 => k_is)
      case zz_d_is_source => refine' Ro.DefIn.mk ?zza22 ?zzl22 ?zzc22 ?zzk22; (case zza22 => k_is); (case zzl22 => k_is); (case zzc22 => k_is); (case zzk22 => k_is)
      case zz_d_is_target => refine' Ro.DefIn.mk ?zza23 ?zzl23 ?zzc23 ?zzk23; (case zza23 => k_is); (case zzl23 => k_is); (case zzc23 => k_is); (case zzk23 => k_is)
      case zz_d_number_fits => refine' Ro.DefIn.mk ?zza24 ?zzl24 ?zzc24 ?zzk24; (case zza24 => k_is); (case zzl24 => k_is); (case zzc24 => k_is); (case zzk24 => k_is)
      case zz_d_instruction_fits => refine' Ro.DefIn.mk ?zza25 ?zzl25 ?zzc25 ?zzk25; (case zza25 => k_is); (case zzl25 => k_is); (case zzc25 => k_is); (case zzk25 => k_is)
      case zz_d_instructions_fit => refine' Ro.DefIn.mk ?zza26 ?zzl26 ?zzc26 ?zzk26; (case zza26 => k_is); (case zzl26 => k_is); (case zzc26 => k_is); (case zzk26 => k_is)
      case zz_m_Channel_init => refine' Ro.MethIn.mk ?zza27 ?zzi27 ?zzl27 ?zzc27 ?zzk27; (case zza27 => k_is); (case zzi27 => k_is); (case zzl27 => k_is); (case zzc27 => k_is); (case zzk27 => k_is)
      case zz_m_Channel_is_empty => refine' Ro.MethIn.mk ?zza28 ?zzi28 ?zzl28 ?zzc28 ?zzk28; (case zza28 => k_is); (case zzi28 => k_is); (case zzl28 => k_is); (case zzc28 => k_is); (case zzk28 => k_is)
      case zz_m_Channel_is_full => refine' Ro.MethIn.mk ?zza29 ?zzi29 ?zzl29 ?zzc29 ?zzk29; (case zza29 => k_is); (case zzi29 => k_is); (case zzl29 => k_is); (case zzc29 => k_is); (case zzk29 => k_is)
      case zz_m_Channel_take => refine' Ro.MethIn.mk ?zza30 ?zzi30 ?zzl30 ?zzc30 ?zzk30; (case zza30 => k_is); (case zzi30 => k_is); (case zzl30 => k_is); (case zzc30 => k_is); (case zzk30 => k_is)
      case zz_m_Channel_put => refine' Ro.MethIn.mk ?zza31 ?zzi31 ?zzl31 ?zzc31 ?zzk31; (case zza31 => k_is); (case zzi31 => k_is); (case zzl31 => k_is); (case zzc31 => k_is); (case zzk31 => k_is)
      case zz_m_Channel_on_it => refine' Ro.MethIn.mk ?zza32 ?zzi32 ?zzl32 ?zzc32 ?zzk32; (case zza32 => k_is); (case zzi32 => k_is); (case zzl32 => k_is); (case zzc32 => k_is); (case zzk32 => k_is)
      case zz_m_Process_init => refine' Ro.MethIn.mk ?zza33 ?zzi33 ?zzl33 ?zzc33 ?zzk33; (case zza33 => k_is); (case zzi33 => k_is); (case zzl33 => k_is); (case zzc33 => k_is); (case zzk33 => k_is)
      case zz_m_Process_begin => refine' Ro.MethIn.mk ?zza34 ?zzi34 ?zzl34 ?zzc34 ?zzk34; (case zza34 => k_is); (case zzi34 => k_is); (case zzl34 => k_is); (case zzc34 => k_is); (case zzk34 => k_is)
      case zz_m_Process_is_at_end => refine' Ro.MethIn.mk ?zza35 ?zzi35 ?zzl35 ?zzc35 ?zzk35; (case zza35 => k_is); (case zzi35 => k_is); (case zzl35 => k_is); (case zzc35 => k_is); (case zzk35 => k_is)
      case zz_m_Process_instruction => refine' Ro.MethIn.mk ?zza36 ?zzi36 ?zzl36 ?zzc36 ?zzk36; (case zza36 => k_is); (case zzi36 => k_is); (case zzl36 => k_is); (case zzc36 => k_is); (case zzk36 => k_is)
      case zz_m_Net_init => refine' Ro.MethIn.mk ?zza37 ?zzi37 ?zzl37 ?zzc37 ?zzk37; (case zza37 => k_is); (case zzi37 => k_is); (case zzl37 => k_is); (case zzc37 => k_is); (case zzk37 => k_is)
      case zz_m_Net_lay => refine' Ro.MethIn.mk ?zza38 ?zzi38 ?zzl38 ?zzc38 ?zzk38; (case zza38 => k_is); (case zzi38 => k_is); (case zzl38 => k_is); (case zzc38 => k_is); (case zzk38 => k_is)
      case zz_m_Net_has_process => refine' Ro.MethIn.mk ?zza39 ?zzi39 ?zzl39 ?zzc39 ?zzk39; (case zza39 => k_is); (case zzi39 => k_is); (case zzl39 => k_is); (case zzc39 => k_is); (case zzk39 => k_is)
      case zz_m_Net_process => refine' Ro.MethIn.mk ?zza40 ?zzi40 ?zzl40 ?zzc40 ?zzk40; (case zza40 => k_is); (case zzi40 => k_is); (case zzl40 => k_is); (case zzc40 => k_is); (case zzk40 => k_is)
      case zz_m_Net_has_channel => refine' Ro.MethIn.mk ?zza41 ?zzi41 ?zzl41 ?zzc41 ?zzk41; (case zza41 => k_is); (case zzi41 => k_is); (case zzl41 => k_is); (case zzc41 => k_is); (case zzk41 => k_is)
      case zz_m_Net_channel => refine' Ro.MethIn.mk ?zza42 ?zzi42 ?zzl42 ?zzc42 ?zzk42; (case zza42 => k_is); (case zzi42 => k_is); (case zzl42 => k_is); (case zzc42 => k_is); (case zzk42 => k_is)
      case zz_d_how_stands => refine' Ro.DefIn.mk ?zza43 ?zzl43 ?zzc43 ?zzk43; (case zza43 => k_is); (case zzl43 => k_is); (case zzc43 => k_is); (case zzk43 => k_is)
      case zz_d_waited_channel => refine' Ro.DefIn.mk ?zza44 ?zzl44 ?zzc44 ?zzk44; (case zza44 => k_is); (case zzl44 => k_is); (case zzc44 => k_is); (case zzk44 => k_is)
      case zz_d_do_get => refine' Ro.DefIn.mk ?zza45 ?zzl45 ?zzc45 ?zzk45; (case zza45 => k_is); (case zzl45 => k_is); (case zzc45 => k_is); (case zzk45 => k_is)
      case zz_d_do_put => refine' Ro.DefIn.mk ?zza46 ?zzl46 ?zzc46 ?zzk46; (case zza46 => k_is); (case zzl46 => k_is); (case zzc46 => k_is); (case zzk46 => k_is)
      case zz_d_do_set => refine' Ro.DefIn.mk ?zza47 ?zzl47 ?zzc47 ?zzk47; (case zza47 => k_is); (case zzl47 => k_is); (case zzc47 => k_is); (case zzk47 => k_is)
      case zz_d_do_copy => refine' Ro.DefIn.mk ?zza48 ?zzl48 ?zzc48 ?zzk48; (case zza48 => k_is); (case zzl48 => k_is); (case zzc48 => k_is); (case zzk48 => k_is)
      case zz_d_do_plus => refine' Ro.DefIn.mk ?zza49 ?zzl49 ?zzc49 ?zzk49; (case zza49 => k_is); (case zzl49 => k_is); (case zzc49 => k_is); (case zzk49 => k_is)
      case zz_d_do_minus => refine' Ro.DefIn.mk ?zza50 ?zzl50 ?zzc50 ?zzk50; (case zza50 => k_is); (case zzl50 => k_is); (case zzc50 => k_is); (case zzk50 => k_is)
      case zz_d_do_times => refine' Ro.DefIn.mk ?zza51 ?zzl51 ?zzc51 ?zzk51; (case zza51 => k_is); (case zzl51 => k_is); (case zzc51 => k_is); (case zzk51 => k_is)
      case zz_d_do_jump => refine' Ro.DefIn.mk ?zza52 ?zzl52 ?zzc52 ?zzk52; (case zza52 => k_is); (case zzl52 => k_is); (case zzc52 => k_is); (case zzk52 => k_is)
      case zz_d_do_if_zero => refine' Ro.DefIn.mk ?zza53 ?zzl53 ?zzc53 ?zzk53; (case zza53 => k_is); (case zzl53 => k_is); (case zzc53 => k_is); (case zzk53 => k_is)
      case zz_d_do_if_less => refine' Ro.DefIn.mk ?zza54 ?zzl54 ?zzc54 ?zzk54; (case zza54 => k_is); (case zzl54 => k_is); (case zzc54 => k_is); (case zzk54 => k_is)
      case zz_d_do_say => refine' Ro.DefIn.mk ?zza55 ?zzl55 ?zzc55 ?zzk55; (case zza55 => k_is); (case zzl55 => k_is); (case zzc55 => k_is); (case zzk55 => k_is)
      case zz_d_do_step => refine' Ro.DefIn.mk ?zza56 ?zzl56 ?zzc56 ?zzk56; (case zza56 => k_is); (case zzl56 => k_is); (case zzc56 => k_is); (case zzk56 => k_is)
      case zz_d_do_steps => refine' Ro.DefIn.mk ?zza57 ?zzl57 ?zzc57 ?zzk57; (case zza57 => k_is); (case zzl57 => k_is); (case zzc57 => k_is); (case zzk57 => k_is)
      case zz_d_how_all_stand => refine' Ro.DefIn.mk ?zza58 ?zzl58 ?zzc58 ?zzk58; (case zza58 => k_is); (case zzl58 => k_is); (case zzc58 => k_is); (case zzk58 => k_is)
      case zz_d_channels_waited_to_write => refine' Ro.DefIn.mk ?zza59 ?zzl59 ?zzc59 ?zzk59; (case zza59 => k_is); (case zzl59 => k_is); (case zzc59 => k_is); (case zzk59 => k_is)
      case zz_d_do_round => refine' Ro.DefIn.mk ?zza60 ?zzl60 ?zzc60 ?zzk60; (case zza60 => k_is); (case zzl60 => k_is); (case zzc60 => k_is); (case zzk60 => k_is)
      case zz_d_settle_once => refine' Ro.DefIn.mk ?zza61 ?zzl61 ?zzc61 ?zzk61; (case zza61 => k_is); (case zzl61 => k_is); (case zzc61 => k_is); (case zzk61 => k_is)
      case zz_m_Calls_init => refine' Ro.MethIn.mk ?zza62 ?zzi62 ?zzl62 ?zzc62 ?zzk62; (case zza62 => k_is); (case zzi62 => k_is); (case zzl62 => k_is); (case zzc62 => k_is); (case zzk62 => k_is)
      case zz_m_Calls_is_done => refine' Ro.MethIn.mk ?zza63 ?zzi63 ?zzl63 ?zzc63 ?zzk63; (case zza63 => k_is); (case zzi63 => k_is); (case zzl63 => k_is); (case zzc63 => k_is); (case zzk63 => k_is)
      case zz_m_Calls_number => refine' Ro.MethIn.mk ?zza64 ?zzi64 ?zzl64 ?zzc64 ?zzk64; (case zza64 => k_is); (case zzi64 => k_is); (case zzl64 => k_is); (case zzc64 => k_is); (case zzk64 => k_is)
      case zz_m_Calls_row => refine' Ro.MethIn.mk ?zza65 ?zzi65 ?zzl65 ?zzc65 ?zzk65; (case zza65 => k_is); (case zzi65 => k_is); (case zzl65 => k_is); (case zzc65 => k_is); (case zzk65 => k_is)
      case zz_d_call_net => refine' Ro.DefIn.mk ?zza66 ?zzl66 ?zzc66 ?zzk66; (case zza66 => k_is); (case zzl66 => k_is); (case zzc66 => k_is); (case zzk66 => k_is)
      case zz_d_call_program => refine' Ro.DefIn.mk ?zza67 ?zzl67 ?zzc67 ?zzk67; (case zza67 => k_is); (case zzl67 => k_is); (case zzc67 => k_is); (case zzk67 => k_is)
      case zz_d_call_run => refine' Ro.DefIn.mk ?zza68 ?zzl68 ?zzc68 ?zzk68; (case zza68 => k_is); (case zzl68 => k_is); (case zzc68 => k_is); (case zzk68 => k_is)
      case zz_d_call_round => refine' Ro.DefIn.mk ?zza69 ?zzl69 ?zzc69 ?zzk69; (case zza69 => k_is); (case zzl69 => k_is); (case zzc69 => k_is); (case zzk69 => k_is)
      case zz_d_call_settle => refine' Ro.DefIn.mk ?zza70 ?zzl70 ?zzc70 ?zzk70; (case zza70 => k_is); (case zzl70 => k_is); (case zzc70 => k_is); (case zzk70 => k_is)
      case zz_d_call_stuck => refine' Ro.DefIn.mk ?zza71 ?zzl71 ?zzc71 ?zzk71; (case zza71 => k_is); (case zzl71 => k_is); (case zzc71 => k_is); (case zzk71 => k_is)
      case zz_d_call_grow => refine' Ro.DefIn.mk ?zza72 ?zzl72 ?zzc72 ?zzk72; (case zza72 => k_is); (case zzl72 => k_is); (case zzc72 => k_is); (case zzk72 => k_is)
      case zz_d_call_widen => refine' Ro.DefIn.mk ?zza73 ?zzl73 ?zzc73 ?zzk73; (case zza73 => k_is); (case zzl73 => k_is); (case zzc73 => k_is); (case zzk73 => k_is)
      case zz_d_call_process => refine' Ro.DefIn.mk ?zza74 ?zzl74 ?zzc74 ?zzk74; (case zza74 => k_is); (case zzl74 => k_is); (case zzc74 => k_is); (case zzk74 => k_is)
      case zz_d_call_said => refine' Ro.DefIn.mk ?zza75 ?zzl75 ?zzc75 ?zzk75; (case zza75 => k_is); (case zzl75 => k_is); (case zzc75 => k_is); (case zzk75 => k_is)
      case zz_d_call_channel => refine' Ro.DefIn.mk ?zza76 ?zzl76 ?zzc76 ?zzk76; (case zza76 => k_is); (case zzl76 => k_is); (case zzc76 => k_is); (case zzk76 => k_is)
      case zz_d_call_wrote => refine' Ro.DefIn.mk ?zza77 ?zzl77 ?zzc77 ?zzk77; (case zza77 => k_is); (case zzl77 => k_is); (case zzc77 => k_is); (case zzk77 => k_is)
      case zz_d_call_counts => refine' Ro.DefIn.mk ?zza78 ?zzl78 ?zzc78 ?zzk78; (case zza78 => k_is); (case zzl78 => k_is); (case zzc78 => k_is); (case zzk78 => k_is)
      case zz_d_answers => refine' Ro.DefIn.mk ?zza79 ?zzl79 ?zzc79 ?zzk79; (case zza79 => k_is); (case zzl79 => k_is); (case zzc79 => k_is); (case zzk79 => k_is)
      case zz_i_MOST_CHANNELS => refine' Ro.IntIn.mk ?zza80; (case zza80 => k_is)
      case zz_i_MOST_ROOM => refine' Ro.IntIn.mk ?zza81; (case zza81 => k_is)
      case zz_i_MOST_INSTRUCTIONS => refine' Ro.IntIn.mk ?zza82; (case zza82 => k_is)
      case zz_i_LAST_REGISTER => refine' Ro.IntIn.mk ?zza83; (case zza83 => k_is)
      case zz_i_MOST_VALUE => refine' Ro.IntIn.mk ?zza84; (case zza84 => k_is)
      case zz_i_CAN_STEP => refine' Ro.IntIn.mk ?zza85; (case zza85 => k_is)
      case zz_i_AT_END => refine' Ro.IntIn.mk ?zza86; (case zza86 => k_is)
      case zz_i_WAITS_TO_READ => refine' Ro.IntIn.mk ?zza87; (case zza87 => k_is)
      case zz_i_WAITS_TO_WRITE => refine' Ro.IntIn.mk ?zza88; (case zza88 => k_is)
      case zz_i_GET => refine' Ro.IntIn.mk ?zza89; (case zza89 => k_is)
      case zz_i_PUT => refine' Ro.IntIn.mk ?zza90; (case zza90 => k_is)
      case zz_i_MODULUS => refine' Ro.IntIn.mk ?zza91; (case zza91 => k_is)
      case zz_i_MOST_PROCESSES => refine' Ro.IntIn.mk ?zza92; (case zza92 => k_is)
      case zz_i_MOST_RUN => refine' Ro.IntIn.mk ?zza93; (case zza93 => k_is)
      case zz_i_MOST_ROUND => refine' Ro.IntIn.mk ?zza94; (case zza94 => k_is)
      case zz_i_MOST_SETTLE => refine' Ro.IntIn.mk ?zza95; (case zza95 => k_is)
      case zz_i_MOST_WIDENED => refine' Ro.IntIn.mk ?zza96; (case zza96 => k_is)
      case zz_z_len => k_is
      case zz_z_range => k_is
      case zz_z_min => k_is
      case zz_grow => refine' Ro.CodeAt.mk ?zza100 ?zzl100 ?zzc100 ?zzk100 ?zzm100 ?zzt100; (case zza100 => k_is); (case zzl100 => k_is); (case zzc100 => k_is); (case zzk100 => k_is); (case zzm100 => k_is); (case zzt100 => rfl)
      case zz_kinds => k_is
      case zz_kindsT => refine' Ro.TupAt.mk ?zzl102; (case zzl102 => k_is)
      case zz_s_wk0 => refine' Ro.StrsIn.mk ?zzl103; (case zzl103 => k_is)
      case zz_s_wk1 => refine' Ro.StrsIn.mk ?zzl104; (case zzl104 => k_is)
      case zz_s_wk2 => refine' Ro.StrsIn.mk ?zzl105; (case zzl105 => k_is)
      case zz_s_wk3 => refine' Ro.StrsIn.mk ?zzl106; (case zzl106 => k_is)
      case zz_s_wk4 => refine' Ro.StrsIn.mk ?zzl107; (case zzl107 => k_is)
      case zz_s_wk5 => refine' Ro.StrsIn.mk ?zzl108; (case zzl108 => k_is)
      case zz_s_wk6 => refine' Ro.StrsIn.mk ?zzl109; (case zzl109 => k_is)
      case zz_s_wk7 => refine' Ro.StrsIn.mk ?zzl110; (case zzl110 => k_is)
      case zz_s_wk8 => refine' Ro.StrsIn.mk ?zzl111; (case zzl111 => k_is)
      case zz_s_wk9 => refine' Ro.StrsIn.mk ?zzl112; (case zzl112 => k_is)
      case zz_s_wk10 => refine' Ro.StrsIn.mk ?zzl113; (case zzl113 => k_is)
      case zz_doings => k_is
      case zz_doingsT => refine' Ro.TupAt.mk ?zzl115; (case zzl115 => k_is)
      case zz_s_wd0 => k_is
      case zz_s_wd1 => k_is
      case zz_s_wd2 => k_is
      case zz_s_wd3 => k_is
      case zz_s_wd4 => k_is
      case zz_s_wd5 => k_is
      case zz_s_wd6 => k_is
      case zz_s_wd7 => k_is
      case zz_s_wd8 => k_is
      case zz_s_wd9 => k_is
      case zz_s_wd10 => k_is
      case zz_table => k_is
      case zz_tableT => refine' Ro.TupAt.mk ?zzl128; (case zzl128 => k_is)
      case zz_s_wa0 => k_is
      case zz_s_wa1 => k_is
      case zz_s_wa2 => k_is
      case zz_s_wa3 => k_is
      case zz_s_wa4 => k_is
      case zz_s_wa5 => k_is
      case zz_s_wa6 => k_is
      case zz_s_wa7 => k_is
      case zz_s_wa8 => k_is
      case zz_s_wa9 => k_is
      case zz_s_wa10 => k_is
      case zz_s_wa11 => k_is
      case zz_s_wa12 => k_is
    case zzN => first | kernel_rfl | rfl
  obtain ⟨C, fg, cg, Pg, hW, hN⟩ := key
  refine Ro.walk_tab (r := PySem.Challenge.rw_fullrooms_s01_answers) (k := 8) (ps := ["calls"]) (x := "grow") (tb := (cg, Pg)) (sp := fun K => Ro.sp_answers K C [(Pg, Ro.lamName)]) (by decide +kernel) rfl rfl ⟨rfl, by decide, by decide⟩ (fun w h Y => PySem.W.kIn_of Y) (by decide +kernel) (fun w => (hW w).grow.tab) hN ?F ?S
  case F =>
    intro w mg fa h Y KX G hmg
    exact Ro.all_mk KX G hmg (hW w)
  case S =>
    intro K H0 H xs a sm hP hwi hask hx
    cases hx with
    | cons h1 h2 =>
      cases h2
      cases h1 with
      | lst hs ha =>
        have e := L2.ints_dw a.1 _ ha
        subst e
        have q : ((Codec.inLen 0 6500 a.1 && a.1.all (Codec.inInt 0 4294967295)) && true) = true := hwi
        rw [Bool.and_eq_true, Bool.and_eq_true] at q
        exact Ro.asks sm hP hs (fun z hz => (Codec.inInt_iff.mp (List.all_eq_true.mp q.1.2 z hz)).1) hask fun H' p hp => .lst (L2.SqL.of hp) (L2.dw_ints _)
#print axioms PySem.Challenge.cw_fullrooms_s01_answers_holds
end part_FIN
