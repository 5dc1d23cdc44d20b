/- The program's line behind a pointer: container/heap's up over it. The list of places no longer than a million. -/
import Derived.Test.YtgncjcnobojgbaaPSwap
namespace Go.Proofs.Ytgncjcnobojgbaa
open Go.RowKit
set_option linter.unusedVariables false

theorem run_typeInfo' {P : Program} {w : World} {t : TypeId} {i : TypeInfo} (h : P.info? t = some i) : (typeInfo t).run P w = .ok i w := by
  simp only [typeInfo, Sem.run_bind]
  show Sem.run P (match P.info? t with | some i => pure i | none => stuck "no such type") w = _
  rw [h]; rfl
theorem run_asAddr' {P : Program} (a : Addr) (w : World) : (asAddr (.pointer (some a))).run P w = .ok a w := rfl
theorem run_wrap' {P : Program} (ts : Array TypeId) (t : TypeId) (a : Addr) (s1 s2 : String) (w : World) : (Builtin.ssaWrapNilChk_ ts t #[.pointer (some a), strVal s1, strVal s2]).run P w = .ok (.pointer (some a)) w := rfl
/-- A method of a type, asked of a pointer to it behind an interface: the value is loaded. -/
theorem run_method_ptr {P : Program} (fuel : Nat) (T E : TypeId) (name : String) (f : FuncId) (v : Value) (lb : Nat) (w : World)
    (hm : ((P.info? T).bind (fun i => i.methods.find? (·.name == name))).map (fun m => (m.path, m.func)) = some (#[], some (f, false)))
    (hu : P.underlying T = some (.pointer E)) (hE : (loadVar E ⟨lb, 0, none⟩).run P w = .ok v w) :
    Sem.run P (method (fuel + 1) T (.pointer (some ⟨lb, 0, none⟩)) name) w = .ok (f, v) w := by
  cases hi : P.info? T with
  | none => rw [hi] at hm; cases hm
  | some i =>
    rw [hi] at hm
    simp only [Option.bind_some] at hm
    cases hf : i.methods.find? (·.name == name) with
    | none => rw [hf] at hm; cases hm
    | some m =>
      rw [hf] at hm
      simp only [Option.map_some, Option.some.injEq, Prod.mk.injEq] at hm
      unfold method
      simp only [Sem.run_bind, run_typeInfo' hi, Result.andThen_ok, hf, hm.1, hm.2, follow, Sem.run_pure, receiverAt, run_underlying hu, Place.get, List.size_toArray, List.length_nil, decide_true, if_true, Array.isEmpty, run_wrap', run_asAddr', hE]
theorem inv_line (name : String) (f : FuncId) (hm : ((Try.prog.info? 93).bind (fun i => i.methods.find? (·.name == name))).map (fun m => (m.path, m.func)) = some (#[], some (f, false))) (fuel lb : Nat) (A : Option Addr) (n c : Nat) (w : World) (hc : w.cell? ⟨lb, 0, none⟩ = some (.slice A n c)) :
    Sem.run Try.prog (method (fuel + 1) 93 (.pointer (some ⟨lb, 0, none⟩)) name) w = .ok (f, .slice A n c) w :=
  run_method_ptr fuel 93 132 name f _ lb w hm (by kernel_rfl) (by simp [loadVar, isAgg, run_underlying (show Try.prog.underlying 132 = some (.slice 135) from by kernel_rfl), hc])
theorem inv_less (fuel lb : Nat) (A : Option Addr) (n c : Nat) (w : World) (hc : w.cell? ⟨lb, 0, none⟩ = some (.slice A n c)) :
    Sem.run Try.prog (method (fuel + 1) 93 (.pointer (some ⟨lb, 0, none⟩)) "Less") w = .ok (189, .slice A n c) w := inv_line _ _ (by kernel_rfl) fuel lb A n c w hc
theorem inv_swap (fuel lb : Nat) (A : Option Addr) (n c : Nat) (w : World) (hc : w.cell? ⟨lb, 0, none⟩ = some (.slice A n c)) :
    Sem.run Try.prog (method (fuel + 1) 93 (.pointer (some ⟨lb, 0, none⟩)) "Swap") w = .ok (192, .slice A n c) w := inv_line _ _ (by kernel_rfl) fuel lb A n c w hc
theorem inv_len (fuel lb : Nat) (A : Option Addr) (n c : Nat) (w : World) (hc : w.cell? ⟨lb, 0, none⟩ = some (.slice A n c)) :
    Sem.run Try.prog (method (fuel + 1) 93 (.pointer (some ⟨lb, 0, none⟩)) "Len") w = .ok (117, .slice A n c) w := inv_line _ _ (by kernel_rfl) fuel lb A n c w hc
/-- A method of a pointer's own: the pointer. -/
theorem run_method_own {P : Program} (fuel : Nat) (T E : TypeId) (name : String) (f : FuncId) (lb : Nat) (w : World)
    (hm : ((P.info? T).bind (fun i => i.methods.find? (·.name == name))).map (fun m => (m.path, m.func)) = some (#[], some (f, true)))
    (hu : P.underlying T = some (.pointer E)) :
    Sem.run P (method (fuel + 1) T (.pointer (some ⟨lb, 0, none⟩)) name) w = .ok (f, .pointer (some ⟨lb, 0, none⟩)) w := by
  cases hi : P.info? T with
  | none => rw [hi] at hm; cases hm
  | some i =>
    rw [hi] at hm
    simp only [Option.bind_some] at hm
    cases hf : i.methods.find? (·.name == name) with
    | none => rw [hf] at hm; cases hm
    | some m =>
      rw [hf] at hm
      simp only [Option.map_some, Option.some.injEq, Prod.mk.injEq] at hm
      unfold method
      simp only [Sem.run_bind, run_typeInfo' hi, Result.andThen_ok, hf, hm.1, hm.2, follow, Sem.run_pure, receiverAt, run_underlying hu, Place.get]
theorem inv_pop (fuel lb : Nat) (w : World) :
    Sem.run Try.prog (method (fuel + 1) 93 (.pointer (some ⟨lb, 0, none⟩)) "Pop") w = .ok (190, .pointer (some ⟨lb, 0, none⟩)) w := run_method_own fuel 93 132 _ _ lb w (by kernel_rfl) (by kernel_rfl)

/-- A line behind a pointer: its variable, and its places. -/
def lineL (lb : Nat) (A : Option Addr) (c : Nat) (ps : List P3) : List Res := [.blk lb 132 #[.slice A ps.length c], rP ps.length A c ps]
/-- The line lies in w. -/
def LineIn (w : World) (lb : Nat) (A : Option Addr) (c : Nat) (ps : List P3) : Prop := Sep (fps (lineL lb A c ps)) w w (lineL lb A c ps)
def lineV (lb : Nat) : Value := .iface 93 (.pointer (some ⟨lb, 0, none⟩))
theorem LineIn.of {S : List Nat} {w W : World} {lb : Nat} {A : Option Addr} {c : Nat} {ps : List P3} {rs : List Res} (M : Sep S w W (lineL lb A c ps ++ rs)) : LineIn W lb A c ps := Sep.same M (Below.refl _ _)
/-- Two places of the line change places. -/
theorem Sep.swapped {S : List Nat} {w W W' : World} {lb : Nat} {A : Option Addr} {c : Nat} {ps : List P3} {i j : Nat} (M : Sep S w W (lineL lb A c ps)) (k : Sep (fps [rP ps.length A c ps]) W W' [rP ps.length A c (swapL ps i j)]) : Sep S w W' (lineL lb A c (swapL ps i j)) := by
  have h := Sep.comp (ps := [rP ps.length A c ps]) (rs := [.blk lb 132 #[.slice A ps.length c]]) (M.front 1 rfl) k
  have h2 := h.front 1 rfl
  unfold lineL
  rw [swapL_length]
  exact h2

set_option maxRecDepth 100000 in
set_option maxHeartbeats 4000000 in
theorem up_any (ps : List P3) (lb : Nat) (A : Option Addr) (c j : Nat) (hj : j < ps.length) (hl : ps.length ≤ 1048576) (w : World) (hh : HeapUp ps j) (h : LineIn w lb A c ps) :
    Calls Try.prog 154 #[lineV lb, .int .i64 j] w fun r w' => (∃ v, r = .returned v) ∧ ∃ qs : List P3, qs.length = ps.length ∧ qs.Perm ps ∧ HeapL qs ∧ Sep (fps (lineL lb A c ps)) w w' (lineL lb A c qs) := by
  unfold lineV
  have H := hide (⟨hh, h⟩ : _ ∧ _)
  clear hh h
  go_enter Try.func154, Try.ntmps154
  go_wp2_with fail
  go_loopw [1] (fun i wr => ∃ (j : Nat) (qs : List P3), i = .int .i64 j ∧ j < qs.length ∧ Hid (qs.Perm ps ∧ HeapUp qs j) ∧ Sep (fps (lineL lb A c ps)) w wr (lineL lb A c qs)) (fun i _ => (intOf i).toNat)
  case atStart => exact ⟨j, ps, rfl, hj, hide ⟨List.Perm.refl _, H.out.1⟩, H.out.2⟩
  case round =>
    clear H hj
    obtain ⟨j, qs, rfl, hj, HP, M⟩ := hrel
    have hql : qs.length ≤ 1048576 := by rw [HP.out.1.length_eq]; exact hl
    have qL : wr.cell? ⟨lb, 0, none⟩ = some (.slice A qs.length c) := M.cell 0 0 rfl
    by_cases h0 : j = 0
    · subst h0
      go_wp2_with fail
      go_end0
      exact ⟨⟨_, rfl⟩, qs, HP.out.1.length_eq, HP.out.1, HP.out.2.zero, M⟩
    · have hq : ((j : Int) - 1) / 2 = (par j : Int) := by unfold par; omega
      have hne : ¬ (par j : Int) = (j : Int) := by unfold par; omega
      have hpl : par j < j := par_lt (by omega)
      go_wp2_with fail
      rw [inv_less _ lb A qs.length c _ qL]
      go_wp2_with fail
      go_call (less_any qs A c j (par j) hj (by omega) (by omega) _ (M.rowS 1 rfl)) as r W1 ⟨rfl, g1⟩
      replace M := M.call g1
      clear qL
      have qL : W1.cell? ⟨lb, 0, none⟩ = some (.slice A qs.length c) := M.cell 0 0 rfl
      obtain ⟨bb, hbb⟩ : ∃ bb, bb = aheadP qs[j] qs[par j] := ⟨_, rfl⟩
      rw [← hbb]
      have HB := hide hbb
      clear hbb
      cases bb
      · go_wp2_with fail
        go_end0
        refine ⟨⟨_, rfl⟩, qs, HP.out.1.length_eq, HP.out.1, HP.out.2.done ?_, M⟩
        unfold at3
        rw [getD3 hj, getD3 (by omega)]
        exact HB.out.symm
      · go_wp2_with fail
        rw [inv_swap _ lb A qs.length c _ qL]
        go_wp2_with fail
        go_call (swap_any qs A c (par j) j (by omega) hj (by omega) _ (M.rowAt 1 rfl)) as r W2 ⟨⟨v, rfl⟩, g2⟩
        replace M := M.swapped g2
        clear qL
        go_wp2_with fail
        go_roundw
        · refine ⟨par j, swapL qs (par j) j, by go_num, by rw [swapL_length]; omega, hide ⟨(swapL_perm (by omega) hj).trans HP.out.1, HP.out.2.swap (by omega) hj ?_⟩, M⟩
          unfold at3
          rw [getD3 hj, getD3 (by omega)]
          exact HB.out.symm
        · simp [intOf]; omega
end Go.Proofs.Ytgncjcnobojgbaa
