/- Lives of the program: giving up by a panic, and the deferred function that catches it at the face. Lists no longer than a million. -/
import Derived.Defers
import Derived.Recover
import Derived.Test.YtgncjcnobojgbaaGWoken
namespace Go.Proofs.Ytgncjcnobojgbaa
open Go.RowKit
set_option linter.unusedVariables false

set_option maxRecDepth 100000 in
set_option maxHeartbeats 400000 in
theorem giveUp_no (rp : Int) (w : World) :
    Calls Try.prog 130 #[.bool false, .int .i64 rp] w fun r w' => r = .returned (.tuple #[]) ∧ w = w' := by
  go_enter Try.func130, Try.ntmps130
  go_wp2_with fail
  refine bodyPost_end (results_none rfl _ _ _) rfl ?_
  exact ⟨rfl, rfl⟩

set_option maxRecDepth 100000 in
set_option maxHeartbeats 400000 in
theorem giveUp_yes (rp : Int) (w : World) :
    Calls Try.prog 130 #[.bool true, .int .i64 rp] w fun r w' => r = .panicked [{ v := .iface 148 (.int .i64 rp), recovered := false }] ∧ w' = w := by
  go_enter Try.func130, Try.ntmps130
  go_wp2_with fail
  exact ⟨rfl, rfl, rfl⟩

theorem assert_refusal (rp : Int) (w : World) : Sem.run Try.prog (Instr.typeAssert (.iface 148 (.int .i64 rp)) 20 148 true) w = .ok (.tuple #[.int .i64 rp, .bool true]) w := by kernel_rfl
theorem assert_nil (w : World) : Sem.run Try.prog (Instr.typeAssert .nilIface 20 148 true) w = .ok (.tuple #[.int .i64 0, .bool false]) w := by kernel_rfl

set_option maxRecDepth 100000 in
set_option maxHeartbeats 400000 in
theorem catch_idle (x r s : Addr) (w : World) :
    CallsD Try.prog 129 #[.pointer (some x), .pointer (some r), .pointer (some s)] .returning w fun e u' w' => e = .returned (.tuple #[]) ∧ u' = .returning ∧ w' = w := by
  have hn := assert_nil
  refine callsD_of_wpS Try.func129 rfl fun c₀ cs hu => ?_
  apply wpS_seq
  apply wpS_region
  simp [wpOpsS, go_sem, recoverD, hu, Try.ntmps129, Exit.thenS, hn]
  refine wpS_of_wp ?_
  go_wp2_with fail
  cases c₀
  simp only at hu
  subst hu
  exact ⟨rfl, _, rfl, _, results_none rfl _ _ _, rfl, rfl, rfl⟩

set_option maxRecDepth 100000 in
set_option maxHeartbeats 400000 in
theorem catch_panic (ts : List T7) (ks : List Int) (fs : List F2) (A0 A1 A2 : Option Addr) (c0 c1 c2 : Nat) (tn : Int) (st : Bool) (g gr gs : Nat) (rp : Int) (older : List PanicEntry) (w : World) (ht : ts.length ≤ 1048576) (hk : ks.length ≤ 1048576) (hf : fs.length ≤ 1048576) (hg : Blk w g 34 #[.slice A0 ts.length c0, .slice A1 ks.length c1, .slice A2 fs.length c2, .int .i64 tn, .bool st]) (h : InPool w ts ks fs A0 A1 A2) (hM : Sep (fps [.blk gr 34 #[.slice none 0 0, .slice none 0 0, .slice none 0 0, .int .i64 0, .bool false], .blk gs 65 #[.int .i64 0, .int .i64 0]]) w w [.blk gr 34 #[.slice none 0 0, .slice none 0 0, .slice none 0 0, .int .i64 0, .bool false], .blk gs 65 #[.int .i64 0, .int .i64 0]]) :
    CallsD Try.prog 129 #[.pointer (some ⟨g, 0, none⟩), .pointer (some ⟨gr, 0, none⟩), .pointer (some ⟨gs, 0, none⟩)] (.panicking ({ v := .iface 148 (.int .i64 rp), recovered := false } :: older)) w fun e u' w' => e = .returned (.tuple #[]) ∧ u' = .panicking ({ v := .iface 148 (.int .i64 rp), recovered := true } :: older) ∧ ∃ (B0 B1 B2 : Option Addr) (d0 d1 d2 : Nat), Sep (fps [.blk gr 34 #[.slice none 0 0, .slice none 0 0, .slice none 0 0, .int .i64 0, .bool false], .blk gs 65 #[.int .i64 0, .int .i64 0]]) w w' [rT ts.length B0 d0 ts, rK ks.length B1 d1 ks, rF fs.length B2 d2 fs, .blk gr 34 #[.slice B0 ts.length d0, .slice B1 ks.length d1, .slice B2 fs.length d2, .int .i64 tn, .bool st], .blk gs 65 #[.int .i64 rp, .int .i64 0]] := by
  have hn := assert_refusal
  have H := hide (⟨hg, h, hM⟩ : _ ∧ _ ∧ _)
  clear hg h hM
  refine callsD_of_wpS Try.func129 rfl fun c₀ cs hu => ?_
  simp only [Try.ntmps129, List.size_toArray, List.length_cons, List.length_nil, Nat.reduceAdd, Nat.reduceSub, Array.replicate_succ, Array.replicate_zero, List.push_toArray, List.append_toArray, List.nil_append, List.cons_append]
  apply wpS_seq
  apply wpS_region
  simp [wpOpsS, go_sem, recoverD, hu, Exit.thenS, hn]
  refine wpS_of_wp ?_
  generalize hQ : (fun (e : Exit) (a' : Act) (w' : World) => bodyPostS _ _ _ _ _ e a' _ w') = Q
  have HQ := hide hQ
  clear hQ hu
  go_wp2_with fail
  go_call (copied_s ts ks fs A0 A1 A2 c0 c1 c2 tn st g _ ht hk hf H.out.1 H.out.2.1) as r W1 ⟨B0, B1, B2, d0, d1, d2, rfl, g1⟩
  have M := Sep.new H.out.2.2 g1
  simp only [List.cons_append, List.nil_append] at M
  clear g1 hn
  obtain ⟨tR, qR0, fR0, qR1, fR1, qR2, fR2, qR3, fR3, qR4, fR4⟩ := M.f5 3 rfl
  obtain ⟨tS, qS0, fS0, qS1, fS1⟩ := M.f2 4 rfl
  have nRS := M.ne 3 4 (by omega) rfl rfl rfl rfl
  go_wp2_with fail
  clear tR qR0 fR0 qR1 fR1 qR2 fR2 qR3 fR3 qR4 fR4 tS qS0 fS0 qS1 fS1 nRS
  have N := M.gset5 3 rfl (.slice B0 ts.length d0) (.slice B1 ks.length d1) (.slice B2 fs.length d2) (.int .i64 tn) (.bool st)
  clear M
  obtain ⟨W2, eW, M⟩ := N
  rw [eW]
  clear eW
  simp only [List.set_cons_zero, List.set_cons_succ] at M
  have N := M.gset2 4 rfl (.int .i64 rp) (.int .i64 0)
  clear M
  obtain ⟨W3, eW, M⟩ := N
  rw [eW]
  clear eW
  simp only [List.set_cons_zero, List.set_cons_succ] at M
  have hQ := HQ.out
  rw [← hQ]
  exact ⟨rfl, _, rfl, _, results_none rfl _ _ _, rfl, rfl, B0, B1, B2, d0, d1, d2, M⟩
end Go.Proofs.Ytgncjcnobojgbaa
