/- The program's places in a line: their order; how they lie in memory. No condition. -/
import Derived.Test.YtfkdfkoigojciaaGreatDoorChecked
import Derived.WalkKit
import Derived.LaidEql
import Derived.Stop.Asserts
import Derived.RowKitTokens
import Derived.Handy
import Derived.Test.YtfkdfkoigojciaaGreatDoorQB04
import Derived.Lib.Hide
import Derived.Test.YtfkdfkoigojciaaGreatDoorQB07
import Derived.Shelf.Abstract
import Derived.Test.YtfkdfkoigojciaaGreatDoorQB11
import Derived.RangeFuncNested
import Derived.RangeFuncBound
import Derived.RangeFuncCalls
import Derived.RangeFuncLeaves
import Derived.OwnWalkIn
import Derived.TacticsInMore
import Derived.LoopNIn
import Derived.LoopIn
import Derived.Test.YtfkdfkoigojciaaGreatDoorQB05

namespace Go.Proofs.YtfkdfkoigojciaaGreatDoor
open Go.RowKit
set_option linter.unusedVariables false
open Go.RowKit Go.Extern.Stop Go.Stop Go.Extern
theorem v160P (t : Addr) (w : World) : (callFunc 187 #[.iface 167 (.pointer (some t))]).run Tryz.prog w = .ok (.value (.agg #[.pointer (some ⟨1, 167, none⟩), .pointer (some ⟨w.heap.size, 0, none⟩), .int .u64 150])) (w.alloc (.cells #[.pointer (some t)] 167)) := by kernel_rfl
theorem v160Q (t : Addr) (w : World) : (callFunc 187 #[.iface 168 (.pointer (some t))]).run Tryz.prog w = .ok (.value (.agg #[.pointer (some ⟨1, 168, none⟩), .pointer (some ⟨w.heap.size, 0, none⟩), .int .u64 150])) (w.alloc (.cells #[.pointer (some t)] 168)) := by kernel_rfl
theorem v160Y (r : Int) (w : World) : (callFunc 187 #[.iface 133 (.int .i64 r)]).run Tryz.prog w = .ok (.value (.agg #[.pointer (some ⟨1, 133, none⟩), .pointer (some ⟨w.heap.size, 0, none⟩), .int .u64 134])) (w.alloc (.cells #[.int .i64 r] 133)) := by kernel_rfl
theorem v160D (x : Value) (y : Int) (w : World) : (callFunc 187 #[.iface 165 (.agg #[x, .int .i64 y])]).run Tryz.prog w = .ok (.value (.agg #[.pointer (some ⟨1, 165, none⟩), .pointer (some ⟨w.heap.size, 0, none⟩), .int .u64 153])) (w.alloc (.cells #[x, .int .i64 y] 165)) := by kernel_rfl
theorem t161P (a : Addr) (w : World) : (callFunc 188 #[.agg #[.pointer (some ⟨1, 167, none⟩), .pointer (some a), .int .u64 150]]).run Tryz.prog w = .ok (.value (.iface 206 (.agg #[.pointer (some ⟨1, 167, none⟩)]))) w := by kernel_rfl
theorem t161Q (a : Addr) (w : World) : (callFunc 188 #[.agg #[.pointer (some ⟨1, 168, none⟩), .pointer (some a), .int .u64 150]]).run Tryz.prog w = .ok (.value (.iface 206 (.agg #[.pointer (some ⟨1, 168, none⟩)]))) w := by kernel_rfl
theorem k195P (w : World) : (callFunc 218 #[.pointer (some ⟨1, 167, none⟩)]).run Tryz.prog w = .ok (.value (.int .u8 22)) w := by kernel_rfl
theorem k195Q (w : World) : (callFunc 218 #[.pointer (some ⟨1, 168, none⟩)]).run Tryz.prog w = .ok (.value (.int .u8 22)) w := by kernel_rfl
theorem k195Y (w : World) : (callFunc 218 #[.pointer (some ⟨1, 133, none⟩)]).run Tryz.prog w = .ok (.value (.int .u8 6)) w := by kernel_rfl
theorem k195D (w : World) : (callFunc 218 #[.pointer (some ⟨1, 165, none⟩)]).run Tryz.prog w = .ok (.value (.int .u8 25)) w := by kernel_rfl
theorem e214P (w : World) : (callFunc 237 #[.agg #[.pointer (some ⟨1, 167, none⟩)]]).run Tryz.prog w = .ok (.value (.iface 206 (.agg #[.pointer (some ⟨1, 133, none⟩)]))) w := by kernel_rfl
theorem e214Q (w : World) : (callFunc 237 #[.agg #[.pointer (some ⟨1, 168, none⟩)]]).run Tryz.prog w = .ok (.value (.iface 206 (.agg #[.pointer (some ⟨1, 165, none⟩)]))) w := by kernel_rfl
theorem i215Y (w : World) : (callFunc 238 #[.agg #[.pointer (some ⟨1, 133, none⟩)], .iface 206 (.agg #[.pointer (some ⟨1, 84, none⟩)])]).run Tryz.prog w = .ok (.value (.bool true)) w := by kernel_rfl
theorem i215D (w : World) : (callFunc 238 #[.agg #[.pointer (some ⟨1, 165, none⟩)], .iface 206 (.agg #[.pointer (some ⟨1, 84, none⟩)])]).run Tryz.prog w = .ok (.value (.bool true)) w := by kernel_rfl
theorem c164D (v : Value) (w : World) : (callFunc 191 #[.iface 165 v]).run Tryz.prog w = .ok (.value (.iface 206 (.agg #[.pointer (some ⟨1, 165, none⟩)]))) w := by kernel_rfl
theorem a212YY (w : World) : (callFunc 235 #[.agg #[.pointer (some ⟨1, 133, none⟩)], .iface 206 (.agg #[.pointer (some ⟨1, 133, none⟩)])]).run Tryz.prog w = .ok (.value (.bool true)) w := by kernel_rfl
theorem a212DD (w : World) : (callFunc 235 #[.agg #[.pointer (some ⟨1, 165, none⟩)], .iface 206 (.agg #[.pointer (some ⟨1, 165, none⟩)])]).run Tryz.prog w = .ok (.value (.bool true)) w := by kernel_rfl
theorem a212YD (w : World) : (callFunc 235 #[.agg #[.pointer (some ⟨1, 133, none⟩)], .iface 206 (.agg #[.pointer (some ⟨1, 165, none⟩)])]).run Tryz.prog w = .ok (.value (.bool false)) w := by kernel_rfl
theorem a212DY (w : World) : (callFunc 235 #[.agg #[.pointer (some ⟨1, 165, none⟩)], .iface 206 (.agg #[.pointer (some ⟨1, 133, none⟩)])]).run Tryz.prog w = .ok (.value (.bool false)) w := by kernel_rfl
theorem noAsY (v : Value) (xT : TypeId) (w : World) : (Instr.typeAssert (.iface 133 v) xT 210 true).run Tryz.prog w = .ok (.tuple #[.nilIface, .bool false]) w := run_typeAssert_lacksB Tryz.underlying210 (by kernel_rfl) (by kernel_rfl) v xT w
theorem noAsD (v : Value) (xT : TypeId) (w : World) : (Instr.typeAssert (.iface 165 v) xT 210 true).run Tryz.prog w = .ok (.tuple #[.nilIface, .bool false]) w := run_typeAssert_lacksB Tryz.underlying210 (by kernel_rfl) (by kernel_rfl) v xT w
theorem noUnY (v : Value) (xT : TypeId) (w : World) : (Instr.typeAssert (.iface 133 v) xT 213 true).run Tryz.prog w = .ok (.tuple #[.nilIface, .bool false]) w := run_typeAssert_lacksB Tryz.underlying213 (by kernel_rfl) (by kernel_rfl) v xT w
theorem noUnsY (v : Value) (xT : TypeId) (w : World) : (Instr.typeAssert (.iface 133 v) xT 215 true).run Tryz.prog w = .ok (.tuple #[.nilIface, .bool false]) w := run_typeAssert_lacksB Tryz.underlying215 (by kernel_rfl) (by kernel_rfl) v xT w
theorem hasUnD (v : Value) (xT : TypeId) (w : World) : (Instr.typeAssert (.iface 165 v) xT 213 true).run Tryz.prog w = .ok (.tuple #[.iface 165 v, .bool true]) w := run_typeAssert_hasB Tryz.underlying213 (by kernel_rfl) v xT w
theorem c164 (v : Value) (w : World) : (callFunc 191 #[.iface 133 v]).run Tryz.prog w = .ok (.value (.iface 206 (.agg #[.pointer (some ⟨1, 133, none⟩)]))) w := by kernel_rfl
theorem unwrap_any (r ou : Int) (w : World) : Calls Tryz.prog 229 #[.agg #[.iface 133 (.int .i64 r), .int .i64 ou]] w fun e w' => e = .returned (.iface 133 (.int .i64 r)) ∧ Below w.heap.size w w' := by
 go_enter Tryz.func229, Tryz.ntmps229
 go_wp2
 go_ret
 exact ⟨rfl, by go_grown⟩
theorem rlm (z : Sem Value) (f : TypeId → Addr → Nat → Nat → Sem Value) (v : Value) :
 ReflectliteValue.method z f #[v] = (do match ← ReflectliteValue.parts v with | none => z | some (t, a, fl) => f t a fl (fl % 32)) := rfl
theorem parts161 (a : Addr) (w : World) : (ReflectliteValue.parts (.agg #[.pointer (some ⟨1, 167, none⟩), .pointer (some a), .int .u64 150])).run Tryz.prog w = .ok (some (167, a, 150)) w := by kernel_rfl
theorem parts162 (a : Addr) (w : World) : (ReflectliteValue.parts (.agg #[.pointer (some ⟨1, 168, none⟩), .pointer (some a), .int .u64 150])).run Tryz.prog w = .ok (some (168, a, 150)) w := by kernel_rfl
theorem isNil161 (a p : Addr) (W : World) (ha : W.cell? a = some (.pointer (some p))) : (callFunc 189 #[.agg #[.pointer (some ⟨1, 167, none⟩), .pointer (some a), .int .u64 150]]).run Tryz.prog W = .ok (.value (.bool false)) W := by
 have h8 := @run_callFunc_extern Tryz.prog 189 _ (ReflectliteValue.method (ReflectliteValue.valueError "reflectlite.Value.IsNil" 0) ReflectliteValue.isNil) Tryz.func189 (by kernel_rfl) (by kernel_rfl) (by kernel_rfl) (by kernel_rfl)
 rw [h8, rlm]
 simp only [Sem.run_bind, parts161, Result.andThen]
 simp [ReflectliteValue.isNil, loadVar, isAgg, underlying, Tryz.underlying167, ha, Result.andThen]
theorem isNil162 (a p : Addr) (W : World) (ha : W.cell? a = some (.pointer (some p))) : (callFunc 189 #[.agg #[.pointer (some ⟨1, 168, none⟩), .pointer (some a), .int .u64 150]]).run Tryz.prog W = .ok (.value (.bool false)) W := by
 have h8 := @run_callFunc_extern Tryz.prog 189 _ (ReflectliteValue.method (ReflectliteValue.valueError "reflectlite.Value.IsNil" 0) ReflectliteValue.isNil) Tryz.func189 (by kernel_rfl) (by kernel_rfl) (by kernel_rfl) (by kernel_rfl)
 rw [h8, rlm]
 simp only [Sem.run_bind, parts162, Result.andThen]
 simp [ReflectliteValue.isNil, loadVar, isAgg, underlying, Tryz.underlying168, ha, Result.andThen]
theorem elemOf161 (w : World) : (Rtype.elem? 167).run Tryz.prog w = .ok (some 133) w := by kernel_rfl
theorem elemOf162 (w : World) : (Rtype.elem? 168).run Tryz.prog w = .ok (some 165) w := by kernel_rfl
theorem mk123 (p : Addr) (w : World) : (ReflectliteValue.mk 133 p ReflectliteValue.flagAddr).run Tryz.prog w = .ok (.agg #[.pointer (some ⟨1, 133, none⟩), .pointer (some p), .int .u64 390]) w := by kernel_rfl
theorem mk159 (p : Addr) (w : World) : (ReflectliteValue.mk 165 p ReflectliteValue.flagAddr).run Tryz.prog w = .ok (.agg #[.pointer (some ⟨1, 165, none⟩), .pointer (some p), .int .u64 409]) w := by kernel_rfl
theorem elemV161 (a p : Addr) (W : World) (ha : W.cell? a = some (.pointer (some p))) : (callFunc 201 #[.agg #[.pointer (some ⟨1, 167, none⟩), .pointer (some a), .int .u64 150]]).run Tryz.prog W = .ok (.value (.agg #[.pointer (some ⟨1, 133, none⟩), .pointer (some p), .int .u64 390])) W := by
 have h8 := @run_callFunc_extern Tryz.prog 201 _ (ReflectliteValue.method (ReflectliteValue.valueError "reflectlite.Value.Elem" 0) ReflectliteValue.elem) Tryz.func201 (by kernel_rfl) (by kernel_rfl) (by kernel_rfl) (by kernel_rfl)
 rw [h8, rlm]
 simp only [Sem.run_bind, parts161, Result.andThen]
 simp [ReflectliteValue.elem, loadVar, isAgg, underlying, Tryz.underlying167, ha, Result.andThen, elemOf161, mk123]
theorem elemV162 (a p : Addr) (W : World) (ha : W.cell? a = some (.pointer (some p))) : (callFunc 201 #[.agg #[.pointer (some ⟨1, 168, none⟩), .pointer (some a), .int .u64 150]]).run Tryz.prog W = .ok (.value (.agg #[.pointer (some ⟨1, 165, none⟩), .pointer (some p), .int .u64 409])) W := by
 have h8 := @run_callFunc_extern Tryz.prog 201 _ (ReflectliteValue.method (ReflectliteValue.valueError "reflectlite.Value.Elem" 0) ReflectliteValue.elem) Tryz.func201 (by kernel_rfl) (by kernel_rfl) (by kernel_rfl) (by kernel_rfl)
 rw [h8, rlm]
 simp only [Sem.run_bind, parts162, Result.andThen]
 simp [ReflectliteValue.elem, loadVar, isAgg, underlying, Tryz.underlying168, ha, Result.andThen, elemOf162, mk159]
theorem rls (v x : Value) : ReflectliteValue.set #[v, x] = (do
 let (some (dst, a, fl), some (src, b, _)) := (← ReflectliteValue.parts v, ← ReflectliteValue.parts x)
  | unsupported (.noEntry "extern/(internal/reflectlite.Value).Set.zeroValue")
 if fl / ReflectliteValue.flagAddr % 2 == 0 then unsupported (.noEntry "extern/(internal/reflectlite.Value).Set.unaddressable")
 let val ← loadVar src b
 if ← Rtype.directlyAssignable dst src then storeVar dst a val
 else if ← Rtype.implements dst src then
  if (← Rtype.kind src) == 20 then
   match val with
   | .nilIface => unsupported (.noEntry "extern/reflectlite: a nil value of one interface type handed on as a value of another")
   | _ => storeVar dst a val
  else storeVar dst a (.iface src val)
 else panicString ("reflectlite.Set: value of type " ++ (← Rtype.spelt src) ++ " is not assignable to type " ++ (← Rtype.spelt dst))
 pure (.tuple #[])) := rfl
theorem parts123a (a : Addr) (w : World) : (ReflectliteValue.parts (.agg #[.pointer (some ⟨1, 133, none⟩), .pointer (some a), .int .u64 390])).run Tryz.prog w = .ok (some (133, a, 390)) w := by kernel_rfl
theorem parts123 (a : Addr) (w : World) : (ReflectliteValue.parts (.agg #[.pointer (some ⟨1, 133, none⟩), .pointer (some a), .int .u64 134])).run Tryz.prog w = .ok (some (133, a, 134)) w := by kernel_rfl
theorem parts159a (a : Addr) (w : World) : (ReflectliteValue.parts (.agg #[.pointer (some ⟨1, 165, none⟩), .pointer (some a), .int .u64 409])).run Tryz.prog w = .ok (some (165, a, 409)) w := by kernel_rfl
theorem parts159 (a : Addr) (w : World) : (ReflectliteValue.parts (.agg #[.pointer (some ⟨1, 165, none⟩), .pointer (some a), .int .u64 153])).run Tryz.prog w = .ok (some (165, a, 153)) w := by kernel_rfl
theorem direct123 (w : World) : (Rtype.directlyAssignable 133 133).run Tryz.prog w = .ok true w := by kernel_rfl
theorem direct159 (w : World) : (Rtype.directlyAssignable 165 165).run Tryz.prog w = .ok true w := by kernel_rfl
theorem set123 (ta b : Addr) (r : Int) (old : Value) (W : World) (hb : W.cell? b = some (.int .i64 r)) (ht : W.cell? ta = some old) (hf : W.frozen? ta = false) :
 (callFunc 202 #[.agg #[.pointer (some ⟨1, 133, none⟩), .pointer (some ta), .int .u64 390], .agg #[.pointer (some ⟨1, 133, none⟩), .pointer (some b), .int .u64 134]]).run Tryz.prog W = .ok (.value (.tuple #[])) (W.setCell ta (.int .i64 r)) := by
 have h12 := @run_callFunc_extern Tryz.prog 202 _ ReflectliteValue.set Tryz.func202 (by kernel_rfl) (by kernel_rfl) (by kernel_rfl) (by kernel_rfl)
 rw [h12, rls]
 simp only [Sem.run_bind, parts123a, parts123, Result.andThen]
 simp [ReflectliteValue.flagAddr, loadVar, isAgg, underlying, Tryz.underlying133, hb, Result.andThen, direct123, storeVar, Value.cells, storeCells, Addr.add]
 rw [run_store Tryz.prog W ta _ _ (by rfl)]
 simp [ht, hf]
open Go.RowKit Go.Extern.Stop Go.Stop Go.Extern
theorem eqSaying (r k : Int) (w : World) : (binOp .eql 84 (.iface 133 (.int .i64 r)) (.iface 133 (.int .i64 k))).run Tryz.prog w = .ok (.bool (r == k)) w := by kernel_rfl
theorem eqSaidSaying (v : Value) (k : Int) (w : World) : (binOp .eql 84 (.iface 165 v) (.iface 133 (.int .i64 k))).run Tryz.prog w = .ok (.bool false) w := run_eql_iface_types 165 133 v _ Tryz.underlying84 (by decide) w
theorem noIsY (v : Value) (xT : TypeId) (w : World) : (Instr.typeAssert (.iface 133 v) xT 218 true).run Tryz.prog w = .ok (.tuple #[.nilIface, .bool false]) w := run_typeAssert_lacksB Tryz.underlying218 (by kernel_rfl) (by kernel_rfl) v xT w
theorem noIsD (v : Value) (xT : TypeId) (w : World) : (Instr.typeAssert (.iface 165 v) xT 218 true).run Tryz.prog w = .ok (.tuple #[.nilIface, .bool false]) w := run_typeAssert_lacksB Tryz.underlying218 (by kernel_rfl) (by kernel_rfl) v xT w
theorem c213 (w : World) : (callFunc 236 #[.agg #[.pointer (some ⟨1, 133, none⟩)]]).run Tryz.prog w = .ok (.value (.bool true)) w := by kernel_rfl
theorem is_other (r k : Int) (h : r ≠ k) (w : World) :
 Calls Tryz.prog 168 #[.iface 133 (.int .i64 r), .iface 133 (.int .i64 k)] w fun e w' => e = .returned (.bool false) ∧ w' = w := by
 have h8 := c164
 have h32 := c213
 have eY := eqSaying r k
 rw [show (r == k) = false from beq_eq_false_iff_ne.2 h] at eY
 have n1 := noIsY
 have n2 := noUnY
 have n3 := noUnsY
 clear h
 go_enter Tryz.func168, Tryz.ntmps168
 go_wp2
 refine wp_loop_rounds 1 ?_
 rw [rounds_succ]
 go_wp2
 go_ret
 exact ⟨rfl, rfl⟩
theorem isd_same (r ou k : Int) (h : r = k) (w : World) :
 Calls Tryz.prog 168 #[.iface 165 (.agg #[.iface 133 (.int .i64 r), .int .i64 ou]), .iface 133 (.int .i64 k)] w fun e w' => e = .returned (.bool true) ∧ Below w.heap.size w w' := by
 subst h
 have h8 := c164
 have h32 := c213
 have eY := eqSaying r r
 simp only [beq_self_eq_true] at eY
 have eD := eqSaidSaying
 have n1 := noIsD
 have n2 := hasUnD
 go_enter Tryz.func168, Tryz.ntmps168
 go_wp2
 refine wp_loop_rounds 2 ?_
 rw [rounds_succ]
 go_wp2_with (go_at_call 229; refine (unwrap_any _ _ _).mono ?_; rintro e w1 ⟨rfl, hb⟩)
 rw [rounds_succ]
 go_wp2
 go_ret
 exact ⟨rfl, hb⟩
theorem isd_other (r ou k : Int) (h : r ≠ k) (w : World) :
 Calls Tryz.prog 168 #[.iface 165 (.agg #[.iface 133 (.int .i64 r), .int .i64 ou]), .iface 133 (.int .i64 k)] w fun e w' => e = .returned (.bool false) ∧ Below w.heap.size w w' := by
 have h8 := c164
 have h32 := c213
 have eY := eqSaying r k
 rw [show (r == k) = false from beq_eq_false_iff_ne.2 h] at eY
 have eD := eqSaidSaying
 have n1 := noIsD
 have n2 := hasUnD
 have n3 := noIsY
 have n4 := noUnY
 have n5 := noUnsY
 clear h
 go_enter Tryz.func168, Tryz.ntmps168
 go_wp2
 refine wp_loop_rounds 2 ?_
 rw [rounds_succ]
 go_wp2_with (go_at_call 229; refine (unwrap_any _ _ _).mono ?_; rintro e w1 ⟨rfl, hb⟩)
 rw [rounds_succ]
 go_wp2
 go_ret
 exact ⟨rfl, hb⟩
set_option maxRecDepth 100000
open Go.RowKit Go.Extern.Stop Go.Stop Go.Extern
theorem set159 (ta tb : Nat) (tt : TypeId) (r ou : Int) (o0 o1 : Value) (W : World) (hb0 : W.cell? ⟨tb, 0, none⟩ = some (.iface 133 (.int .i64 r))) (hb1 : W.cell? ⟨tb, 1, none⟩ = some (.int .i64 ou)) (hA : Blk W ta tt #[o0, o1]) :
 (callFunc 202 #[.agg #[.pointer (some ⟨1, 165, none⟩), .pointer (some ⟨ta, 0, none⟩), .int .u64 409], .agg #[.pointer (some ⟨1, 165, none⟩), .pointer (some ⟨tb, 0, none⟩), .int .u64 153]]).run Tryz.prog W
  = .ok (.value (.tuple #[])) ((W.setCell ⟨ta, 0, none⟩ (.iface 133 (.int .i64 r))).setCell ⟨ta, 1, none⟩ (.int .i64 ou)) := by
 have h12 := @run_callFunc_extern Tryz.prog 202 _ ReflectliteValue.set Tryz.func202 (by kernel_rfl) (by kernel_rfl) (by kernel_rfl) (by kernel_rfl)
 have ht0 : W.cell? ⟨ta, 0, none⟩ = some o0 := hA.cell 0
 have hf0 : W.frozen? ⟨ta, 0, none⟩ = false := hA.frozen 0
 have hA2 := hA.set_ 0 (.iface 133 (.int .i64 r))
 have ht1 : (W.setCell ⟨ta, 0, none⟩ (.iface 133 (.int .i64 r))).cell? ⟨ta, 1, none⟩ = some o1 := hA2.cell 1
 have hf1 : (W.setCell ⟨ta, 0, none⟩ (.iface 133 (.int .i64 r))).frozen? ⟨ta, 1, none⟩ = false := hA2.frozen 1
 rw [h12, rls]
 simp only [Sem.run_bind, parts159a, parts159, Result.andThen]
 simp [ReflectliteValue.flagAddr, loadVar, loadCells, loadCellsFrom, hb0, hb1, Result.andThen, direct159, storeVar, Value.cells, storeCells, Addr.add]
 rw [run_store Tryz.prog W ⟨ta, 0, none⟩ _ _ (by rfl)]
 simp only [ht0, hf0]
 simp
 rw [run_store Tryz.prog _ ⟨ta, 1, none⟩ _ _ (by rfl)]
 simp only [ht1, hf1]
 simp
set_option maxHeartbeats 1000000 in
theorem as_yy (r : Int) (t : Nat) (tt : TypeId) (o0 : Value) (w : World) (hg : w.cell? ⟨0, 0, none⟩ = some (.iface 206 (.agg #[.pointer (some ⟨1, 84, none⟩)]))) (hA : Blk w t tt #[o0]) :
 Calls Tryz.prog 167 #[.iface 133 (.int .i64 r), .iface 167 (.pointer (some ⟨t, 0, none⟩))] w fun e w' => e = .returned (.bool true) ∧ ∃ Wm, Below w.heap.size w Wm ∧ w' = Wm.setCell ⟨t, 0, none⟩ (.int .i64 r) := by
 have x0 := v160P
 have x1 := t161P
 have x2 := k195P
 have x3 := e214P
 have x4 := k195Y
 have x5 := i215Y
 have x6 := c164
 have x7 := a212YY
 have x8 := v160Y
 have hg0 : 0 < w.heap.size := World.block_lt_of_cell? w _ hg
 have htl : t < w.heap.size := hA.lt
 have hB : Below w.heap.size w ((((w.alloc (.cells #[.pointer (some ⟨t, 0, none⟩)] 167)).alloc (.cells #[.pointer (some ⟨1, 167, none⟩), .pointer (some ⟨w.heap.size, 0, none⟩), .int .u64 150] 188)).alloc (.cells #[.pointer (some ⟨1, 167, none⟩), .pointer (some ⟨w.heap.size, 0, none⟩), .int .u64 150] 188)).alloc (.cells #[.int .i64 r] 133)) := ((((Below.refl _ _).alloc (Nat.le_refl _) _).alloc (by simp) _).alloc (by simp; omega) _).alloc (by simp; omega) _
 have hA4 := hA.below hB htl
 have n8 := isNil161 ⟨w.heap.size, 0, none⟩ ⟨t, 0, none⟩ ((w.alloc (.cells #[.pointer (some ⟨t, 0, none⟩)] 167)).alloc (.cells #[.pointer (some ⟨1, 167, none⟩), .pointer (some ⟨w.heap.size, 0, none⟩), .int .u64 150] 188)) (by simp)
 have e8 := elemV161 ⟨w.heap.size, 0, none⟩ ⟨t, 0, none⟩ (((w.alloc (.cells #[.pointer (some ⟨t, 0, none⟩)] 167)).alloc (.cells #[.pointer (some ⟨1, 167, none⟩), .pointer (some ⟨w.heap.size, 0, none⟩), .int .u64 150] 188)).alloc (.cells #[.pointer (some ⟨1, 167, none⟩), .pointer (some ⟨w.heap.size, 0, none⟩), .int .u64 150] 188)) (by rw [World.cell?_alloc_lt _ _ ⟨w.heap.size, 0, none⟩ (by simp; omega)]; simp)
 have s8 := set123 ⟨t, 0, none⟩ ⟨w.heap.size + 1 + 1 + 1, 0, none⟩ r o0 ((((w.alloc (.cells #[.pointer (some ⟨t, 0, none⟩)] 167)).alloc (.cells #[.pointer (some ⟨1, 167, none⟩), .pointer (some ⟨w.heap.size, 0, none⟩), .int .u64 150] 188)).alloc (.cells #[.pointer (some ⟨1, 167, none⟩), .pointer (some ⟨w.heap.size, 0, none⟩), .int .u64 150] 188)).alloc (.cells #[.int .i64 r] 133))
  (by rw [World.cell?_alloc_at _ _ _ _ (by simp)]; rfl) (hA4.cell 0) (hA4.frozen 0)
 have hg2 : ((w.alloc (.cells #[.pointer (some ⟨t, 0, none⟩)] 167)).alloc (.cells #[.pointer (some ⟨1, 167, none⟩), .pointer (some ⟨w.heap.size, 0, none⟩), .int .u64 150] 188)).cell? ⟨0, 0, none⟩ = some (.iface 206 (.agg #[.pointer (some ⟨1, 84, none⟩)])) := by
  rw [World.cell?_alloc_lt _ _ ⟨0, 0, none⟩ (by simp), World.cell?_alloc_lt _ _ ⟨0, 0, none⟩ hg0]; exact hg
 have HB := Lib.hid hB
 clear hA hA4 hB hg
 go_enter Tryz.func167, Tryz.ntmps167
 go_wp2
 refine wp_loop_rounds 1 ?_
 rw [rounds_succ]
 go_wp2
 go_ret
 exact ⟨rfl, _, HB.out, rfl⟩
set_option maxHeartbeats 1000000 in
theorem as_dd (r ou : Int) (t : Nat) (tt : TypeId) (o0 o1 : Value) (w : World) (hg : w.cell? ⟨0, 0, none⟩ = some (.iface 206 (.agg #[.pointer (some ⟨1, 84, none⟩)]))) (hA : Blk w t tt #[o0, o1]) :
 Calls Tryz.prog 167 #[.iface 165 (.agg #[.iface 133 (.int .i64 r), .int .i64 ou]), .iface 168 (.pointer (some ⟨t, 0, none⟩))] w fun e w' => e = .returned (.bool true) ∧ ∃ Wm, Below w.heap.size w Wm ∧ w' = (Wm.setCell ⟨t, 0, none⟩ (.iface 133 (.int .i64 r))).setCell ⟨t, 1, none⟩ (.int .i64 ou) := by
 have x0 := v160Q
 have x1 := t161Q
 have x2 := k195Q
 have x3 := e214Q
 have x4 := k195D
 have x5 := i215D
 have x6 := c164D
 have x7 := a212DD
 have x8 := v160D
 have hg0 : 0 < w.heap.size := World.block_lt_of_cell? w _ hg
 have htl : t < w.heap.size := hA.lt
 have hB : Below w.heap.size w ((((w.alloc (.cells #[.pointer (some ⟨t, 0, none⟩)] 168)).alloc (.cells #[.pointer (some ⟨1, 168, none⟩), .pointer (some ⟨w.heap.size, 0, none⟩), .int .u64 150] 188)).alloc (.cells #[.pointer (some ⟨1, 168, none⟩), .pointer (some ⟨w.heap.size, 0, none⟩), .int .u64 150] 188)).alloc (.cells #[.iface 133 (.int .i64 r), .int .i64 ou] 165)) := ((((Below.refl _ _).alloc (Nat.le_refl _) _).alloc (by simp) _).alloc (by simp; omega) _).alloc (by simp; omega) _
 have hA4 := hA.below hB htl
 have n8 := isNil162 ⟨w.heap.size, 0, none⟩ ⟨t, 0, none⟩ ((w.alloc (.cells #[.pointer (some ⟨t, 0, none⟩)] 168)).alloc (.cells #[.pointer (some ⟨1, 168, none⟩), .pointer (some ⟨w.heap.size, 0, none⟩), .int .u64 150] 188)) (by simp)
 have e8 := elemV162 ⟨w.heap.size, 0, none⟩ ⟨t, 0, none⟩ (((w.alloc (.cells #[.pointer (some ⟨t, 0, none⟩)] 168)).alloc (.cells #[.pointer (some ⟨1, 168, none⟩), .pointer (some ⟨w.heap.size, 0, none⟩), .int .u64 150] 188)).alloc (.cells #[.pointer (some ⟨1, 168, none⟩), .pointer (some ⟨w.heap.size, 0, none⟩), .int .u64 150] 188)) (by rw [World.cell?_alloc_lt _ _ ⟨w.heap.size, 0, none⟩ (by simp; omega)]; simp)
 have s8 := set159 t (w.heap.size + 1 + 1 + 1) tt r ou o0 o1 ((((w.alloc (.cells #[.pointer (some ⟨t, 0, none⟩)] 168)).alloc (.cells #[.pointer (some ⟨1, 168, none⟩), .pointer (some ⟨w.heap.size, 0, none⟩), .int .u64 150] 188)).alloc (.cells #[.pointer (some ⟨1, 168, none⟩), .pointer (some ⟨w.heap.size, 0, none⟩), .int .u64 150] 188)).alloc (.cells #[.iface 133 (.int .i64 r), .int .i64 ou] 165))
  (by rw [World.cell?_alloc_at _ _ _ _ (by simp)]; rfl) (by rw [World.cell?_alloc_at _ _ _ _ (by simp)]; rfl) hA4
 have hg2 : ((w.alloc (.cells #[.pointer (some ⟨t, 0, none⟩)] 168)).alloc (.cells #[.pointer (some ⟨1, 168, none⟩), .pointer (some ⟨w.heap.size, 0, none⟩), .int .u64 150] 188)).cell? ⟨0, 0, none⟩ = some (.iface 206 (.agg #[.pointer (some ⟨1, 84, none⟩)])) := by
  rw [World.cell?_alloc_lt _ _ ⟨0, 0, none⟩ (by simp), World.cell?_alloc_lt _ _ ⟨0, 0, none⟩ hg0]; exact hg
 have HB := Lib.hid hB
 clear hA hA4 hB hg
 go_enter Tryz.func167, Tryz.ntmps167
 go_wp2
 refine wp_loop_rounds 1 ?_
 rw [rounds_succ]
 go_wp2
 go_ret
 exact ⟨rfl, _, HB.out, rfl⟩
set_option maxRecDepth 100000
open Go.RowKit Go.Extern.Stop Go.Stop Go.Extern
theorem unwrap_x (r ou : Int) (w : World) : Calls Tryz.prog 229 #[.agg #[.iface 133 (.int .i64 r), .int .i64 ou]] w fun e w' => e = .returned (.iface 133 (.int .i64 r)) ∧ w' = w.alloc (.cells #[.iface 133 (.int .i64 r), .int .i64 ou] 165) := by
 go_enter Tryz.func229, Tryz.ntmps229
 go_wp2
 go_ret
 exact ⟨rfl, rfl⟩
set_option maxHeartbeats 1000000 in
theorem as_dy (r ou : Int) (t : Nat) (tt : TypeId) (o0 : Value) (w : World) (hg : w.cell? ⟨0, 0, none⟩ = some (.iface 206 (.agg #[.pointer (some ⟨1, 84, none⟩)]))) (hA : Blk w t tt #[o0]) :
 Calls Tryz.prog 167 #[.iface 165 (.agg #[.iface 133 (.int .i64 r), .int .i64 ou]), .iface 167 (.pointer (some ⟨t, 0, none⟩))] w fun e w' => e = .returned (.bool true) ∧ ∃ Wm, Below w.heap.size w Wm ∧ w' = Wm.setCell ⟨t, 0, none⟩ (.int .i64 r) := by
 have x0 := v160P
 have x1 := t161P
 have x2 := k195P
 have x3 := e214P
 have x4 := k195Y
 have x5 := i215Y
 have x6 := c164D
 have x7 := a212DY
 have x8 := c164
 have x9 := a212YY
 have x10 := v160Y
 have x11 := noAsD
 have x12 := hasUnD
 have hg0 : 0 < w.heap.size := World.block_lt_of_cell? w _ hg
 have htl : t < w.heap.size := hA.lt
 have hB : Below w.heap.size w (((((w.alloc (.cells #[.pointer (some ⟨t, 0, none⟩)] 167)).alloc (.cells #[.pointer (some ⟨1, 167, none⟩), .pointer (some ⟨w.heap.size, 0, none⟩), .int .u64 150] 188)).alloc (.cells #[.pointer (some ⟨1, 167, none⟩), .pointer (some ⟨w.heap.size, 0, none⟩), .int .u64 150] 188)).alloc (.cells #[.iface 133 (.int .i64 r), .int .i64 ou] 165)).alloc (.cells #[.int .i64 r] 133)) := (((((Below.refl _ _).alloc (Nat.le_refl _) _).alloc (by simp) _).alloc (by simp; omega) _).alloc (by simp; omega) _).alloc (by simp; omega) _
 have hA4 := hA.below hB htl
 have n8 := isNil161 ⟨w.heap.size, 0, none⟩ ⟨t, 0, none⟩ ((w.alloc (.cells #[.pointer (some ⟨t, 0, none⟩)] 167)).alloc (.cells #[.pointer (some ⟨1, 167, none⟩), .pointer (some ⟨w.heap.size, 0, none⟩), .int .u64 150] 188)) (by simp)
 have e8 := elemV161 ⟨w.heap.size, 0, none⟩ ⟨t, 0, none⟩ ((((w.alloc (.cells #[.pointer (some ⟨t, 0, none⟩)] 167)).alloc (.cells #[.pointer (some ⟨1, 167, none⟩), .pointer (some ⟨w.heap.size, 0, none⟩), .int .u64 150] 188)).alloc (.cells #[.pointer (some ⟨1, 167, none⟩), .pointer (some ⟨w.heap.size, 0, none⟩), .int .u64 150] 188)).alloc (.cells #[.iface 133 (.int .i64 r), .int .i64 ou] 165)) (by rw [World.cell?_alloc_lt _ _ ⟨w.heap.size, 0, none⟩ (by simp; omega), World.cell?_alloc_lt _ _ ⟨w.heap.size, 0, none⟩ (by simp; omega)]; simp)
 have s8 := set123 ⟨t, 0, none⟩ ⟨w.heap.size + 1 + 1 + 1 + 1, 0, none⟩ r o0 (((((w.alloc (.cells #[.pointer (some ⟨t, 0, none⟩)] 167)).alloc (.cells #[.pointer (some ⟨1, 167, none⟩), .pointer (some ⟨w.heap.size, 0, none⟩), .int .u64 150] 188)).alloc (.cells #[.pointer (some ⟨1, 167, none⟩), .pointer (some ⟨w.heap.size, 0, none⟩), .int .u64 150] 188)).alloc (.cells #[.iface 133 (.int .i64 r), .int .i64 ou] 165)).alloc (.cells #[.int .i64 r] 133))
  (by rw [World.cell?_alloc_at _ _ _ _ (by simp)]; rfl) (hA4.cell 0) (hA4.frozen 0)
 have hg2 : ((w.alloc (.cells #[.pointer (some ⟨t, 0, none⟩)] 167)).alloc (.cells #[.pointer (some ⟨1, 167, none⟩), .pointer (some ⟨w.heap.size, 0, none⟩), .int .u64 150] 188)).cell? ⟨0, 0, none⟩ = some (.iface 206 (.agg #[.pointer (some ⟨1, 84, none⟩)])) := by
  rw [World.cell?_alloc_lt _ _ ⟨0, 0, none⟩ (by simp), World.cell?_alloc_lt _ _ ⟨0, 0, none⟩ hg0]; exact hg
 have HB := Lib.hid hB
 clear hA hA4 hB hg
 go_enter Tryz.func167, Tryz.ntmps167
 go_wp2
 refine wp_loop_rounds 2 ?_
 rw [rounds_succ]
 go_wp2_with (go_at_call 229; refine (unwrap_x _ _ _).mono ?_; rintro e w1 ⟨rfl, rfl⟩)
 rw [rounds_succ]
 go_wp2
 go_ret
 exact ⟨rfl, _, HB.out, rfl⟩
set_option maxHeartbeats 1000000 in
theorem as_yd (r : Int) (t : Nat) (w : World) (hg : w.cell? ⟨0, 0, none⟩ = some (.iface 206 (.agg #[.pointer (some ⟨1, 84, none⟩)]))) :
 Calls Tryz.prog 167 #[.iface 133 (.int .i64 r), .iface 168 (.pointer (some ⟨t, 0, none⟩))] w fun e w' => e = .returned (.bool false) ∧ Below w.heap.size w w' := by
 have x0 := v160Q
 have x1 := t161Q
 have x2 := k195Q
 have x3 := e214Q
 have x4 := k195D
 have x5 := i215D
 have x6 := c164
 have x7 := a212YD
 have x8 := noAsY
 have x9 := noUnY
 have x10 := noUnsY
 have hg0 : 0 < w.heap.size := World.block_lt_of_cell? w _ hg
 have hB : Below w.heap.size w (((w.alloc (.cells #[.pointer (some ⟨t, 0, none⟩)] 168)).alloc (.cells #[.pointer (some ⟨1, 168, none⟩), .pointer (some ⟨w.heap.size, 0, none⟩), .int .u64 150] 188)).alloc (.cells #[.pointer (some ⟨1, 168, none⟩), .pointer (some ⟨w.heap.size, 0, none⟩), .int .u64 150] 188)) := (((Below.refl _ _).alloc (Nat.le_refl _) _).alloc (by simp) _).alloc (by simp; omega) _
 have n8 := isNil162 ⟨w.heap.size, 0, none⟩ ⟨t, 0, none⟩ ((w.alloc (.cells #[.pointer (some ⟨t, 0, none⟩)] 168)).alloc (.cells #[.pointer (some ⟨1, 168, none⟩), .pointer (some ⟨w.heap.size, 0, none⟩), .int .u64 150] 188)) (by simp)
 have hg2 : ((w.alloc (.cells #[.pointer (some ⟨t, 0, none⟩)] 168)).alloc (.cells #[.pointer (some ⟨1, 168, none⟩), .pointer (some ⟨w.heap.size, 0, none⟩), .int .u64 150] 188)).cell? ⟨0, 0, none⟩ = some (.iface 206 (.agg #[.pointer (some ⟨1, 84, none⟩)])) := by
  rw [World.cell?_alloc_lt _ _ ⟨0, 0, none⟩ (by simp), World.cell?_alloc_lt _ _ ⟨0, 0, none⟩ hg0]; exact hg
 have HB := Lib.hid hB
 clear hB hg
 go_enter Tryz.func167, Tryz.ntmps167
 go_wp2
 refine wp_loop_rounds 1 ?_
 rw [rounds_succ]
 go_wp2
 go_ret
 exact ⟨rfl, HB.out⟩
set_option maxRecDepth 100000
set_option maxHeartbeats 800000 in
theorem answer_y (r : Int) (w : World) (hg : w.cell? ⟨0, 0, none⟩ = some (.iface 206 (.agg #[.pointer (some ⟨1, 84, none⟩)]))) :
 Calls Tryz.prog 124 #[.iface 133 (.int .i64 r)] w fun e w' => e = .returned (.agg #[.int .i64 r, .int .i64 0]) ∧ Below w.heap.size w w' := by
 have HG := hide (⟨hg, World.block_lt_of_cell? w _ hg⟩ : _ ∧ _)
 clear hg
 go_enter Tryz.func124, Tryz.ntmps124
 go_wp2_with fail
 generalize hW : ((w.alloc _).alloc _).alloc _ = W1
 have M := Sep.e3 hW
 clear hW
 obtain ⟨aS, haS⟩ : ∃ aS, aS = w.heap.size := ⟨_, rfl⟩
 obtain ⟨aY, haY⟩ : ∃ aY, aY = w.heap.size + 1 := ⟨_, rfl⟩
 obtain ⟨aD, haD⟩ : ∃ aD, aD = w.heap.size + 2 := ⟨_, rfl⟩
 rw [← haD, ← haY, ← haS] at M ⊢
 clear haD haY haS
 refine Calls.mono (by with_reducible exact (as_yy r aY 133 (.int .i64 0) _ ((M.below.cell (p := ⟨0, 0, none⟩) HG.out.2).trans HG.out.1) (M.blk 1 rfl))) ?_
 rintro rr wz ⟨rfl, Wm, hb, rfl⟩
 replace M := (M.call hb).set 1 rfl 0 (.int .i64 r)
 simp only [List.set_cons_zero, List.set_cons_succ, List.setIfInBounds_toArray] at M
 generalize Wm.setCell ⟨aY, 0, none⟩ (.int .i64 r) = W2 at M ⊢
 clear hb
 go_wp2_with fail
 go_call (as_yd r aD _ ((M.below.cell (p := ⟨0, 0, none⟩) HG.out.2).trans HG.out.1)) as r W3 ⟨rfl, g1⟩
 replace M := M.call g1
 clear g1
 obtain ⟨tD, Ai, Ag, Aj, Af⟩ := M.f2 0 rfl
 obtain ⟨tY, Ah, Ad⟩ := M.f1 1 rfl
 obtain ⟨tS, Ab, Ac, Aa, Ae⟩ := M.f2 2 rfl
 go_wp2_with fail
 clear tD Ai Ag Aj Af tY Ah Ad tS Ab Ac Aa Ae
 have N := M.gset2 2 rfl (.int .i64 r) (.int .i64 0)
 clear M
 obtain ⟨W4, eW, M⟩ := N
 rw [eW]
 clear eW
 simp only [List.set_cons_zero, List.set_cons_succ] at M
 obtain ⟨tS, Ab, Aa⟩ := M.q2 2 rfl
 exact bodyPost_ret (v := .agg #[.int .i64 r, .int .i64 0]) (by simp [results, Tryz.results124, go_sem, Ab, Aa]) rfl ⟨rfl, M.below⟩
set_option maxHeartbeats 800000 in
theorem answer_d (r ou : Int) (w : World) (hg : w.cell? ⟨0, 0, none⟩ = some (.iface 206 (.agg #[.pointer (some ⟨1, 84, none⟩)]))) :
 Calls Tryz.prog 124 #[.iface 165 (.agg #[.iface 133 (.int .i64 r), .int .i64 ou])] w fun e w' => e = .returned (.agg #[.int .i64 r, .int .i64 ou]) ∧ Below w.heap.size w w' := by
 have HG := hide (⟨hg, World.block_lt_of_cell? w _ hg⟩ : _ ∧ _)
 clear hg
 go_enter Tryz.func124, Tryz.ntmps124
 go_wp2_with fail
 generalize hW : ((w.alloc _).alloc _).alloc _ = W1
 have M := Sep.e3 hW
 clear hW
 obtain ⟨aS, haS⟩ : ∃ aS, aS = w.heap.size := ⟨_, rfl⟩
 obtain ⟨aY, haY⟩ : ∃ aY, aY = w.heap.size + 1 := ⟨_, rfl⟩
 obtain ⟨aD, haD⟩ : ∃ aD, aD = w.heap.size + 2 := ⟨_, rfl⟩
 rw [← haD, ← haY, ← haS] at M ⊢
 clear haD haY haS
 refine Calls.mono (by with_reducible exact (as_dy r ou aY 133 (.int .i64 0) _ ((M.below.cell (p := ⟨0, 0, none⟩) HG.out.2).trans HG.out.1) (M.blk 1 rfl))) ?_
 rintro rr wz ⟨rfl, Wm, hb, rfl⟩
 replace M := (M.call hb).set 1 rfl 0 (.int .i64 r)
 simp only [List.set_cons_zero, List.set_cons_succ, List.setIfInBounds_toArray] at M
 generalize Wm.setCell ⟨aY, 0, none⟩ (.int .i64 r) = W2 at M ⊢
 clear hb
 go_wp2_with fail
 refine Calls.mono (by with_reducible exact (as_dd r ou aD 165 .nilIface (.int .i64 0) _ ((M.below.cell (p := ⟨0, 0, none⟩) HG.out.2).trans HG.out.1) (M.blk 0 rfl))) ?_
 rintro rr wz ⟨rfl, Wn, hb, rfl⟩
 replace M := ((M.call hb).set 0 rfl 0 (.iface 133 (.int .i64 r))).set 0 rfl 1 (.int .i64 ou)
 simp only [List.set_cons_zero, List.set_cons_succ, List.setIfInBounds_toArray] at M
 generalize (Wn.setCell ⟨aD, 0, none⟩ (.iface 133 (.int .i64 r))).setCell ⟨aD, 1, none⟩ (.int .i64 ou) = W3 at M ⊢
 clear hb
 obtain ⟨tD, Ai, Ag, Aj, Af⟩ := M.f2 0 rfl
 obtain ⟨tY, Ah, Ad⟩ := M.f1 1 rfl
 obtain ⟨tS, Ab, Ac, Aa, Ae⟩ := M.f2 2 rfl
 go_wp2_with fail
 clear tD Ai Ag Aj Af tY Ah Ad tS Ab Ac Aa Ae
 have N := M.gset2 2 rfl (.int .i64 r) (.int .i64 ou)
 clear M
 obtain ⟨W4, eW, M⟩ := N
 rw [eW]
 clear eW
 simp only [List.set_cons_zero, List.set_cons_succ] at M
 obtain ⟨tS, Ab, Aa⟩ := M.q2 2 rfl
 exact bodyPost_ret (v := .agg #[.int .i64 r, .int .i64 ou]) (by simp [results, Tryz.results124, go_sem, Ab, Aa]) rfl ⟨rfl, M.below⟩
set_option maxHeartbeats 400000 in
theorem keeps_y_no (r : Int) (h1 : r ≠ 1) (h7 : r ≠ 7) (w : World) :
 Calls Tryz.prog 126 #[.iface 133 (.int .i64 r)] w fun e w' => e = .returned (.bool false) ∧ Below w.heap.size w w' := by
 go_enter Tryz.func126, Tryz.ntmps126
 go_wp2_with fail
 refine Calls.mono (by with_reducible exact (is_other r 1 h1 _)) ?_
 rintro rr W9 ⟨rfl, rfl⟩
 go_wp2_with fail
 refine Calls.mono (by with_reducible exact (is_other r 7 h7 _)) ?_
 rintro rr W9 ⟨rfl, rfl⟩
 go_wp2
 go_ret
 exact ⟨rfl, Below.refl _ _⟩
set_option maxHeartbeats 400000 in
theorem keeps_d_yes1 (r ou : Int) (h : r = 1) (w : World) :
 Calls Tryz.prog 126 #[.iface 165 (.agg #[.iface 133 (.int .i64 r), .int .i64 ou])] w fun e w' => e = .returned (.bool true) ∧ Below w.heap.size w w' := by
 subst h
 go_enter Tryz.func126, Tryz.ntmps126
 go_wp2_with fail
 refine Calls.mono (by with_reducible exact (isd_same 1 ou 1 rfl _)) ?_
 rintro rr W9 ⟨rfl, g9⟩
 go_wp2
 go_ret
 exact ⟨rfl, g9⟩
set_option maxHeartbeats 400000 in
theorem keeps_d_yes7 (r ou : Int) (h : r = 7) (w : World) :
 Calls Tryz.prog 126 #[.iface 165 (.agg #[.iface 133 (.int .i64 r), .int .i64 ou])] w fun e w' => e = .returned (.bool true) ∧ Below w.heap.size w w' := by
 subst h
 go_enter Tryz.func126, Tryz.ntmps126
 go_wp2_with fail
 refine Calls.mono (by with_reducible exact (isd_other 7 ou 1 (by omega) _)) ?_
 rintro rr W9 ⟨rfl, g9⟩
 have G9 := hide g9
 clear g9
 go_wp2_with fail
 refine Calls.mono (by with_reducible exact (isd_same 7 ou 7 rfl _)) ?_
 rintro rr W9 ⟨rfl, g9⟩
 go_wp2
 go_ret
 exact ⟨rfl, G9.out.trans (g9.mono G9.out.size)⟩
set_option maxHeartbeats 400000 in
theorem saidWith_any (r ou : Int) (w : World) :
 Calls Tryz.prog 130 #[.int .i64 r, .int .i64 ou] w fun e w' => e = .returned (.iface 165 (.agg #[.iface 133 (.int .i64 r), .int .i64 ou])) ∧ w = w' := by
 go_enter Tryz.func130, Tryz.ntmps130
 go_wp2
 go_ret
 exact ⟨rfl, rfl⟩
/-- The library's variable errors.errorType, as it is laid. -/
def Laid (w : World) : Prop := w.cell? ⟨0, 0, none⟩ = some (.iface 206 (.agg #[.pointer (some ⟨1, 84, none⟩)]))
theorem Laid.lt {w : World} (h : Laid w) : 0 < w.heap.size := World.block_lt_of_cell? w _ h
theorem Laid.below {w W : World} (h : Laid w) (hb : Below w.heap.size w W) : Laid W := (hb.cell (p := ⟨0, 0, none⟩) h.lt).trans h
theorem livedAs_bad (a b c d e : Int) (ts : List T7) (ks : List Int) (fs : List F2) (A0 A1 A2 : Option Addr) (c0 c1 c2 : Nat) (tn : Int) (st : Bool) (wk : Int) (G2 : FuncId) (cap2 : Array Value) (w : World) (ht : ts.length ≤ 1048576) (hk : ks.length ≤ 1048576) (hf : fs.length ≤ 1048576) (h : InPool w ts ks fs A0 A1 A2) (hp : poolB a b c d e ts ks fs tn = false) :
 Calls Tryz.prog 59 #[.agg #[.int .i64 a, .int .i64 b, .int .i64 c, .int .i64 d, .int .i64 e], .agg #[.slice A0 ts.length c0, .slice A1 ks.length c1, .slice A2 fs.length c2, .int .i64 tn, .bool st], .int .i64 wk, .func (.func G2) #[] cap2] w (GaveS [] w ⟨[], [], [], 0, false, 8, 0⟩) :=
 livedAs_face a b c d e ts ks fs A0 A1 A2 c0 c1 c2 tn st wk G2 cap2 w ht hk hf h _ (fun V bL hV hc hl => lived_bad a b c d e ts ks fs A0 A1 A2 c0 c1 c2 tn st wk 123 #[.pointer (some ⟨bL, 0, none⟩)] (Go.Proofs.enters_of Tryz.func123 (by kernel_rfl) rfl) V ht hk hf (h.below hV) hp)
theorem livedAs_worker (a b c d e : Int) (ts : List T7) (ks : List Int) (fs : List F2) (A0 A1 A2 : Option Addr) (c0 c1 c2 : Nat) (tn : Int) (st : Bool) (wk : Int) (G2 : FuncId) (cap2 : Array Value) (w : World) (ht : ts.length ≤ 1048576) (hk : ks.length ≤ 1048576) (hf : fs.length ≤ 1048576) (h : InPool w ts ks fs A0 A1 A2) (hp : poolB a b c d e ts ks fs tn = true) (hw : btw wk 0 (a - 1) = false) :
 Calls Tryz.prog 59 #[.agg #[.int .i64 a, .int .i64 b, .int .i64 c, .int .i64 d, .int .i64 e], .agg #[.slice A0 ts.length c0, .slice A1 ks.length c1, .slice A2 fs.length c2, .int .i64 tn, .bool st], .int .i64 wk, .func (.func G2) #[] cap2] w (GaveS [] w ⟨ts, ks, fs, tn, st, 8, 0⟩) :=
 livedAs_face a b c d e ts ks fs A0 A1 A2 c0 c1 c2 tn st wk G2 cap2 w ht hk hf h _ (fun V bL hV hc hl => lived_worker a b c d e ts ks fs A0 A1 A2 c0 c1 c2 tn st wk 123 #[.pointer (some ⟨bL, 0, none⟩)] (Go.Proofs.enters_of Tryz.func123 (by kernel_rfl) rfl) V ht hk hf (h.below hV) hp hw)
/-- A pool of one's own, as it is left. -/
def HeldO (S : List Nat) (g : Nat) (o : OutP) (V W : World) : Prop := ∃ (D0 D1 D2 : Option Addr) (f0 f1 f2 : Nat), Sep S V W [.blk g 35 #[.slice D0 o.ts.length f0, .slice D1 o.ks.length f1, .slice D2 o.fs.length f2, .int .i64 o.tn, .bool o.st], rT o.ts.length D0 f0 o.ts, rK o.ks.length D1 f1 o.ks, rF o.fs.length D2 f2 o.fs]
theorem livedAs_no (a b c d e : Int) (ts : List T7) (ks : List Int) (fs : List F2) (A0 A1 A2 : Option Addr) (c0 c1 c2 : Nat) (tn : Int) (st : Bool) (wk : Int) (G2 : FuncId) (cap2 : Array Value) (hG2 : ∀ args w, (callFunc G2 args).run Tryz.prog w = .ok (.enter G2 args) w) (w : World) (ht : ts.length ≤ 1048576) (hk : ks.length ≤ 1048576) (hf : fs.length ≤ 1048576) (h : InPool w ts ks fs A0 A1 A2) (hg : Laid w) (hp : poolB a b c d e ts ks fs tn = true) (hw : btw wk 0 (a - 1) = true) (rp : Int) (h1 : rp ≠ 1) (h7 : rp ≠ 7)
 (hb : ∀ (V : World) (g : Nat) (C0 C1 C2 : Option Addr) (e0 e1 e2 : Nat), Below w.heap.size w V → Sep (fps [.blk g 35 #[.slice C0 ts.length e0, .slice C1 ks.length e1, .slice C2 fs.length e2, .int .i64 tn, .bool st], rT ts.length C0 e0 ts, rK ks.length C1 e1 ks, rF fs.length C2 e2 fs]) V V [.blk g 35 #[.slice C0 ts.length e0, .slice C1 ks.length e1, .slice C2 fs.length e2, .int .i64 tn, .bool st], rT ts.length C0 e0 ts, rK ks.length C1 e1 ks, rF fs.length C2 e2 fs] → Calls Tryz.prog G2 (#[.pointer (some ⟨g, 0, none⟩)] ++ cap2) V (fun r w' => r = .returned (.iface 133 (.int .i64 rp)) ∧ Sep (fps [.blk g 35 #[.slice C0 ts.length e0, .slice C1 ks.length e1, .slice C2 fs.length e2, .int .i64 tn, .bool st], rT ts.length C0 e0 ts, rK ks.length C1 e1 ks, rF fs.length C2 e2 fs]) V w' [])) :
 Calls Tryz.prog 59 #[.agg #[.int .i64 a, .int .i64 b, .int .i64 c, .int .i64 d, .int .i64 e], .agg #[.slice A0 ts.length c0, .slice A1 ks.length c1, .slice A2 fs.length c2, .int .i64 tn, .bool st], .int .i64 wk, .func (.func G2) #[] cap2] w (GaveS [] w ⟨ts, ks, fs, tn, st, rp, 0⟩) :=
 livedAs_face a b c d e ts ks fs A0 A1 A2 c0 c1 c2 tn st wk G2 cap2 w ht hk hf h ⟨ts, ks, fs, tn, st, rp, 0⟩ (fun V bL hV hc hl => lived_noB a b c d e ts ks fs A0 A1 A2 c0 c1 c2 tn st wk 123 #[.pointer (some ⟨bL, 0, none⟩)] (Go.Proofs.enters_of Tryz.func123 (by kernel_rfl) rfl) V ht hk hf (h.below hV) hp hw rp (fun V2 g C0 C1 C2 e0 e1 e2 hV2 hM hq => livedAsC_no ts ks fs C0 C1 C2 e0 e1 e2 tn st g V2 ht hk hf hM G2 cap2 hG2 (.iface 133 (.int .i64 rp)) rp 0 (fun V' h' => answer_y rp V' h') (fun V' => keeps_y_no rp h1 h7 V') bL ((hV2.cell (p := ⟨bL, 0, none⟩) hl).trans hc) (Nat.lt_of_lt_of_le hl hV2.size) ((hg.below hV).below hV2) (fun q hq' => Nat.le_trans (Laid.lt hg) (Nat.le_trans hV.size (hq q hq'))) (fun V3 hV3 hM3 => hb V3 g C0 C1 C2 e0 e1 e2 (hV.trans ((hV2.trans (hV3.mono hV2.size)).mono hV.size)) hM3)))
theorem livedAs_yes (a b c d e : Int) (ts : List T7) (ks : List Int) (fs : List F2) (A0 A1 A2 : Option Addr) (c0 c1 c2 : Nat) (tn : Int) (st : Bool) (wk : Int) (G2 : FuncId) (cap2 : Array Value) (hG2 : ∀ args w, (callFunc G2 args).run Tryz.prog w = .ok (.enter G2 args) w) (w : World) (ht : ts.length ≤ 1048576) (hk : ks.length ≤ 1048576) (hf : fs.length ≤ 1048576) (h : InPool w ts ks fs A0 A1 A2) (hg : Laid w) (hp : poolB a b c d e ts ks fs tn = true) (hw : btw wk 0 (a - 1) = true) (o : OutP) (hr : o.rp = 1 ∨ o.rp = 7)
 (hb : ∀ (V : World) (g : Nat) (C0 C1 C2 : Option Addr) (e0 e1 e2 : Nat), Below w.heap.size w V → Sep (fps [.blk g 35 #[.slice C0 ts.length e0, .slice C1 ks.length e1, .slice C2 fs.length e2, .int .i64 tn, .bool st], rT ts.length C0 e0 ts, rK ks.length C1 e1 ks, rF fs.length C2 e2 fs]) V V [.blk g 35 #[.slice C0 ts.length e0, .slice C1 ks.length e1, .slice C2 fs.length e2, .int .i64 tn, .bool st], rT ts.length C0 e0 ts, rK ks.length C1 e1 ks, rF fs.length C2 e2 fs] → Calls Tryz.prog G2 (#[.pointer (some ⟨g, 0, none⟩)] ++ cap2) V (fun r w' => r = .returned (.iface 165 (.agg #[.iface 133 (.int .i64 o.rp), .int .i64 o.ou])) ∧ HeldO (fps [.blk g 35 #[.slice C0 ts.length e0, .slice C1 ks.length e1, .slice C2 fs.length e2, .int .i64 tn, .bool st], rT ts.length C0 e0 ts, rK ks.length C1 e1 ks, rF fs.length C2 e2 fs]) g o V w')) :
 Calls Tryz.prog 59 #[.agg #[.int .i64 a, .int .i64 b, .int .i64 c, .int .i64 d, .int .i64 e], .agg #[.slice A0 ts.length c0, .slice A1 ks.length c1, .slice A2 fs.length c2, .int .i64 tn, .bool st], .int .i64 wk, .func (.func G2) #[] cap2] w (GaveS [] w o) :=
 livedAs_face a b c d e ts ks fs A0 A1 A2 c0 c1 c2 tn st wk G2 cap2 w ht hk hf h o (fun V bL hV hc hl => lived_yesB a b c d e ts ks fs A0 A1 A2 c0 c1 c2 tn st wk 123 #[.pointer (some ⟨bL, 0, none⟩)] (Go.Proofs.enters_of Tryz.func123 (by kernel_rfl) rfl) V ht hk hf (h.below hV) hp hw o (fun V2 g C0 C1 C2 e0 e1 e2 hV2 hM hq => livedAsC_yes ts ks fs C0 C1 C2 e0 e1 e2 tn st g V2 ht hk hf hM G2 cap2 hG2 (.iface 165 (.agg #[.iface 133 (.int .i64 o.rp), .int .i64 o.ou])) o (fun V' h' => answer_d o.rp o.ou V' h') (fun V' => hr.elim (fun hr => keeps_d_yes1 o.rp o.ou hr V') (fun hr => keeps_d_yes7 o.rp o.ou hr V')) bL ((hV2.cell (p := ⟨bL, 0, none⟩) hl).trans hc) (Nat.lt_of_lt_of_le hl hV2.size) ((hg.below hV).below hV2) (fun q hq' => Nat.le_trans (Laid.lt hg) (Nat.le_trans hV.size (hq q hq'))) (fun V3 hV3 hM3 => (hb V3 g C0 C1 C2 e0 e1 e2 (hV.trans ((hV2.trans (hV3.mono hV2.size)).mono hV.size)) hM3).mono (fun r w' ⟨hr, D0, D1, D2, f0, f1, f2, hs⟩ => ⟨D0, D1, D2, f0, f1, f2, hr, hs⟩))))
/-- All blocks from B on lie as they lay. -/
structure Above (B : Nat) (W W' : World) : Prop where
 size : W.heap.size ≤ W'.heap.size
 same : ∀ k, B ≤ k → k < W.heap.size → W'.heap[k]? = W.heap[k]?
theorem Above.refl (B : Nat) (W : World) : Above B W W := ⟨Nat.le_refl _, fun _ _ _ => rfl⟩
theorem Above.trans {B : Nat} {A C D : World} (h : Above B A C) (k : Above B C D) : Above B A D :=
 ⟨Nat.le_trans h.size k.size, fun i hB hi => (k.same i hB (Nat.lt_of_lt_of_le hi h.size)).trans (h.same i hB hi)⟩
theorem Above.mono {B B' : Nat} {A C : World} (h : Above B A C) (hB : B ≤ B') : Above B' A C := ⟨h.size, fun k hk hl => h.same k (Nat.le_trans hB hk) hl⟩
theorem Above.some {B k : Nat} {o : Obj} {A C : World} (h : Above B A C) (hB : B ≤ k) (ho : A.heap[k]? = some o) : C.heap[k]? = some o :=
 (h.same k hB (Array.getElem?_eq_some_iff.1 ho).1).trans ho
/-- A walk by things whose blocks all lie below B. -/
theorem Sep.above {S : List Nat} {w W : World} {rs : List Res} {B : Nat} (h : Sep S w W rs) (hS : ∀ g ∈ S, g < B) : Above B w W :=
 ⟨h.size, fun k hk hl => h.block k hl (fun hm => by have := hS k hm; omega)⟩
/-- What speaks of the blocks below B alone. -/
def Abides {β : Type} (B : Nat) (J : β → World → Prop) : Prop := ∀ s A C, J s A → Below B A C → J s C
/-- The iterator g, at what it has captured: it hands out xs, one after the other, till a round says no. -/
def SeqS {α : Type} (F : Fence) (n : Nat) (P : Program) (g : Nat) (lb : Array Value) (enc : α → Array Value) (xs : List α) (w : World) : Prop :=
 ∀ (l : Nat) (J Jx : List α → World → Prop) (W : World), Below w.heap.size w W → Abides W.heap.size J → Abides W.heap.size Jx →
  (∀ pre x W1, J pre W1 → pre ++ [x] <+: xs → YieldAt F (n - 1) P l (enc x) W1 fun e W' =>
   (e = .returned (.bool true) ∧ J (pre ++ [x]) W' ∧ Above W.heap.size W1 W') ∨ (e = .returned (.bool false) ∧ Jx (pre ++ [x]) W')) →
  J [] W →
  CallsIn F n P g (#[.func (.yield l) #[] #[]] ++ lb) W fun e W' => (∃ v, e = .returned v) ∧ (J xs W' ∨ ∃ pre, pre <+: xs ∧ Jx pre W')
/-- How the body of a round may be left. -/
def postS {α : Type} (B : Nat) (I : List α → World → Prop) (Ix : Code → List α → World → Prop) (xs : List α) (W : World) : Exit → Act → World → Prop
 | .normal, _, W' => Above B W W' ∧ I xs W'
 | .ret, _, W' => Above B W W' ∧ Ix .ret xs W'
 | _, _, _ => False
theorem below_put {B : Nat} (W : World) (l : Nat) (o : Obj) (hl : B ≤ l) (hB : B ≤ W.heap.size) : Below B W (W.putObj l o) :=
 (Below.refl B W).grown (grownBy_putObj' W l o) hB (fun k e => by cases e; exact hl)
variable {F : Fence} {n : Nat} {P : Program}
theorem wpIn_range_s {α : Type} {g : Operand} {ps : Array Tmp} {assign body : Code} {Q : Exit → Act → World → Prop} {a : Act} {w : World}
 (hro : F.round = none) (h1 : 1 ≤ n) {gf : Nat} {lb : Array Value} (hg : a.eval g = .func (.func gf) #[] lb) (hFg : F.fn gf) (eg : ∀ args w, (callFunc gf args).run P w = .ok (.enter gf args) w)
 {enc : α → Array Value} {xs : List α} {w0 : World} (hseq : SeqS F (n - 1) P gf lb enc xs w0) (hb0 : Below w0.heap.size w0 w) (hps : ∀ x, (enc x).size = ps.size)
 (I : List α → World → Prop) (Ix : Code → List α → World → Prop) (hI : Abides w.heap.size I) (hIx : ∀ c, Abides w.heap.size (Ix c)) (h0 : I [] w) (a₁ : α → Act)
 (hassign : ∀ (l : Nat) (x : α) (W : World) (K : Act → World → Prop), K (a₁ x) W →
  assign.wpIn (F.inRound l) (n - 1 - 1) P (Exit.then K (fun _ _ _ => False)) { tmps := (ps.zip (enc x)).foldl (fun t (p, v) => t.setIfInBounds p v) a.tmps, defers := [] } W)
 (hbody : ∀ (l : Nat) (pre : List α) (x : α) (W : World), w.heap.size ≤ W.heap.size → I pre W → pre ++ [x] <+: xs → body.wpIn (F.inRound l) (n - 1 - 1) P (postS w.heap.size I Ix (pre ++ [x]) W) (a₁ x) W)
 (hdone : ∀ (D : Nat) (W : World), w.heap.size ≤ D → I xs W → W.heap[D]? = some (.deferred (some [])) → Q .normal { a with defers := { target := .collected D, args := #[] } :: a.defers } W)
 (hstop : ∀ (D : Nat) (pre : List α) (W : World), w.heap.size ≤ D → pre <+: xs → Ix .ret pre W → W.heap[D]? = some (.deferred (some [])) → Code.ret.wpIn F n P Q { a with defers := { target := .collected D, args := #[] } :: a.defers } W) :
 (Code.rangeFunc g ps assign body).wpIn F n P Q a w := by
 refine wpIn_rangeFunc ?_
 intro fn hfn
 rw [hro]
 obtain ⟨rec, hrec⟩ : ∃ rec : LoopState → Option Code → Loop, rec = fun st pe => { state := st, pending := pe, fn, tmps := a.tmps, params := ps, assign, body, defers := w.heap.size } := ⟨_, rfl⟩
 obtain ⟨W1, hW1⟩ : ∃ W1, (w.alloc (.deferred (some []))).alloc (.loop (rec .ready none)) = W1 := ⟨_, rfl⟩
 have hz : W1.heap.size = w.heap.size + 2 := by rw [← hW1]; simp
 have hb1 : Below w.heap.size w W1 := by rw [← hW1]; exact ((Below.refl _ w).alloc (Nat.le_refl _) _).alloc (by simp) _
 have hL1 : W1.heap[w.heap.size + 1]? = some (.loop (rec .ready none)) := by
  rw [← hW1]; have := World.alloc_heap_new (w.alloc (.deferred (some []))) (.loop (rec .ready none)); rwa [World.size_alloc] at this
 have hK1 : W1.heap[w.heap.size]? = some (.deferred (some [])) := by
  rw [← hW1]; exact (Below.heap_alloc _ _ _ (by simp)).trans (World.alloc_heap_new w _)
 refine ⟨w.heap.size + 1, [{ target := .collected w.heap.size, args := #[] }], W1, { target := .fn (.func gf) lb, args := #[.func (.yield (w.heap.size + 1)) #[] #[]] }, W1, gf,
  #[.func (.yield (w.heap.size + 1)) #[] #[]] ++ lb, W1, ?_, ?_, ?_, ?_, fun _ => h1, ?_⟩
 ·rw [← hW1, hrec]; exact run_enterLoop_outer _ _ _ _ _
 ·simp only [resolve, hg]
  simp [go_sem]
 ·intro f' hf'; simp [Target.leads] at hf'; subst hf'; exact hFg
 ·simp [invoke, go_sem, eg]
 ·have keep : ∀ {A C : World} {k : Nat} {o : Obj}, Below W1.heap.size A C → k < w.heap.size + 2 → A.heap[k]? = some o → C.heap[k]? = some o := fun hb hk ho => (hb.block _ (by omega)).trans ho
  refine (hseq (w.heap.size + 1)
   (fun pre W => (I pre W ∧ w.heap.size ≤ W.heap.size) ∧ W.heap[w.heap.size + 1]? = some (.loop (rec .ready none)) ∧ W.heap[w.heap.size]? = some (.deferred (some [])))
   (fun pre W => Ix .ret pre W ∧ W.heap[w.heap.size + 1]? = some (.loop (rec .done (some .ret))) ∧ W.heap[w.heap.size]? = some (.deferred (some [])))
   W1 (hb0.trans (hb1.mono hb0.size))
   (fun s A C hs hb => ⟨⟨hI s A C hs.1.1 (hb.mono (by omega)), Nat.le_trans hs.1.2 hb.size⟩, keep hb (by omega) hs.2.1, keep hb (by omega) hs.2.2⟩)
   (fun s A C hs hb => ⟨hIx _ s A C hs.1 (hb.mono (by omega)), keep hb (by omega) hs.2.1, keep hb (by omega) hs.2.2⟩)
   ?_ ⟨⟨hI _ _ _ h0 hb1, hb1.size⟩, hL1, hK1⟩).mono ?_
  ·rintro pre x W ⟨⟨hi, hsz⟩, hl, hk⟩ hpre
   have hlt : w.heap.size + 1 < W.heap.size := (Array.getElem?_eq_some_iff.1 hl).1
   have hy := run_yield (P := P) (args := enc x) hl (by rw [hrec]; exact hps x)
   rw [hrec] at hy
   refine ⟨fn, _, assign, body, hy, roundIn_of_wpIn hfn (hassign _ x W _ ⟨_, run_beginRound hl (by rw [hrec]), ?_⟩)⟩
   obtain ⟨W2, hW2⟩ : ∃ W2, W.putObj (w.heap.size + 1) (.loop { rec .ready none with state := .busy }) = W2 := ⟨_, rfl⟩
   have hl2 : W2.heap[w.heap.size + 1]? = some (.loop { rec .ready none with state := .busy }) := by rw [← hW2]; exact World.putObj_heap_same hlt
   have hk2 : W2.heap[w.heap.size]? = some (.deferred (some [])) := by rw [← hW2]; exact (World.putObj_heap_other (by omega)).trans hk
   have hb2 : Below w.heap.size W W2 := by rw [← hW2]; exact below_put _ _ _ (by omega) (by omega)
   have ha2 : Above W1.heap.size W W2 := by
    rw [← hW2, hz]
    exact ⟨by simp, fun k hk _ => World.putObj_heap_other (by omega)⟩
   have hgoal := hbody (w.heap.size + 1) pre x W2 (Nat.le_trans hsz hb2.size) (hI _ _ _ hi hb2) hpre
   have hgoal2 : body.wpIn (F.inRound (w.heap.size + 1)) (n - 1 - 1) P (postS w.heap.size I Ix (pre ++ [x]) W2) (a₁ x) (W.putObj (w.heap.size + 1) (.loop { rec .ready none with state := .busy })) := by rw [hW2]; exact hgoal
   refine wpIn_mono hgoal2 ?_
   have fin : ∀ (jump : Option Code) (W3 : World), Above w.heap.size W2 W3 →
    (Instr.endRound (w.heap.size + 1) jump).run P W3 = .ok (.bool jump.isNone) (W3.putObj (w.heap.size + 1) (.loop (rec (if jump.isNone then .ready else .done) jump))) ∧
    Below w.heap.size W3 (W3.putObj (w.heap.size + 1) (.loop (rec (if jump.isNone then .ready else .done) jump))) ∧
    Above W1.heap.size W3 (W3.putObj (w.heap.size + 1) (.loop (rec (if jump.isNone then .ready else .done) jump))) ∧
    (W3.putObj (w.heap.size + 1) (.loop (rec (if jump.isNone then .ready else .done) jump))).heap[w.heap.size + 1]? = some (.loop (rec (if jump.isNone then .ready else .done) jump)) ∧
    (W3.putObj (w.heap.size + 1) (.loop (rec (if jump.isNone then .ready else .done) jump))).heap[w.heap.size]? = some (.deferred (some [])) := fun jump W3 hk3 => by
    have hl3 := hk3.some (by omega) hl2
    have hlt3 := (Array.getElem?_eq_some_iff.1 hl3).1
    refine ⟨?_, below_put _ _ _ (by omega) (by omega), ⟨by simp, fun k hk _ => World.putObj_heap_other (by omega)⟩, World.putObj_heap_same hlt3, (World.putObj_heap_other (by omega)).trans (hk3.some (Nat.le_refl _) hk2)⟩
    have := run_endRound (P := P) jump hl3
    rw [hrec] at this ⊢
    exact this
   rintro e a3 W3 hp
   cases e with
   | normal =>
    obtain ⟨hk3, hi3⟩ := hp
    obtain ⟨hr, hb4, ha4, hl4, hk4⟩ := fin none W3 hk3
    exact ⟨_, _, hr, .inl ⟨rfl, ⟨⟨hI _ _ _ hi3 hb4, Nat.le_trans (Nat.le_trans hsz hb2.size) (Nat.le_trans hk3.size hb4.size)⟩, hl4, hk4⟩, (ha2.trans (hk3.mono (by omega))).trans ha4⟩⟩
   | ret =>
    obtain ⟨hk3, hi3⟩ := hp
    obtain ⟨hr, hb4, _, hl4, hk4⟩ := fin (some .ret) W3 hk3
    exact ⟨_, _, hr, .inr ⟨rfl, hIx _ _ _ _ hi3 hb4, hl4, hk4⟩⟩
   | exit id => exact hp.elim
   | goto t => exact hp.elim
   | panic ch => exact hp.elim
   | outgrown => exact hp.elim
  ·rintro e W2 ⟨⟨v, rfl⟩, (⟨⟨hi, hsz⟩, hl, hk⟩ | ⟨pre, hpre, hi, hl, hk⟩)⟩
   ·exact ⟨none, _, by have := run_endLoop (P := P) hl (by rw [hrec]; simp); rw [hrec] at this; exact this, hdone _ _ (Nat.le_refl _) (hI _ _ _ hi (below_put _ _ _ (by omega) hsz)) ((World.putObj_heap_other (by omega)).trans hk)⟩
   ·have hlt := (Array.getElem?_eq_some_iff.1 hl).1
    exact ⟨some .ret, _, by have := run_endLoop (P := P) hl (by rw [hrec]; simp); rw [hrec] at this; exact this, hstop _ pre _ (Nat.le_refl _) hpre (hIx _ _ _ _ hi (below_put _ _ _ (by omega) (by omega))) ((World.putObj_heap_other (by omega)).trans hk)⟩
/-- A place in a line: level, turn, number. -/
structure P3 where (l t i : Int)
instance : Inhabited P3 := ⟨⟨0, 0, 0⟩⟩
def P3.cs (x : P3) : List Value := [.int .i64 x.l, .int .i64 x.t, .int .i64 x.i]
def P3.val (x : P3) : Value := .agg #[.int .i64 x.l, .int .i64 x.t, .int .i64 x.i]
def pcells (ps : List P3) : List Value := ps.flatMap P3.cs
def aheadP (x y : P3) : Bool := if x.l = y.l then (if x.t = y.t then decide (x.i < y.i) else decide (x.t < y.t)) else decide (y.l < x.l)
theorem pcells_length (ps : List P3) : (pcells ps).length = ps.length * 3 := by
 induction ps with
 | nil => rfl
 | cons x r ih => simp only [pcells, List.flatMap_cons, List.length_append, List.length_cons] at ih ⊢; rw [ih]; simp [P3.cs]; omega
theorem pcells_get (ps : List P3) (k : Nat) (hk : k < ps.length) (j : Nat) (hj : j < 3) : (pcells ps)[k * 3 + j]? = ps[k].cs[j]? := by
 induction ps generalizing k with
 | nil => simp at hk
 | cons x r ih =>
  have e : pcells (x :: r) = x.cs ++ pcells r := rfl
  rw [e]
  cases k with
  | zero => rw [List.getElem?_append_left (by simp [P3.cs]; omega)]; simp
  | succ k =>
   have hl : x.cs.length = 3 := rfl
   rw [List.getElem?_append_right (by rw [hl]; omega), hl, show (k + 1) * 3 + j - 3 = k * 3 + j from by omega, ih k (by simpa using hk)]
   simp
theorem pcells_at (ps : List P3) (j : Nat) : (pcells ps)[j]? = (ps[j / 3]?).bind (fun t => t.cs[j % 3]?) := by
 by_cases h : j / 3 < ps.length
 ·have := pcells_get ps (j / 3) h (j % 3) (by omega)
  rw [show j / 3 * 3 + j % 3 = j from by omega] at this
  rw [this]; simp [h]
 ·rw [List.getElem?_eq_none (by rw [pcells_length]; omega), List.getElem?_eq_none (by omega)]; rfl
theorem pcells_put (ps : List P3) (k : Nat) (x : P3) : (((pcells ps).set (k * 3) (.int .i64 x.l)).set (k * 3 + 1) (.int .i64 x.t)).set (k * 3 + 2) (.int .i64 x.i) = pcells (ps.set k x) := by
 apply List.ext_getElem?
 intro j
 rw [pcells_at (ps.set k x)]
 simp only [List.getElem?_set, List.length_set, pcells_length]
 by_cases hk : k = j / 3
 ·subst hk
  by_cases hl : j / 3 < ps.length
  ·have h3 : j % 3 = 0 ∨ j % 3 = 1 ∨ j % 3 = 2 := by omega
   have hj : j < ps.length * 3 := by omega
   rcases h3 with h | h | h
   all_goals rw [h]
   all_goals simp only [hl, if_true, Option.bind_some, P3.cs]
   ·rw [if_neg (by omega), if_neg (by omega), if_pos (by omega), if_pos (by omega)]; rfl
   ·rw [if_neg (by omega), if_pos (by omega), if_pos (by omega)]; rfl
   ·rw [if_pos (by omega), if_pos (by omega)]; rfl
  ·simp only [hl, if_false, if_true, Option.bind_none]
   repeat (split; · first | omega | (split <;> first | omega | rfl))
   rw [List.getElem?_eq_none (by rw [pcells_length]; omega)]
 ·rw [if_neg hk, if_neg (by omega), if_neg (by omega), if_neg (by omega), pcells_at]
theorem pcells_take (xs : List P3) (k : Nat) : (pcells xs).take (k * 3) = pcells (xs.take k) := by
 apply List.ext_getElem?
 intro j
 rw [List.getElem?_take, pcells_at, pcells_at, List.getElem?_take]
 by_cases h : j < k * 3
 ·rw [if_pos h, if_pos (show j / 3 < k by omega)]
 ·rw [if_neg h, if_neg (show ¬ j / 3 < k by omega)]; rfl
theorem infoPlace : (Tryz.prog.info? 152).map (fun i => (i.zero, i.size, i.bytes)) = some (some (.agg #[.int .i64 0, .int .i64 0, .int .i64 0]), 3, 24) := by kernel_rfl
set_option maxHeartbeats 4000000 in
theorem ahead_any (l t i l2 t2 i2 : Int) (w : World) :
 Calls Tryz.prog 226 #[.agg #[.int .i64 l, .int .i64 t, .int .i64 i], .agg #[.int .i64 l2, .int .i64 t2, .int .i64 i2]] w fun r w' => r = .returned (.bool (aheadP ⟨l, t, i⟩ ⟨l2, t2, i2⟩)) ∧ Below w.heap.size w w' := by
 by_cases k1 : l = l2
 ·by_cases k2 : t = t2
  ·have e : aheadP ⟨l, t, i⟩ ⟨l2, t2, i2⟩ = decide (i < i2) := by simp [aheadP, k1, k2]
   rw [e]
   subst k1 k2
   go_enter Tryz.func226, Tryz.ntmps226
   go_wp2
   go_ret
   exact ⟨rfl, by go_grown⟩
  ·have e : aheadP ⟨l, t, i⟩ ⟨l2, t2, i2⟩ = decide (t < t2) := by simp [aheadP, k1, k2]
   rw [e]
   subst k1
   go_enter Tryz.func226, Tryz.ntmps226
   go_wp2
   go_ret
   exact ⟨rfl, by go_grown⟩
 ·have e : aheadP ⟨l, t, i⟩ ⟨l2, t2, i2⟩ = decide (l2 < l) := by simp [aheadP, k1]
  rw [e]
  go_enter Tryz.func226, Tryz.ntmps226
  go_wp2
  go_ret
  exact ⟨rfl, by go_grown⟩
end Go.Proofs.YtfkdfkoigojciaaGreatDoor
