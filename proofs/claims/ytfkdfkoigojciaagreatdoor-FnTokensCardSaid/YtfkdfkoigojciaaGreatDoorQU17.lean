import Derived.Test.YtfkdfkoigojciaaGreatDoorChecked
import Derived.WalkKit
import Derived.LaidEql
import Derived.Stop.Asserts
import Derived.RowKitTokens
import Derived.Handy
import Derived.Test.YtfkdfkoigojciaaGreatDoorQU03
import Derived.Lib.Hide
import Derived.Test.YtfkdfkoigojciaaGreatDoorQU09

namespace Go.Proofs.YtfkdfkoigojciaaGreatDoor
open Go.RowKit
set_option linter.unusedVariables false
open Go.RowKit Go.Extern.Stop Go.Stop Go.Extern
theorem v160P (t : Addr) (w : World) : (callFunc 187 #[.iface 167 (.pointer (some t))]).run Tryz.prog w = .ok (.value (.agg #[.pointer (some ⟨1, 167, none⟩), .pointer (some ⟨w.heap.size, 0, none⟩), .int .u64 150])) (w.alloc (.cells #[.pointer (some t)] 167)) := by kernel_rfl
theorem v160Q (t : Addr) (w : World) : (callFunc 187 #[.iface 168 (.pointer (some t))]).run Tryz.prog w = .ok (.value (.agg #[.pointer (some ⟨1, 168, none⟩), .pointer (some ⟨w.heap.size, 0, none⟩), .int .u64 150])) (w.alloc (.cells #[.pointer (some t)] 168)) := by kernel_rfl
theorem v160Y (r : Int) (w : World) : (callFunc 187 #[.iface 133 (.int .i64 r)]).run Tryz.prog w = .ok (.value (.agg #[.pointer (some ⟨1, 133, none⟩), .pointer (some ⟨w.heap.size, 0, none⟩), .int .u64 134])) (w.alloc (.cells #[.int .i64 r] 133)) := by kernel_rfl
theorem v160D (x : Value) (y : Int) (w : World) : (callFunc 187 #[.iface 165 (.agg #[x, .int .i64 y])]).run Tryz.prog w = .ok (.value (.agg #[.pointer (some ⟨1, 165, none⟩), .pointer (some ⟨w.heap.size, 0, none⟩), .int .u64 153])) (w.alloc (.cells #[x, .int .i64 y] 165)) := by kernel_rfl
theorem t161P (a : Addr) (w : World) : (callFunc 188 #[.agg #[.pointer (some ⟨1, 167, none⟩), .pointer (some a), .int .u64 150]]).run Tryz.prog w = .ok (.value (.iface 206 (.agg #[.pointer (some ⟨1, 167, none⟩)]))) w := by kernel_rfl
theorem t161Q (a : Addr) (w : World) : (callFunc 188 #[.agg #[.pointer (some ⟨1, 168, none⟩), .pointer (some a), .int .u64 150]]).run Tryz.prog w = .ok (.value (.iface 206 (.agg #[.pointer (some ⟨1, 168, none⟩)]))) w := by kernel_rfl
theorem k195P (w : World) : (callFunc 218 #[.pointer (some ⟨1, 167, none⟩)]).run Tryz.prog w = .ok (.value (.int .u8 22)) w := by kernel_rfl
theorem k195Q (w : World) : (callFunc 218 #[.pointer (some ⟨1, 168, none⟩)]).run Tryz.prog w = .ok (.value (.int .u8 22)) w := by kernel_rfl
theorem k195Y (w : World) : (callFunc 218 #[.pointer (some ⟨1, 133, none⟩)]).run Tryz.prog w = .ok (.value (.int .u8 6)) w := by kernel_rfl
theorem k195D (w : World) : (callFunc 218 #[.pointer (some ⟨1, 165, none⟩)]).run Tryz.prog w = .ok (.value (.int .u8 25)) w := by kernel_rfl
theorem e214P (w : World) : (callFunc 237 #[.agg #[.pointer (some ⟨1, 167, none⟩)]]).run Tryz.prog w = .ok (.value (.iface 206 (.agg #[.pointer (some ⟨1, 133, none⟩)]))) w := by kernel_rfl
theorem e214Q (w : World) : (callFunc 237 #[.agg #[.pointer (some ⟨1, 168, none⟩)]]).run Tryz.prog w = .ok (.value (.iface 206 (.agg #[.pointer (some ⟨1, 165, none⟩)]))) w := by kernel_rfl
theorem i215Y (w : World) : (callFunc 238 #[.agg #[.pointer (some ⟨1, 133, none⟩)], .iface 206 (.agg #[.pointer (some ⟨1, 84, none⟩)])]).run Tryz.prog w = .ok (.value (.bool true)) w := by kernel_rfl
theorem i215D (w : World) : (callFunc 238 #[.agg #[.pointer (some ⟨1, 165, none⟩)], .iface 206 (.agg #[.pointer (some ⟨1, 84, none⟩)])]).run Tryz.prog w = .ok (.value (.bool true)) w := by kernel_rfl
theorem c164D (v : Value) (w : World) : (callFunc 191 #[.iface 165 v]).run Tryz.prog w = .ok (.value (.iface 206 (.agg #[.pointer (some ⟨1, 165, none⟩)]))) w := by kernel_rfl
theorem a212YY (w : World) : (callFunc 235 #[.agg #[.pointer (some ⟨1, 133, none⟩)], .iface 206 (.agg #[.pointer (some ⟨1, 133, none⟩)])]).run Tryz.prog w = .ok (.value (.bool true)) w := by kernel_rfl
theorem a212DD (w : World) : (callFunc 235 #[.agg #[.pointer (some ⟨1, 165, none⟩)], .iface 206 (.agg #[.pointer (some ⟨1, 165, none⟩)])]).run Tryz.prog w = .ok (.value (.bool true)) w := by kernel_rfl
theorem a212YD (w : World) : (callFunc 235 #[.agg #[.pointer (some ⟨1, 133, none⟩)], .iface 206 (.agg #[.pointer (some ⟨1, 165, none⟩)])]).run Tryz.prog w = .ok (.value (.bool false)) w := by kernel_rfl
theorem a212DY (w : World) : (callFunc 235 #[.agg #[.pointer (some ⟨1, 165, none⟩)], .iface 206 (.agg #[.pointer (some ⟨1, 133, none⟩)])]).run Tryz.prog w = .ok (.value (.bool false)) w := by kernel_rfl
theorem noAsY (v : Value) (xT : TypeId) (w : World) : (Instr.typeAssert (.iface 133 v) xT 210 true).run Tryz.prog w = .ok (.tuple #[.nilIface, .bool false]) w := run_typeAssert_lacksB Tryz.underlying210 (by kernel_rfl) (by kernel_rfl) v xT w
theorem noAsD (v : Value) (xT : TypeId) (w : World) : (Instr.typeAssert (.iface 165 v) xT 210 true).run Tryz.prog w = .ok (.tuple #[.nilIface, .bool false]) w := run_typeAssert_lacksB Tryz.underlying210 (by kernel_rfl) (by kernel_rfl) v xT w
theorem noUnY (v : Value) (xT : TypeId) (w : World) : (Instr.typeAssert (.iface 133 v) xT 213 true).run Tryz.prog w = .ok (.tuple #[.nilIface, .bool false]) w := run_typeAssert_lacksB Tryz.underlying213 (by kernel_rfl) (by kernel_rfl) v xT w
theorem noUnsY (v : Value) (xT : TypeId) (w : World) : (Instr.typeAssert (.iface 133 v) xT 215 true).run Tryz.prog w = .ok (.tuple #[.nilIface, .bool false]) w := run_typeAssert_lacksB Tryz.underlying215 (by kernel_rfl) (by kernel_rfl) v xT w
theorem hasUnD (v : Value) (xT : TypeId) (w : World) : (Instr.typeAssert (.iface 165 v) xT 213 true).run Tryz.prog w = .ok (.tuple #[.iface 165 v, .bool true]) w := run_typeAssert_hasB Tryz.underlying213 (by kernel_rfl) v xT w
theorem c164 (v : Value) (w : World) : (callFunc 191 #[.iface 133 v]).run Tryz.prog w = .ok (.value (.iface 206 (.agg #[.pointer (some ⟨1, 133, none⟩)]))) w := by kernel_rfl
theorem unwrap_any (r ou : Int) (w : World) : Calls Tryz.prog 229 #[.agg #[.iface 133 (.int .i64 r), .int .i64 ou]] w fun e w' => e = .returned (.iface 133 (.int .i64 r)) ∧ Below w.heap.size w w' := by
 go_enter Tryz.func229, Tryz.ntmps229
 go_wp2
 go_ret
 exact ⟨rfl, by go_grown⟩
theorem rlm (z : Sem Value) (f : TypeId → Addr → Nat → Nat → Sem Value) (v : Value) :
 ReflectliteValue.method z f #[v] = (do match ← ReflectliteValue.parts v with | none => z | some (t, a, fl) => f t a fl (fl % 32)) := rfl
theorem parts161 (a : Addr) (w : World) : (ReflectliteValue.parts (.agg #[.pointer (some ⟨1, 167, none⟩), .pointer (some a), .int .u64 150])).run Tryz.prog w = .ok (some (167, a, 150)) w := by kernel_rfl
theorem parts162 (a : Addr) (w : World) : (ReflectliteValue.parts (.agg #[.pointer (some ⟨1, 168, none⟩), .pointer (some a), .int .u64 150])).run Tryz.prog w = .ok (some (168, a, 150)) w := by kernel_rfl
theorem isNil161 (a p : Addr) (W : World) (ha : W.cell? a = some (.pointer (some p))) : (callFunc 189 #[.agg #[.pointer (some ⟨1, 167, none⟩), .pointer (some a), .int .u64 150]]).run Tryz.prog W = .ok (.value (.bool false)) W := by
 have h8 := @run_callFunc_extern Tryz.prog 189 _ (ReflectliteValue.method (ReflectliteValue.valueError "reflectlite.Value.IsNil" 0) ReflectliteValue.isNil) Tryz.func189 (by kernel_rfl) (by kernel_rfl) (by kernel_rfl) (by kernel_rfl)
 rw [h8, rlm]
 simp only [Sem.run_bind, parts161, Result.andThen]
 simp [ReflectliteValue.isNil, loadVar, isAgg, underlying, Tryz.underlying167, ha, Result.andThen]
theorem isNil162 (a p : Addr) (W : World) (ha : W.cell? a = some (.pointer (some p))) : (callFunc 189 #[.agg #[.pointer (some ⟨1, 168, none⟩), .pointer (some a), .int .u64 150]]).run Tryz.prog W = .ok (.value (.bool false)) W := by
 have h8 := @run_callFunc_extern Tryz.prog 189 _ (ReflectliteValue.method (ReflectliteValue.valueError "reflectlite.Value.IsNil" 0) ReflectliteValue.isNil) Tryz.func189 (by kernel_rfl) (by kernel_rfl) (by kernel_rfl) (by kernel_rfl)
 rw [h8, rlm]
 simp only [Sem.run_bind, parts162, Result.andThen]
 simp [ReflectliteValue.isNil, loadVar, isAgg, underlying, Tryz.underlying168, ha, Result.andThen]
theorem elemOf161 (w : World) : (Rtype.elem? 167).run Tryz.prog w = .ok (some 133) w := by kernel_rfl
theorem elemOf162 (w : World) : (Rtype.elem? 168).run Tryz.prog w = .ok (some 165) w := by kernel_rfl
theorem mk123 (p : Addr) (w : World) : (ReflectliteValue.mk 133 p ReflectliteValue.flagAddr).run Tryz.prog w = .ok (.agg #[.pointer (some ⟨1, 133, none⟩), .pointer (some p), .int .u64 390]) w := by kernel_rfl
theorem mk159 (p : Addr) (w : World) : (ReflectliteValue.mk 165 p ReflectliteValue.flagAddr).run Tryz.prog w = .ok (.agg #[.pointer (some ⟨1, 165, none⟩), .pointer (some p), .int .u64 409]) w := by kernel_rfl
theorem elemV161 (a p : Addr) (W : World) (ha : W.cell? a = some (.pointer (some p))) : (callFunc 201 #[.agg #[.pointer (some ⟨1, 167, none⟩), .pointer (some a), .int .u64 150]]).run Tryz.prog W = .ok (.value (.agg #[.pointer (some ⟨1, 133, none⟩), .pointer (some p), .int .u64 390])) W := by
 have h8 := @run_callFunc_extern Tryz.prog 201 _ (ReflectliteValue.method (ReflectliteValue.valueError "reflectlite.Value.Elem" 0) ReflectliteValue.elem) Tryz.func201 (by kernel_rfl) (by kernel_rfl) (by kernel_rfl) (by kernel_rfl)
 rw [h8, rlm]
 simp only [Sem.run_bind, parts161, Result.andThen]
 simp [ReflectliteValue.elem, loadVar, isAgg, underlying, Tryz.underlying167, ha, Result.andThen, elemOf161, mk123]
theorem elemV162 (a p : Addr) (W : World) (ha : W.cell? a = some (.pointer (some p))) : (callFunc 201 #[.agg #[.pointer (some ⟨1, 168, none⟩), .pointer (some a), .int .u64 150]]).run Tryz.prog W = .ok (.value (.agg #[.pointer (some ⟨1, 165, none⟩), .pointer (some p), .int .u64 409])) W := by
 have h8 := @run_callFunc_extern Tryz.prog 201 _ (ReflectliteValue.method (ReflectliteValue.valueError "reflectlite.Value.Elem" 0) ReflectliteValue.elem) Tryz.func201 (by kernel_rfl) (by kernel_rfl) (by kernel_rfl) (by kernel_rfl)
 rw [h8, rlm]
 simp only [Sem.run_bind, parts162, Result.andThen]
 simp [ReflectliteValue.elem, loadVar, isAgg, underlying, Tryz.underlying168, ha, Result.andThen, elemOf162, mk159]
theorem rls (v x : Value) : ReflectliteValue.set #[v, x] = (do
 let (some (dst, a, fl), some (src, b, _)) := (← ReflectliteValue.parts v, ← ReflectliteValue.parts x)
  | unsupported (.noEntry "extern/(internal/reflectlite.Value).Set.zeroValue")
 if fl / ReflectliteValue.flagAddr % 2 == 0 then unsupported (.noEntry "extern/(internal/reflectlite.Value).Set.unaddressable")
 let val ← loadVar src b
 if ← Rtype.directlyAssignable dst src then storeVar dst a val
 else if ← Rtype.implements dst src then
  if (← Rtype.kind src) == 20 then
   match val with
   | .nilIface => unsupported (.noEntry "extern/reflectlite: a nil value of one interface type handed on as a value of another")
   | _ => storeVar dst a val
  else storeVar dst a (.iface src val)
 else panicString ("reflectlite.Set: value of type " ++ (← Rtype.spelt src) ++ " is not assignable to type " ++ (← Rtype.spelt dst))
 pure (.tuple #[])) := rfl
theorem parts123a (a : Addr) (w : World) : (ReflectliteValue.parts (.agg #[.pointer (some ⟨1, 133, none⟩), .pointer (some a), .int .u64 390])).run Tryz.prog w = .ok (some (133, a, 390)) w := by kernel_rfl
theorem parts123 (a : Addr) (w : World) : (ReflectliteValue.parts (.agg #[.pointer (some ⟨1, 133, none⟩), .pointer (some a), .int .u64 134])).run Tryz.prog w = .ok (some (133, a, 134)) w := by kernel_rfl
theorem parts159a (a : Addr) (w : World) : (ReflectliteValue.parts (.agg #[.pointer (some ⟨1, 165, none⟩), .pointer (some a), .int .u64 409])).run Tryz.prog w = .ok (some (165, a, 409)) w := by kernel_rfl
theorem parts159 (a : Addr) (w : World) : (ReflectliteValue.parts (.agg #[.pointer (some ⟨1, 165, none⟩), .pointer (some a), .int .u64 153])).run Tryz.prog w = .ok (some (165, a, 153)) w := by kernel_rfl
theorem direct123 (w : World) : (Rtype.directlyAssignable 133 133).run Tryz.prog w = .ok true w := by kernel_rfl
theorem direct159 (w : World) : (Rtype.directlyAssignable 165 165).run Tryz.prog w = .ok true w := by kernel_rfl
theorem set123 (ta b : Addr) (r : Int) (old : Value) (W : World) (hb : W.cell? b = some (.int .i64 r)) (ht : W.cell? ta = some old) (hf : W.frozen? ta = false) :
 (callFunc 202 #[.agg #[.pointer (some ⟨1, 133, none⟩), .pointer (some ta), .int .u64 390], .agg #[.pointer (some ⟨1, 133, none⟩), .pointer (some b), .int .u64 134]]).run Tryz.prog W = .ok (.value (.tuple #[])) (W.setCell ta (.int .i64 r)) := by
 have h12 := @run_callFunc_extern Tryz.prog 202 _ ReflectliteValue.set Tryz.func202 (by kernel_rfl) (by kernel_rfl) (by kernel_rfl) (by kernel_rfl)
 rw [h12, rls]
 simp only [Sem.run_bind, parts123a, parts123, Result.andThen]
 simp [ReflectliteValue.flagAddr, loadVar, isAgg, underlying, Tryz.underlying133, hb, Result.andThen, direct123, storeVar, Value.cells, storeCells, Addr.add]
 rw [run_store Tryz.prog W ta _ _ (by rfl)]
 simp [ht, hf]
open Go.RowKit Go.Extern.Stop Go.Stop Go.Extern
theorem eqSaying (r k : Int) (w : World) : (binOp .eql 84 (.iface 133 (.int .i64 r)) (.iface 133 (.int .i64 k))).run Tryz.prog w = .ok (.bool (r == k)) w := by kernel_rfl
theorem eqSaidSaying (v : Value) (k : Int) (w : World) : (binOp .eql 84 (.iface 165 v) (.iface 133 (.int .i64 k))).run Tryz.prog w = .ok (.bool false) w := run_eql_iface_types 165 133 v _ Tryz.underlying84 (by decide) w
theorem noIsY (v : Value) (xT : TypeId) (w : World) : (Instr.typeAssert (.iface 133 v) xT 218 true).run Tryz.prog w = .ok (.tuple #[.nilIface, .bool false]) w := run_typeAssert_lacksB Tryz.underlying218 (by kernel_rfl) (by kernel_rfl) v xT w
theorem noIsD (v : Value) (xT : TypeId) (w : World) : (Instr.typeAssert (.iface 165 v) xT 218 true).run Tryz.prog w = .ok (.tuple #[.nilIface, .bool false]) w := run_typeAssert_lacksB Tryz.underlying218 (by kernel_rfl) (by kernel_rfl) v xT w
theorem c213 (w : World) : (callFunc 236 #[.agg #[.pointer (some ⟨1, 133, none⟩)]]).run Tryz.prog w = .ok (.value (.bool true)) w := by kernel_rfl
theorem is_other (r k : Int) (h : r ≠ k) (w : World) :
 Calls Tryz.prog 168 #[.iface 133 (.int .i64 r), .iface 133 (.int .i64 k)] w fun e w' => e = .returned (.bool false) ∧ w' = w := by
 have h8 := c164
 have h32 := c213
 have eY := eqSaying r k
 rw [show (r == k) = false from beq_eq_false_iff_ne.2 h] at eY
 have n1 := noIsY
 have n2 := noUnY
 have n3 := noUnsY
 clear h
 go_enter Tryz.func168, Tryz.ntmps168
 go_wp2
 refine wp_loop_rounds 1 ?_
 rw [rounds_succ]
 go_wp2
 go_ret
 exact ⟨rfl, rfl⟩
theorem isd_same (r ou k : Int) (h : r = k) (w : World) :
 Calls Tryz.prog 168 #[.iface 165 (.agg #[.iface 133 (.int .i64 r), .int .i64 ou]), .iface 133 (.int .i64 k)] w fun e w' => e = .returned (.bool true) ∧ Below w.heap.size w w' := by
 subst h
 have h8 := c164
 have h32 := c213
 have eY := eqSaying r r
 simp only [beq_self_eq_true] at eY
 have eD := eqSaidSaying
 have n1 := noIsD
 have n2 := hasUnD
 go_enter Tryz.func168, Tryz.ntmps168
 go_wp2
 refine wp_loop_rounds 2 ?_
 rw [rounds_succ]
 go_wp2_with (go_at_call 229; refine (unwrap_any _ _ _).mono ?_; rintro e w1 ⟨rfl, hb⟩)
 rw [rounds_succ]
 go_wp2
 go_ret
 exact ⟨rfl, hb⟩
theorem isd_other (r ou k : Int) (h : r ≠ k) (w : World) :
 Calls Tryz.prog 168 #[.iface 165 (.agg #[.iface 133 (.int .i64 r), .int .i64 ou]), .iface 133 (.int .i64 k)] w fun e w' => e = .returned (.bool false) ∧ Below w.heap.size w w' := by
 have h8 := c164
 have h32 := c213
 have eY := eqSaying r k
 rw [show (r == k) = false from beq_eq_false_iff_ne.2 h] at eY
 have eD := eqSaidSaying
 have n1 := noIsD
 have n2 := hasUnD
 have n3 := noIsY
 have n4 := noUnY
 have n5 := noUnsY
 clear h
 go_enter Tryz.func168, Tryz.ntmps168
 go_wp2
 refine wp_loop_rounds 2 ?_
 rw [rounds_succ]
 go_wp2_with (go_at_call 229; refine (unwrap_any _ _ _).mono ?_; rintro e w1 ⟨rfl, hb⟩)
 rw [rounds_succ]
 go_wp2
 go_ret
 exact ⟨rfl, hb⟩
set_option maxHeartbeats 1000000
set_option maxRecDepth 100000
open Go.RowKit Go.Extern.Stop Go.Stop Go.Extern
theorem set159 (ta tb : Nat) (tt : TypeId) (r ou : Int) (o0 o1 : Value) (W : World) (hb0 : W.cell? ⟨tb, 0, none⟩ = some (.iface 133 (.int .i64 r))) (hb1 : W.cell? ⟨tb, 1, none⟩ = some (.int .i64 ou)) (hA : Blk W ta tt #[o0, o1]) :
 (callFunc 202 #[.agg #[.pointer (some ⟨1, 165, none⟩), .pointer (some ⟨ta, 0, none⟩), .int .u64 409], .agg #[.pointer (some ⟨1, 165, none⟩), .pointer (some ⟨tb, 0, none⟩), .int .u64 153]]).run Tryz.prog W
  = .ok (.value (.tuple #[])) ((W.setCell ⟨ta, 0, none⟩ (.iface 133 (.int .i64 r))).setCell ⟨ta, 1, none⟩ (.int .i64 ou)) := by
 have h12 := @run_callFunc_extern Tryz.prog 202 _ ReflectliteValue.set Tryz.func202 (by kernel_rfl) (by kernel_rfl) (by kernel_rfl) (by kernel_rfl)
 have ht0 : W.cell? ⟨ta, 0, none⟩ = some o0 := hA.cell 0
 have hf0 : W.frozen? ⟨ta, 0, none⟩ = false := hA.frozen 0
 have hA2 := hA.set_ 0 (.iface 133 (.int .i64 r))
 have ht1 : (W.setCell ⟨ta, 0, none⟩ (.iface 133 (.int .i64 r))).cell? ⟨ta, 1, none⟩ = some o1 := hA2.cell 1
 have hf1 : (W.setCell ⟨ta, 0, none⟩ (.iface 133 (.int .i64 r))).frozen? ⟨ta, 1, none⟩ = false := hA2.frozen 1
 rw [h12, rls]
 simp only [Sem.run_bind, parts159a, parts159, Result.andThen]
 simp [ReflectliteValue.flagAddr, loadVar, loadCells, loadCellsFrom, hb0, hb1, Result.andThen, direct159, storeVar, Value.cells, storeCells, Addr.add]
 rw [run_store Tryz.prog W ⟨ta, 0, none⟩ _ _ (by rfl)]
 simp only [ht0, hf0]
 simp
 rw [run_store Tryz.prog _ ⟨ta, 1, none⟩ _ _ (by rfl)]
 simp only [ht1, hf1]
 simp
theorem as_yy (r : Int) (t : Nat) (tt : TypeId) (o0 : Value) (w : World) (hg : w.cell? ⟨0, 0, none⟩ = some (.iface 206 (.agg #[.pointer (some ⟨1, 84, none⟩)]))) (hA : Blk w t tt #[o0]) :
 Calls Tryz.prog 167 #[.iface 133 (.int .i64 r), .iface 167 (.pointer (some ⟨t, 0, none⟩))] w fun e w' => e = .returned (.bool true) ∧ ∃ Wm, Below w.heap.size w Wm ∧ w' = Wm.setCell ⟨t, 0, none⟩ (.int .i64 r) := by
 have x0 := v160P
 have x1 := t161P
 have x2 := k195P
 have x3 := e214P
 have x4 := k195Y
 have x5 := i215Y
 have x6 := c164
 have x7 := a212YY
 have x8 := v160Y
 have hg0 : 0 < w.heap.size := World.block_lt_of_cell? w _ hg
 have htl : t < w.heap.size := hA.lt
 have hB : Below w.heap.size w ((((w.alloc (.cells #[.pointer (some ⟨t, 0, none⟩)] 167)).alloc (.cells #[.pointer (some ⟨1, 167, none⟩), .pointer (some ⟨w.heap.size, 0, none⟩), .int .u64 150] 188)).alloc (.cells #[.pointer (some ⟨1, 167, none⟩), .pointer (some ⟨w.heap.size, 0, none⟩), .int .u64 150] 188)).alloc (.cells #[.int .i64 r] 133)) := ((((Below.refl _ _).alloc (Nat.le_refl _) _).alloc (by simp) _).alloc (by simp; omega) _).alloc (by simp; omega) _
 have hA4 := hA.below hB htl
 have n8 := isNil161 ⟨w.heap.size, 0, none⟩ ⟨t, 0, none⟩ ((w.alloc (.cells #[.pointer (some ⟨t, 0, none⟩)] 167)).alloc (.cells #[.pointer (some ⟨1, 167, none⟩), .pointer (some ⟨w.heap.size, 0, none⟩), .int .u64 150] 188)) (by simp)
 have e8 := elemV161 ⟨w.heap.size, 0, none⟩ ⟨t, 0, none⟩ (((w.alloc (.cells #[.pointer (some ⟨t, 0, none⟩)] 167)).alloc (.cells #[.pointer (some ⟨1, 167, none⟩), .pointer (some ⟨w.heap.size, 0, none⟩), .int .u64 150] 188)).alloc (.cells #[.pointer (some ⟨1, 167, none⟩), .pointer (some ⟨w.heap.size, 0, none⟩), .int .u64 150] 188)) (by rw [World.cell?_alloc_lt _ _ ⟨w.heap.size, 0, none⟩ (by simp; omega)]; simp)
 have s8 := set123 ⟨t, 0, none⟩ ⟨w.heap.size + 1 + 1 + 1, 0, none⟩ r o0 ((((w.alloc (.cells #[.pointer (some ⟨t, 0, none⟩)] 167)).alloc (.cells #[.pointer (some ⟨1, 167, none⟩), .pointer (some ⟨w.heap.size, 0, none⟩), .int .u64 150] 188)).alloc (.cells #[.pointer (some ⟨1, 167, none⟩), .pointer (some ⟨w.heap.size, 0, none⟩), .int .u64 150] 188)).alloc (.cells #[.int .i64 r] 133))
  (by rw [World.cell?_alloc_at _ _ _ _ (by simp)]; rfl) (hA4.cell 0) (hA4.frozen 0)
 have hg2 : ((w.alloc (.cells #[.pointer (some ⟨t, 0, none⟩)] 167)).alloc (.cells #[.pointer (some ⟨1, 167, none⟩), .pointer (some ⟨w.heap.size, 0, none⟩), .int .u64 150] 188)).cell? ⟨0, 0, none⟩ = some (.iface 206 (.agg #[.pointer (some ⟨1, 84, none⟩)])) := by
  rw [World.cell?_alloc_lt _ _ ⟨0, 0, none⟩ (by simp), World.cell?_alloc_lt _ _ ⟨0, 0, none⟩ hg0]; exact hg
 have HB := Lib.hid hB
 clear hA hA4 hB hg
 go_enter Tryz.func167, Tryz.ntmps167
 go_wp2
 refine wp_loop_rounds 1 ?_
 rw [rounds_succ]
 go_wp2
 go_ret
 exact ⟨rfl, _, HB.out, rfl⟩
theorem as_dd (r ou : Int) (t : Nat) (tt : TypeId) (o0 o1 : Value) (w : World) (hg : w.cell? ⟨0, 0, none⟩ = some (.iface 206 (.agg #[.pointer (some ⟨1, 84, none⟩)]))) (hA : Blk w t tt #[o0, o1]) :
 Calls Tryz.prog 167 #[.iface 165 (.agg #[.iface 133 (.int .i64 r), .int .i64 ou]), .iface 168 (.pointer (some ⟨t, 0, none⟩))] w fun e w' => e = .returned (.bool true) ∧ ∃ Wm, Below w.heap.size w Wm ∧ w' = (Wm.setCell ⟨t, 0, none⟩ (.iface 133 (.int .i64 r))).setCell ⟨t, 1, none⟩ (.int .i64 ou) := by
 have x0 := v160Q
 have x1 := t161Q
 have x2 := k195Q
 have x3 := e214Q
 have x4 := k195D
 have x5 := i215D
 have x6 := c164D
 have x7 := a212DD
 have x8 := v160D
 have hg0 : 0 < w.heap.size := World.block_lt_of_cell? w _ hg
 have htl : t < w.heap.size := hA.lt
 have hB : Below w.heap.size w ((((w.alloc (.cells #[.pointer (some ⟨t, 0, none⟩)] 168)).alloc (.cells #[.pointer (some ⟨1, 168, none⟩), .pointer (some ⟨w.heap.size, 0, none⟩), .int .u64 150] 188)).alloc (.cells #[.pointer (some ⟨1, 168, none⟩), .pointer (some ⟨w.heap.size, 0, none⟩), .int .u64 150] 188)).alloc (.cells #[.iface 133 (.int .i64 r), .int .i64 ou] 165)) := ((((Below.refl _ _).alloc (Nat.le_refl _) _).alloc (by simp) _).alloc (by simp; omega) _).alloc (by simp; omega) _
 have hA4 := hA.below hB htl
 have n8 := isNil162 ⟨w.heap.size, 0, none⟩ ⟨t, 0, none⟩ ((w.alloc (.cells #[.pointer (some ⟨t, 0, none⟩)] 168)).alloc (.cells #[.pointer (some ⟨1, 168, none⟩), .pointer (some ⟨w.heap.size, 0, none⟩), .int .u64 150] 188)) (by simp)
 have e8 := elemV162 ⟨w.heap.size, 0, none⟩ ⟨t, 0, none⟩ (((w.alloc (.cells #[.pointer (some ⟨t, 0, none⟩)] 168)).alloc (.cells #[.pointer (some ⟨1, 168, none⟩), .pointer (some ⟨w.heap.size, 0, none⟩), .int .u64 150] 188)).alloc (.cells #[.pointer (some ⟨1, 168, none⟩), .pointer (some ⟨w.heap.size, 0, none⟩), .int .u64 150] 188)) (by rw [World.cell?_alloc_lt _ _ ⟨w.heap.size, 0, none⟩ (by simp; omega)]; simp)
 have s8 := set159 t (w.heap.size + 1 + 1 + 1) tt r ou o0 o1 ((((w.alloc (.cells #[.pointer (some ⟨t, 0, none⟩)] 168)).alloc (.cells #[.pointer (some ⟨1, 168, none⟩), .pointer (some ⟨w.heap.size, 0, none⟩), .int .u64 150] 188)).alloc (.cells #[.pointer (some ⟨1, 168, none⟩), .pointer (some ⟨w.heap.size, 0, none⟩), .int .u64 150] 188)).alloc (.cells #[.iface 133 (.int .i64 r), .int .i64 ou] 165))
  (by rw [World.cell?_alloc_at _ _ _ _ (by simp)]; rfl) (by rw [World.cell?_alloc_at _ _ _ _ (by simp)]; rfl) hA4
 have hg2 : ((w.alloc (.cells #[.pointer (some ⟨t, 0, none⟩)] 168)).alloc (.cells #[.pointer (some ⟨1, 168, none⟩), .pointer (some ⟨w.heap.size, 0, none⟩), .int .u64 150] 188)).cell? ⟨0, 0, none⟩ = some (.iface 206 (.agg #[.pointer (some ⟨1, 84, none⟩)])) := by
  rw [World.cell?_alloc_lt _ _ ⟨0, 0, none⟩ (by simp), World.cell?_alloc_lt _ _ ⟨0, 0, none⟩ hg0]; exact hg
 have HB := Lib.hid hB
 clear hA hA4 hB hg
 go_enter Tryz.func167, Tryz.ntmps167
 go_wp2
 refine wp_loop_rounds 1 ?_
 rw [rounds_succ]
 go_wp2
 go_ret
 exact ⟨rfl, _, HB.out, rfl⟩
set_option maxHeartbeats 1000000
set_option maxRecDepth 100000
open Go.RowKit Go.Extern.Stop Go.Stop Go.Extern
theorem unwrap_x (r ou : Int) (w : World) : Calls Tryz.prog 229 #[.agg #[.iface 133 (.int .i64 r), .int .i64 ou]] w fun e w' => e = .returned (.iface 133 (.int .i64 r)) ∧ w' = w.alloc (.cells #[.iface 133 (.int .i64 r), .int .i64 ou] 165) := by
 go_enter Tryz.func229, Tryz.ntmps229
 go_wp2
 go_ret
 exact ⟨rfl, rfl⟩
theorem as_dy (r ou : Int) (t : Nat) (tt : TypeId) (o0 : Value) (w : World) (hg : w.cell? ⟨0, 0, none⟩ = some (.iface 206 (.agg #[.pointer (some ⟨1, 84, none⟩)]))) (hA : Blk w t tt #[o0]) :
 Calls Tryz.prog 167 #[.iface 165 (.agg #[.iface 133 (.int .i64 r), .int .i64 ou]), .iface 167 (.pointer (some ⟨t, 0, none⟩))] w fun e w' => e = .returned (.bool true) ∧ ∃ Wm, Below w.heap.size w Wm ∧ w' = Wm.setCell ⟨t, 0, none⟩ (.int .i64 r) := by
 have x0 := v160P
 have x1 := t161P
 have x2 := k195P
 have x3 := e214P
 have x4 := k195Y
 have x5 := i215Y
 have x6 := c164D
 have x7 := a212DY
 have x8 := c164
 have x9 := a212YY
 have x10 := v160Y
 have x11 := noAsD
 have x12 := hasUnD
 have hg0 : 0 < w.heap.size := World.block_lt_of_cell? w _ hg
 have htl : t < w.heap.size := hA.lt
 have hB : Below w.heap.size w (((((w.alloc (.cells #[.pointer (some ⟨t, 0, none⟩)] 167)).alloc (.cells #[.pointer (some ⟨1, 167, none⟩), .pointer (some ⟨w.heap.size, 0, none⟩), .int .u64 150] 188)).alloc (.cells #[.pointer (some ⟨1, 167, none⟩), .pointer (some ⟨w.heap.size, 0, none⟩), .int .u64 150] 188)).alloc (.cells #[.iface 133 (.int .i64 r), .int .i64 ou] 165)).alloc (.cells #[.int .i64 r] 133)) := (((((Below.refl _ _).alloc (Nat.le_refl _) _).alloc (by simp) _).alloc (by simp; omega) _).alloc (by simp; omega) _).alloc (by simp; omega) _
 have hA4 := hA.below hB htl
 have n8 := isNil161 ⟨w.heap.size, 0, none⟩ ⟨t, 0, none⟩ ((w.alloc (.cells #[.pointer (some ⟨t, 0, none⟩)] 167)).alloc (.cells #[.pointer (some ⟨1, 167, none⟩), .pointer (some ⟨w.heap.size, 0, none⟩), .int .u64 150] 188)) (by simp)
 have e8 := elemV161 ⟨w.heap.size, 0, none⟩ ⟨t, 0, none⟩ ((((w.alloc (.cells #[.pointer (some ⟨t, 0, none⟩)] 167)).alloc (.cells #[.pointer (some ⟨1, 167, none⟩), .pointer (some ⟨w.heap.size, 0, none⟩), .int .u64 150] 188)).alloc (.cells #[.pointer (some ⟨1, 167, none⟩), .pointer (some ⟨w.heap.size, 0, none⟩), .int .u64 150] 188)).alloc (.cells #[.iface 133 (.int .i64 r), .int .i64 ou] 165)) (by rw [World.cell?_alloc_lt _ _ ⟨w.heap.size, 0, none⟩ (by simp; omega), World.cell?_alloc_lt _ _ ⟨w.heap.size, 0, none⟩ (by simp; omega)]; simp)
 have s8 := set123 ⟨t, 0, none⟩ ⟨w.heap.size + 1 + 1 + 1 + 1, 0, none⟩ r o0 (((((w.alloc (.cells #[.pointer (some ⟨t, 0, none⟩)] 167)).alloc (.cells #[.pointer (some ⟨1, 167, none⟩), .pointer (some ⟨w.heap.size, 0, none⟩), .int .u64 150] 188)).alloc (.cells #[.pointer (some ⟨1, 167, none⟩), .pointer (some ⟨w.heap.size, 0, none⟩), .int .u64 150] 188)).alloc (.cells #[.iface 133 (.int .i64 r), .int .i64 ou] 165)).alloc (.cells #[.int .i64 r] 133))
  (by rw [World.cell?_alloc_at _ _ _ _ (by simp)]; rfl) (hA4.cell 0) (hA4.frozen 0)
 have hg2 : ((w.alloc (.cells #[.pointer (some ⟨t, 0, none⟩)] 167)).alloc (.cells #[.pointer (some ⟨1, 167, none⟩), .pointer (some ⟨w.heap.size, 0, none⟩), .int .u64 150] 188)).cell? ⟨0, 0, none⟩ = some (.iface 206 (.agg #[.pointer (some ⟨1, 84, none⟩)])) := by
  rw [World.cell?_alloc_lt _ _ ⟨0, 0, none⟩ (by simp), World.cell?_alloc_lt _ _ ⟨0, 0, none⟩ hg0]; exact hg
 have HB := Lib.hid hB
 clear hA hA4 hB hg
 go_enter Tryz.func167, Tryz.ntmps167
 go_wp2
 refine wp_loop_rounds 2 ?_
 rw [rounds_succ]
 go_wp2_with (go_at_call 229; refine (unwrap_x _ _ _).mono ?_; rintro e w1 ⟨rfl, rfl⟩)
 rw [rounds_succ]
 go_wp2
 go_ret
 exact ⟨rfl, _, HB.out, rfl⟩
theorem as_yd (r : Int) (t : Nat) (w : World) (hg : w.cell? ⟨0, 0, none⟩ = some (.iface 206 (.agg #[.pointer (some ⟨1, 84, none⟩)]))) :
 Calls Tryz.prog 167 #[.iface 133 (.int .i64 r), .iface 168 (.pointer (some ⟨t, 0, none⟩))] w fun e w' => e = .returned (.bool false) ∧ Below w.heap.size w w' := by
 have x0 := v160Q
 have x1 := t161Q
 have x2 := k195Q
 have x3 := e214Q
 have x4 := k195D
 have x5 := i215D
 have x6 := c164
 have x7 := a212YD
 have x8 := noAsY
 have x9 := noUnY
 have x10 := noUnsY
 have hg0 : 0 < w.heap.size := World.block_lt_of_cell? w _ hg
 have hB : Below w.heap.size w (((w.alloc (.cells #[.pointer (some ⟨t, 0, none⟩)] 168)).alloc (.cells #[.pointer (some ⟨1, 168, none⟩), .pointer (some ⟨w.heap.size, 0, none⟩), .int .u64 150] 188)).alloc (.cells #[.pointer (some ⟨1, 168, none⟩), .pointer (some ⟨w.heap.size, 0, none⟩), .int .u64 150] 188)) := (((Below.refl _ _).alloc (Nat.le_refl _) _).alloc (by simp) _).alloc (by simp; omega) _
 have n8 := isNil162 ⟨w.heap.size, 0, none⟩ ⟨t, 0, none⟩ ((w.alloc (.cells #[.pointer (some ⟨t, 0, none⟩)] 168)).alloc (.cells #[.pointer (some ⟨1, 168, none⟩), .pointer (some ⟨w.heap.size, 0, none⟩), .int .u64 150] 188)) (by simp)
 have hg2 : ((w.alloc (.cells #[.pointer (some ⟨t, 0, none⟩)] 168)).alloc (.cells #[.pointer (some ⟨1, 168, none⟩), .pointer (some ⟨w.heap.size, 0, none⟩), .int .u64 150] 188)).cell? ⟨0, 0, none⟩ = some (.iface 206 (.agg #[.pointer (some ⟨1, 84, none⟩)])) := by
  rw [World.cell?_alloc_lt _ _ ⟨0, 0, none⟩ (by simp), World.cell?_alloc_lt _ _ ⟨0, 0, none⟩ hg0]; exact hg
 have HB := Lib.hid hB
 clear hB hg
 go_enter Tryz.func167, Tryz.ntmps167
 go_wp2
 refine wp_loop_rounds 1 ?_
 rw [rounds_succ]
 go_wp2
 go_ret
 exact ⟨rfl, HB.out⟩
set_option maxHeartbeats 800000
set_option maxRecDepth 100000
theorem answer_y (r : Int) (w : World) (hg : w.cell? ⟨0, 0, none⟩ = some (.iface 206 (.agg #[.pointer (some ⟨1, 84, none⟩)]))) :
 Calls Tryz.prog 124 #[.iface 133 (.int .i64 r)] w fun e w' => e = .returned (.agg #[.int .i64 r, .int .i64 0]) ∧ Below w.heap.size w w' := by
 have HG := hide (⟨hg, World.block_lt_of_cell? w _ hg⟩ : _ ∧ _)
 clear hg
 go_enter Tryz.func124, Tryz.ntmps124
 go_wp2_with fail
 generalize hW : ((w.alloc _).alloc _).alloc _ = W1
 have M := Sep.e3 hW
 clear hW
 obtain ⟨aS, haS⟩ : ∃ aS, aS = w.heap.size := ⟨_, rfl⟩
 obtain ⟨aY, haY⟩ : ∃ aY, aY = w.heap.size + 1 := ⟨_, rfl⟩
 obtain ⟨aD, haD⟩ : ∃ aD, aD = w.heap.size + 2 := ⟨_, rfl⟩
 rw [← haD, ← haY, ← haS] at M ⊢
 clear haD haY haS
 refine Calls.mono (by with_reducible exact (as_yy r aY 133 (.int .i64 0) _ ((M.below.cell (p := ⟨0, 0, none⟩) HG.out.2).trans HG.out.1) (M.blk 1 rfl))) ?_
 rintro rr wz ⟨rfl, Wm, hb, rfl⟩
 replace M := (M.call hb).set 1 rfl 0 (.int .i64 r)
 simp only [zZ, zS, zI] at M
 generalize Wm.setCell ⟨aY, 0, none⟩ (.int .i64 r) = W2 at M ⊢
 clear hb
 go_wp2_with fail
 go_call (as_yd r aD _ ((M.below.cell (p := ⟨0, 0, none⟩) HG.out.2).trans HG.out.1)) as r W3 ⟨rfl, g1⟩
 replace M := M.call g1
 clear g1
 obtain ⟨tD, Ae, Ad, Ai, Ac⟩ := M.f2 0 rfl
 obtain ⟨tY, Ag, Ah⟩ := M.f1 1 rfl
 obtain ⟨tS, Aa, Af, Ab, Aj⟩ := M.f2 2 rfl
 go_wp2_with fail
 clear tD Ae Ad Ai Ac tY Ag Ah tS Aa Af Ab Aj
 replace M := M.gset2 2 rfl (.int .i64 r) (.int .i64 0)
 obtain ⟨W4, eW, M⟩ := M
 rw [eW]
 clear eW
 simp only [zZ, zS] at M
 obtain ⟨tS, Aa, Ab⟩ := M.q2 2 rfl
 exact bodyPost_ret (v := .agg #[.int .i64 r, .int .i64 0]) (by simp [results, Tryz.results124, go_sem, Aa, Ab]) rfl ⟨rfl, M.below⟩
theorem answer_d (r ou : Int) (w : World) (hg : w.cell? ⟨0, 0, none⟩ = some (.iface 206 (.agg #[.pointer (some ⟨1, 84, none⟩)]))) :
 Calls Tryz.prog 124 #[.iface 165 (.agg #[.iface 133 (.int .i64 r), .int .i64 ou])] w fun e w' => e = .returned (.agg #[.int .i64 r, .int .i64 ou]) ∧ Below w.heap.size w w' := by
 have HG := hide (⟨hg, World.block_lt_of_cell? w _ hg⟩ : _ ∧ _)
 clear hg
 go_enter Tryz.func124, Tryz.ntmps124
 go_wp2_with fail
 generalize hW : ((w.alloc _).alloc _).alloc _ = W1
 have M := Sep.e3 hW
 clear hW
 obtain ⟨aS, haS⟩ : ∃ aS, aS = w.heap.size := ⟨_, rfl⟩
 obtain ⟨aY, haY⟩ : ∃ aY, aY = w.heap.size + 1 := ⟨_, rfl⟩
 obtain ⟨aD, haD⟩ : ∃ aD, aD = w.heap.size + 2 := ⟨_, rfl⟩
 rw [← haD, ← haY, ← haS] at M ⊢
 clear haD haY haS
 refine Calls.mono (by with_reducible exact (as_dy r ou aY 133 (.int .i64 0) _ ((M.below.cell (p := ⟨0, 0, none⟩) HG.out.2).trans HG.out.1) (M.blk 1 rfl))) ?_
 rintro rr wz ⟨rfl, Wm, hb, rfl⟩
 replace M := (M.call hb).set 1 rfl 0 (.int .i64 r)
 simp only [zZ, zS, zI] at M
 generalize Wm.setCell ⟨aY, 0, none⟩ (.int .i64 r) = W2 at M ⊢
 clear hb
 go_wp2_with fail
 refine Calls.mono (by with_reducible exact (as_dd r ou aD 165 .nilIface (.int .i64 0) _ ((M.below.cell (p := ⟨0, 0, none⟩) HG.out.2).trans HG.out.1) (M.blk 0 rfl))) ?_
 rintro rr wz ⟨rfl, Wn, hb, rfl⟩
 replace M := ((M.call hb).set 0 rfl 0 (.iface 133 (.int .i64 r))).set 0 rfl 1 (.int .i64 ou)
 simp only [zZ, zS, zI] at M
 generalize (Wn.setCell ⟨aD, 0, none⟩ (.iface 133 (.int .i64 r))).setCell ⟨aD, 1, none⟩ (.int .i64 ou) = W3 at M ⊢
 clear hb
 obtain ⟨tD, Ae, Ad, Ai, Ac⟩ := M.f2 0 rfl
 obtain ⟨tY, Ag, Ah⟩ := M.f1 1 rfl
 obtain ⟨tS, Aa, Af, Ab, Aj⟩ := M.f2 2 rfl
 go_wp2_with fail
 clear tD Ae Ad Ai Ac tY Ag Ah tS Aa Af Ab Aj
 replace M := M.gset2 2 rfl (.int .i64 r) (.int .i64 ou)
 obtain ⟨W4, eW, M⟩ := M
 rw [eW]
 clear eW
 simp only [zZ, zS] at M
 obtain ⟨tS, Aa, Ab⟩ := M.q2 2 rfl
 exact bodyPost_ret (v := .agg #[.int .i64 r, .int .i64 ou]) (by simp [results, Tryz.results124, go_sem, Aa, Ab]) rfl ⟨rfl, M.below⟩
theorem keeps_y_no (r : Int) (h1 : r ≠ 1) (h7 : r ≠ 7) (w : World) :
 Calls Tryz.prog 126 #[.iface 133 (.int .i64 r)] w fun e w' => e = .returned (.bool false) ∧ Below w.heap.size w w' := by
 go_enter Tryz.func126, Tryz.ntmps126
 go_wp2_with fail
 refine Calls.mono (by with_reducible exact (is_other r 1 h1 _)) ?_
 rintro rr W9 ⟨rfl, rfl⟩
 go_wp2_with fail
 refine Calls.mono (by with_reducible exact (is_other r 7 h7 _)) ?_
 rintro rr W9 ⟨rfl, rfl⟩
 go_wp2
 go_ret
 exact ⟨rfl, Below.refl _ _⟩
theorem keeps_d_yes1 (r ou : Int) (h : r = 1) (w : World) :
 Calls Tryz.prog 126 #[.iface 165 (.agg #[.iface 133 (.int .i64 r), .int .i64 ou])] w fun e w' => e = .returned (.bool true) ∧ Below w.heap.size w w' := by
 subst h
 go_enter Tryz.func126, Tryz.ntmps126
 go_wp2_with fail
 refine Calls.mono (by with_reducible exact (isd_same 1 ou 1 rfl _)) ?_
 rintro rr W9 ⟨rfl, g9⟩
 go_wp2
 go_ret
 exact ⟨rfl, g9⟩
theorem keeps_d_yes7 (r ou : Int) (h : r = 7) (w : World) :
 Calls Tryz.prog 126 #[.iface 165 (.agg #[.iface 133 (.int .i64 r), .int .i64 ou])] w fun e w' => e = .returned (.bool true) ∧ Below w.heap.size w w' := by
 subst h
 go_enter Tryz.func126, Tryz.ntmps126
 go_wp2_with fail
 refine Calls.mono (by with_reducible exact (isd_other 7 ou 1 (by omega) _)) ?_
 rintro rr W9 ⟨rfl, g9⟩
 have G9 := hide g9
 clear g9
 go_wp2_with fail
 refine Calls.mono (by with_reducible exact (isd_same 7 ou 7 rfl _)) ?_
 rintro rr W9 ⟨rfl, g9⟩
 go_wp2
 go_ret
 exact ⟨rfl, G9.out.trans (g9.mono G9.out.size)⟩
theorem saidWith_any (r ou : Int) (w : World) :
 Calls Tryz.prog 130 #[.int .i64 r, .int .i64 ou] w fun e w' => e = .returned (.iface 165 (.agg #[.iface 133 (.int .i64 r), .int .i64 ou])) ∧ w = w' := by
 go_enter Tryz.func130, Tryz.ntmps130
 go_wp2
 go_ret
 exact ⟨rfl, rfl⟩
end Go.Proofs.YtfkdfkoigojciaaGreatDoor
