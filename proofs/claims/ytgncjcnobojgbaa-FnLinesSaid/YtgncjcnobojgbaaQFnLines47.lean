/- The drawn pool of chapter 4's law of lines. No condition. -/
import Derived.Test.YtgncjcnobojgbaaQFnLines46
import Derived.Test.YtgncjcnobojgbaaQFnLines44
import Derived.Test.YtgncjcnobojgbaaQFnLines39

namespace Go.Proofs.Ytgncjcnobojgbaa
open Go.RowKit
set_option linter.unusedVariables false

theorem Sep.curIn {B g len cap : Nat} {A : Option Addr} {w W : World} {rs : List Res} {cs : Array Value} (h : Sep [] w W rs) (i : Nat) (hi : rs[i]? = some (.blk g 126 cs)) (hc : curC A len cap cs) (hB : B ≤ w.heap.size) (hl : len ≤ 4096) (hby : Bytes w B A len) : CurAt B W g A len cap := by
  obtain ⟨k, y, rfl, hk⟩ := hc
  have hg : w.heap.size ≤ g := (h.own _ (List.mem_of_getElem? hi) g rfl).elim (fun h1 => by simp at h1) id
  exact ⟨by omega, hl, hby.keep fun b hb => h.block b (by omega) (by simp), k, y, h.blk i hi, hk⟩
theorem Sep.curGo {B g len cap : Nat} {A : Option Addr} {w W W' : World} {rs : List Res} {cs : Array Value} (h : Sep [] w W rs) (i : Nat) (hi : rs[i]? = some (.blk g 126 cs)) (gg : W.grownBy W' (some g)) (d : CurAt B W' g A len cap) : ∃ cs', curC A len cap cs' ∧ Sep [] w W' (rs.set i (.blk g 126 cs')) := by
  obtain ⟨h1, h2, h3, j, x, h4, h5⟩ := d
  exact ⟨_, ⟨j, x, rfl, h5⟩, h.upd i _ _ hi g rfl (fun y hy => by injection hy with hy; exact hy.symm) h4 gg.os gg.tape gg.output gg.size (fun b hb hne => gg.block b hb (by intro e; injection e with e; exact hne e))⟩
set_option maxRecDepth 100000 in
set_option maxHeartbeats 1600000 in
theorem drawReady_any (B : Nat) (w : World) (A : Option Addr) (len cap : Nat) (hB : B ≤ w.heap.size) (hl : len ≤ 4096) (hby : Bytes w B A len) :
    Calls Try.prog 22 #[.slice A len cap] w fun r w' => ∃ (ts : List T7) (ks : List Int) (fs : List F2) (tn : Int) (st : Bool) (B0 B1 B2 : Option Addr) (e0 e1 e2 : Nat), r = .returned (.agg #[.slice B0 ts.length e0, .slice B1 ks.length e1, .slice B2 fs.length e2, .int .i64 tn, .bool st]) ∧ ts.length ≤ 34 ∧ ks.length ≤ 31 ∧ fs.length ≤ 31 ∧ Sep [] w w' [rT ts.length B0 e0 ts, rK ks.length B1 e1 ks, rF fs.length B2 e2 fs] := by
  go_enter Try.func22, Try.ntmps22
  go_wp2_with fail
  have N := (Sep.start w).galloc 34 #[.slice none 0 0, .slice none 0 0, .slice none 0 0, .int .i64 0, .bool false]
  obtain ⟨W1, eW, M⟩ := N
  rw [eW]
  clear eW
  obtain ⟨tR, qR0, fR0, qR1, fR1, qR2, fR2, qR3, fR3, qR4, fR4⟩ := M.f5 0 rfl
  go_wp2_with fail
  clear tR qR0 fR0 qR1 fR1 qR2 fR2 qR3 fR3 qR4 fR4
  have hs1 := M.size
  have hby1 : Bytes W1 B A len := hby.keep fun b hb => M.below.block b (by omega)
  go_call (l1New_any B _ A len cap (by omega) hl hby1) as r W2 ⟨rfl, g1, d⟩
  obtain ⟨cs0, hc, N⟩ := cur_start d
  have N2 := sepCur g1 (Nat.le_refl _) N
  replace M := Sep.new M N2
  clear N N2 g1 hby1 hs1
  simp only [List.cons_append, List.nil_append] at M
  obtain ⟨g, hg⟩ : ∃ g, g = W1.heap.size := ⟨_, rfl⟩
  rw [← hg] at M d ⊢
  clear hg
  obtain ⟨tR, qR0, fR0, qR1, fR1, qR2, fR2, qR3, fR3, qR4, fR4⟩ := M.f5 1 rfl
  go_wp2_with fail
  go_call (l3DrawAny_any B _ g A len cap d) as r W3 ⟨a, b, c, dd, ee, ts, ks, fs, tn, st, B0, B1, B2, e0, e1, e2, n0, n1, n2, cs1, rfl, rfl, rfl, rfl, h0, h1, h2, hc2, g2⟩
  clear tR qR0 fR0 qR1 fR1 qR2 fR2 qR3 fR3 qR4 fR4
  replace M := Sep.comp (ps := [.blk g 126 cs0]) M g2
  clear g2 hc d
  have hc := hc2
  clear hc2
  simp only [List.cons_append, List.nil_append] at M
  obtain ⟨tR, qR0, fR0, qR1, fR1, qR2, fR2, qR3, fR3, qR4, fR4⟩ := M.f5 4 rfl
  go_wp2_with fail
  clear tR qR0 fR0 qR1 fR1 qR2 fR2 qR3 fR3 qR4 fR4
  obtain ⟨pb, hpb⟩ : ∃ pb, pb = W3.heap.size := ⟨_, rfl⟩
  obtain ⟨yb, hyb⟩ : ∃ yb, yb = W3.heap.size + 1 := ⟨_, rfl⟩
  rw [← hyb, ← hpb]
  replace M : Sep [] w ((W3.alloc (.cells #[.int .i64 a, .int .i64 b, .int .i64 c, .int .i64 dd, .int .i64 ee] 28)).alloc (.cells #[.slice B0 ts.length e0, .slice B1 ks.length e1, .slice B2 fs.length e2, .int .i64 tn, .bool st] 34)) [.blk (yb) 34 #[.slice B0 ts.length e0, .slice B1 ks.length e1, .slice B2 fs.length e2, .int .i64 tn, .bool st], .blk (pb) 28 #[.int .i64 a, .int .i64 b, .int .i64 c, .int .i64 dd, .int .i64 ee], rT ts.length B0 e0 ts, rK ks.length B1 e1 ks, rF fs.length B2 e2 fs, .blk g 126 cs1, .blk (w.heap.size) 34 #[.slice none 0 0, .slice none 0 0, .slice none 0 0, .int .i64 0, .bool false]] := (M.alloc 28 #[.int .i64 a, .int .i64 b, .int .i64 c, .int .i64 dd, .int .i64 ee] pb hpb.symm).alloc 34 #[.slice B0 ts.length e0, .slice B1 ks.length e1, .slice B2 fs.length e2, .int .i64 tn, .bool st] yb (by simp [hyb])
  generalize (W3.alloc (.cells #[.int .i64 a, .int .i64 b, .int .i64 c, .int .i64 dd, .int .i64 ee] 28)).alloc (.cells #[.slice B0 ts.length e0, .slice B1 ks.length e1, .slice B2 fs.length e2, .int .i64 tn, .bool st] 34) = W4 at M ⊢
  clear hpb hyb
  go_call (l1Below_pos B _ g A len cap 4 (by omega) (by omega) (M.curIn 5 rfl hc hB hl hby)) as r W5 ⟨nn, rfl, nn1, nn2, gg, d⟩
  have MM := M.curGo 5 rfl gg d
  clear M hc gg d
  obtain ⟨cs2, hc, M⟩ := MM
  simp only [List.set_cons_zero, List.set_cons_succ] at M
  obtain ⟨nq, rfl⟩ : ∃ n : Nat, nn = n := ⟨nn.toNat, by omega⟩
  go_wp2_with fail
  go_loopw [6] (fun i wr => ∃ (k : Nat) (ts : List T7) (B0 : Option Addr) (e0 : Nat) (cs : Array Value), i = .int .i64 k ∧ k ≤ 3 ∧ ts.length + k ≤ 34 ∧ curC A len cap cs ∧ Sep [] w wr [.blk (yb) 34 #[.slice B0 ts.length e0, .slice B1 ks.length e1, .slice B2 fs.length e2, .int .i64 tn, .bool st], .blk (pb) 28 #[.int .i64 a, .int .i64 b, .int .i64 c, .int .i64 dd, .int .i64 ee], rT ts.length B0 e0 ts, rK ks.length B1 e1 ks, rF fs.length B2 e2 fs, .blk g 126 cs, .blk (w.heap.size) 34 #[.slice none 0 0, .slice none 0 0, .slice none 0 0, .int .i64 0, .bool false]]) (fun i _ => (intOf i).toNat)
  case atStart => exact ⟨nq, ts, B0, e0, _, rfl, by omega, by omega, hc, M⟩
  case round =>
    clear M hc
    obtain ⟨k, ts, B0, e0, cs20, rfl, hk, htl, hc, M⟩ := hrel
    rename World => W6
    by_cases hk0 : 0 < k
    · obtain ⟨j, rfl⟩ : ∃ j, k = j + 1 := ⟨k - 1, by omega⟩
      obtain ⟨i0, hi, hz0, hz1, hz2⟩ := info_parts infoTask
      obtain ⟨tY, qY0, qY1, qY2, qY3, qY4⟩ := M.q5 0 rfl
      obtain ⟨tP, qP0, qP1, qP2, qP3, qP4⟩ := M.q5 1 rfl
      obtain ⟨tR, qR0, qR1, qR2, qR3, qR4⟩ := M.q5 6 rfl
      go_wp2_with fail
      clear tY qY0 qY1 qY2 qY3 qY4 tP qP0 qP1 qP2 qP3 qP4 tR qR0 qR1 qR2 qR3 qR4
      refine wp_region_T (S := (fun w' => w'.cell? ⟨pb, 0, none⟩ = some (.int .i64 a) ∧ w'.cell? ⟨pb, 1, none⟩ = some (.int .i64 b) ∧ w'.cell? ⟨pb, 2, none⟩ = some (.int .i64 c) ∧ w'.cell? ⟨pb, 3, none⟩ = some (.int .i64 dd) ∧ w'.cell? ⟨pb, 4, none⟩ = some (.int .i64 ee) ∧ w'.cell? ⟨yb, 0, none⟩ = some (.slice B0 ts.length e0) ∧ w'.cell? ⟨yb, 1, none⟩ = some (.slice B1 ks.length e1) ∧ w'.cell? ⟨yb, 2, none⟩ = some (.slice B2 fs.length e2) ∧ w'.cell? ⟨yb, 3, none⟩ = some (.int .i64 tn) ∧ w'.cell? ⟨yb, 4, none⟩ = some (.bool st))) (ks := [8]) (by kernel_rfl) ⟨M.cell 1 0 rfl, M.cell 1 1 rfl, M.cell 1 2 rfl, M.cell 1 3 rfl, M.cell 1 4 rfl, M.cell 0 0 rfl, M.cell 0 1 rfl, M.cell 0 2 rfl, M.cell 0 3 rfl, M.cell 0 4 rfl⟩ (fun hHeld => ?_)
      replace M := M.drew
      generalize W6.drew = W7 at M hHeld ⊢
      refine wpAnyT_takeY (i := 0) (v := ?v0u1) rfl (by kernel_rfl) (by kernel_rfl) (by kernel_rfl) (by kernel_rfl) (fun _ _ _ h => h) (by rfl) ?hy0u1 (fun _ => hHeld) ?rest0u1
      case hy0u1 => (intro w; go_simp; all_goals with_reducible rfl)
      try simp only [Act.put, List.setIfInBounds_toArray, List.set_cons_zero, List.set_cons_succ]
      refine wpAnyT_takeY (i := 2) (v := ?v2u2) rfl (by kernel_rfl) (by kernel_rfl) (by kernel_rfl) (by kernel_rfl) (fun _ _ _ h => h) (by rfl) ?hy2u2 (fun _ => hHeld) ?rest2u2
      case hy2u2 => (intro w; go_simp; all_goals with_reducible rfl)
      try simp only [Act.put, List.setIfInBounds_toArray, List.set_cons_zero, List.set_cons_succ]
      refine wpAnyT_takeL (i := 1) (v := ?v1u3) rfl (by kernel_rfl) (by kernel_rfl) (by kernel_rfl) (by kernel_rfl) (by kernel_rfl) (fun _ _ _ h => h) (by rfl) ?hy1u3 hHeld ?rest1u3
      case hy1u3 => (intro w hSw; (try dsimp only at hSw); go_split_ands; go_simp; all_goals with_reducible rfl)
      try simp only [Act.put, List.setIfInBounds_toArray, List.set_cons_zero, List.set_cons_succ]
      refine wpAnyT_takeL (i := 3) (v := ?v3u4) rfl (by kernel_rfl) (by kernel_rfl) (by kernel_rfl) (by kernel_rfl) (by kernel_rfl) (fun _ _ _ h => h) (by rfl) ?hy3u4 hHeld ?rest3u4
      case hy3u4 => (intro w hSw; (try dsimp only at hSw); go_split_ands; go_simp; all_goals with_reducible rfl)
      try simp only [Act.put, List.setIfInBounds_toArray, List.set_cons_zero, List.set_cons_succ]
      refine wpAnyT_callL (i := 4) rfl (by kernel_rfl) (fun K hK => ?_)
      go_simp
      refine Calls.mono (by with_reducible exact (l2All_any B _ g A len cap a b c dd ee (M.curIn 5 rfl hc hB hl hby))) ?_
      rintro r W8 ⟨s, l, o, wt, on, v, t, rfl, hs1, hs2, hs3, hs4, hs5, hs6, hs7, gg, d⟩
      have MM := M.curGo 5 rfl gg d
      clear M hc gg d
      obtain ⟨cs21, hc, M⟩ := MM
      simp only [List.set_cons_zero, List.set_cons_succ] at M
      clear hHeld
      go_wp2_with fail
      refine hK.out _ _ ?_ (fun hHeld => ?_)
      · exact ⟨M.cell 1 0 rfl, M.cell 1 1 rfl, M.cell 1 2 rfl, M.cell 1 3 rfl, M.cell 1 4 rfl, M.cell 0 0 rfl, M.cell 0 1 rfl, M.cell 0 2 rfl, M.cell 0 3 rfl, M.cell 0 4 rfl⟩
      clear hK K
      try simp only [Act.put, List.setIfInBounds_toArray, List.set_cons_zero, List.set_cons_succ]
      refine wpAnyT_callL (i := 5) rfl (by kernel_rfl) (fun K hK => ?_)
      go_simp
      obtain ⟨lb, hlb⟩ : ∃ lb, lb = W8.heap.size := ⟨_, rfl⟩
      have hRL : Row (W8.alloc (.cells #[.int .i64 s, .int .i64 l, .int .i64 o, .int .i64 wt, .int .i64 on, .int .i64 v, .int .i64 t] 46)) (some ⟨lb, 0, none⟩) [.int .i64 s, .int .i64 l, .int .i64 o, .int .i64 wt, .int .i64 on, .int .i64 v, .int .i64 t] := by rw [hlb]; exact Row.of_own (World.ownsRow_lit (base := 0) (e := 46) (size := 7) W8 #[.int .i64 s, .int .i64 l, .int .i64 o, .int .i64 wt, .int .i64 on, .int .i64 v, .int .i64 t] 1 (Nat.zero_le _) (by simp [maxLen]) (by simp))
      rw [← hlb]
      clear hlb hHeld
      replace M := (M.allocN 46 #[.int .i64 s, .int .i64 l, .int .i64 o, .int .i64 wt, .int .i64 on, .int .i64 v, .int .i64 t]).tail
      generalize W8.alloc (.cells #[.int .i64 s, .int .i64 l, .int .i64 o, .int .i64 wt, .int .i64 on, .int .i64 v, .int .i64 t] 46) = W9 at M hRL ⊢
      refine hK.out _ _ ?_ (fun hHeld => ?_)
      · exact ⟨M.cell 1 0 rfl, M.cell 1 1 rfl, M.cell 1 2 rfl, M.cell 1 3 rfl, M.cell 1 4 rfl, M.cell 0 0 rfl, M.cell 0 1 rfl, M.cell 0 2 rfl, M.cell 0 3 rfl, M.cell 0 4 rfl⟩
      clear hK K
      try simp only [Act.put, List.setIfInBounds_toArray, List.set_cons_zero, List.set_cons_succ]
      replace M := M.front 2 rfl
      simp only [List.eraseIdx_cons_succ, List.eraseIdx_cons_zero] at M
      have hO : W9.ownsRow 0 46 7 (.slice B0 ts.length e0) ts.length (tcells ts) := M.rowAt 0 rfl
      refine wpAnyT_callL (i := 6) rfl (by kernel_rfl) (fun K hK => ?_)
      refine step_append_sep rfl (.tmp 21) (.tmp 25) 30 rfl 46 i0 (.agg #[.int .i64 0, .int .i64 0, .int .i64 0, .int .i64 0, .int .i64 0, .int .i64 0, .int .i64 0]) 7 56 Try.underlying30 hi hz0 hz1 hz2 rfl (by decide) B0 ts.length e0 (tcells ts) rfl hO ⟨lb, 0, none⟩ 1 1 [.int .i64 s, .int .i64 l, .int .i64 o, .int .i64 wt, .int .i64 on, .int .i64 v, .int .i64 t] rfl rfl hRL (by simp) (by simp [Value.oneCell']) (by unfold maxLen; omega) (by omega) ?_
      intro A' c' W10 kk
      replace kk : Sep (fps [rT ts.length B0 e0 ts]) W9 W10 [rT (ts.length + 1) A' c' (ts ++ [⟨s, l, o, wt, on, v, t⟩])] := by
        unfold rT at kk ⊢
        rw [show tcells ts ++ [.int .i64 s, .int .i64 l, .int .i64 o, .int .i64 wt, .int .i64 on, .int .i64 v, .int .i64 t] = tcells (ts ++ [⟨s, l, o, wt, on, v, t⟩]) from by simp [tcells, T7.cs]] at kk
        exact kk
      replace M : Sep [] w W10 [rT (ts.length + 1) A' c' (ts ++ [⟨s, l, o, wt, on, v, t⟩]), .blk (yb) 34 #[.slice B0 ts.length e0, .slice B1 ks.length e1, .slice B2 fs.length e2, .int .i64 tn, .bool st], .blk (pb) 28 #[.int .i64 a, .int .i64 b, .int .i64 c, .int .i64 dd, .int .i64 ee], rK ks.length B1 e1 ks, rF fs.length B2 e2 fs, .blk g 126 cs21, .blk (w.heap.size) 34 #[.slice none 0 0, .slice none 0 0, .slice none 0 0, .int .i64 0, .bool false]] := Sep.comp (ps := [rT ts.length B0 e0 ts]) (rs := [.blk (yb) 34 #[.slice B0 ts.length e0, .slice B1 ks.length e1, .slice B2 fs.length e2, .int .i64 tn, .bool st], .blk (pb) 28 #[.int .i64 a, .int .i64 b, .int .i64 c, .int .i64 dd, .int .i64 ee], rK ks.length B1 e1 ks, rF fs.length B2 e2 fs, .blk g 126 cs21, .blk (w.heap.size) 34 #[.slice none 0 0, .slice none 0 0, .slice none 0 0, .int .i64 0, .bool false]]) M kk
      clear kk hO hRL hHeld
      refine hK.out _ _ ?_ (fun hHeld => ?_)
      · exact ⟨M.cell 2 0 rfl, M.cell 2 1 rfl, M.cell 2 2 rfl, M.cell 2 3 rfl, M.cell 2 4 rfl, M.cell 1 0 rfl, M.cell 1 1 rfl, M.cell 1 2 rfl, M.cell 1 3 rfl, M.cell 1 4 rfl⟩
      clear hK K
      try simp only [Act.put, List.setIfInBounds_toArray, List.set_cons_zero, List.set_cons_succ]
      refine wpAnyT_takeY (i := 7) (v := ?v7u5) rfl (by kernel_rfl) (by kernel_rfl) (by kernel_rfl) (by kernel_rfl) (fun _ _ _ h => h) (by rfl) ?hy7u5 (fun _ => hHeld) ?rest7u5
      case hy7u5 => (intro w; go_simp; all_goals with_reducible rfl)
      try simp only [Act.put, List.setIfInBounds_toArray, List.set_cons_zero, List.set_cons_succ]
      obtain ⟨tY, qY0, fY0, qY1, fY1, qY2, fY2, qY3, fY3, qY4, fY4⟩ := M.f5 1 rfl
      refine wpAnyT_oneL (i := 8) rfl (by kernel_rfl) (by kernel_rfl) (fun K hK => ?_)
      go_simp
      refine hK.out _ _ ?_
      clear hK K
      try simp only [Act.put, List.setIfInBounds_toArray, List.set_cons_zero, List.set_cons_succ]
      clear tY qY0 fY0 qY1 fY1 qY2 fY2 qY3 fY3 qY4 fY4
      replace M : Sep [] w (W10.setCell ⟨yb, 0, none⟩ (.slice A' (ts.length + 1) c')) [rT (ts.length + 1) A' c' (ts ++ [⟨s, l, o, wt, on, v, t⟩]), .blk (yb) 34 #[.slice A' (ts.length + 1) c', .slice B1 ks.length e1, .slice B2 fs.length e2, .int .i64 tn, .bool st], .blk (pb) 28 #[.int .i64 a, .int .i64 b, .int .i64 c, .int .i64 dd, .int .i64 ee], rK ks.length B1 e1 ks, rF fs.length B2 e2 fs, .blk g 126 cs21, .blk (w.heap.size) 34 #[.slice none 0 0, .slice none 0 0, .slice none 0 0, .int .i64 0, .bool false]] := M.set 1 rfl 0 (.slice A' (ts.length + 1) c')
      generalize W10.setCell ⟨yb, 0, none⟩ (.slice A' (ts.length + 1) c') = W11 at M ⊢
      refine wpAnyT_done (by kernel_rfl) ?_ _
      replace M := M.front 6 rfl
      simp only [List.eraseIdx_cons_succ, List.eraseIdx_cons_zero] at M
      replace M := M.front 6 rfl
      simp only [List.eraseIdx_cons_succ, List.eraseIdx_cons_zero] at M
      replace M := M.front 6 rfl
      simp only [List.eraseIdx_cons_succ, List.eraseIdx_cons_zero] at M
      replace M := M.front 6 rfl
      simp only [List.eraseIdx_cons_succ, List.eraseIdx_cons_zero] at M
      replace M := M.front 4 rfl
      simp only [List.eraseIdx_cons_succ, List.eraseIdx_cons_zero] at M
      replace M := M.front 6 rfl
      simp only [List.eraseIdx_cons_succ, List.eraseIdx_cons_zero] at M
      replace M := M.front 6 rfl
      simp only [List.eraseIdx_cons_succ, List.eraseIdx_cons_zero] at M
      have hlen : (ts ++ [(⟨s, l, o, wt, on, v, t⟩ : T7)]).length = ts.length + 1 := by simp
      rw [← hlen] at M
      go_wp2_with fail
      go_roundw
      case rel => exact ⟨j, _, _, _, _, by go_num, by omega, by omega, hc, M⟩
      case measure => simp [intOf]
    · obtain rfl : k = 0 := by omega
      obtain ⟨tY, qY0, fY0, qY1, fY1, qY2, fY2, qY3, fY3, qY4, fY4⟩ := M.f5 0 rfl
      obtain ⟨tR, qR0, fR0, qR1, fR1, qR2, fR2, qR3, fR3, qR4, fR4⟩ := M.f5 6 rfl
      go_wp2_with fail
      clear tY qY0 fY0 qY1 fY1 qY2 fY2 qY3 fY3 qY4 fY4 tR qR0 fR0 qR1 fR1 qR2 fR2 qR3 fR3 qR4 fR4
      have N := M.gset5 6 rfl (.slice B0 ts.length e0) (.slice B1 ks.length e1) (.slice B2 fs.length e2) (.int .i64 tn) (.bool st)
      clear M
      obtain ⟨W12, eW, M⟩ := N
      rw [eW]
      clear eW
      simp only [List.set_cons_zero, List.set_cons_succ] at M
      obtain ⟨tR, qR0, qR1, qR2, qR3, qR4⟩ := M.q5 6 rfl
      exact bodyPost_ret (v := .agg #[.slice B0 ts.length e0, .slice B1 ks.length e1, .slice B2 fs.length e2, .int .i64 tn, .bool st]) (by simp [results, Try.results22, go_sem, qR0, qR1, qR2, qR3, qR4]) rfl ⟨ts, ks, fs, tn, st, B0, B1, B2, e0, e1, e2, rfl, by omega, h1, h2, (M.drop 2).take 3⟩
end Go.Proofs.Ytgncjcnobojgbaa
