import Derived.Test.YtfkdfkoigojciaaGreatDoorQU24
import Derived.Test.YtfkdfkoigojciaaGreatDoorQU31
import Derived.Test.YtfkdfkoigojciaaGreatDoorQU32
import Derived.Test.YtfkdfkoigojciaaGreatDoorQU33
import Derived.Test.YtfkdfkoigojciaaGreatDoorQU34
import Derived.Test.YtfkdfkoigojciaaGreatDoorQU35
import Derived.Test.YtfkdfkoigojciaaGreatDoorQU27
import Derived.Test.YtfkdfkoigojciaaGreatDoorQU28
import Derived.Test.YtfkdfkoigojciaaGreatDoorQU29
import Derived.Test.YtfkdfkoigojciaaGreatDoorQU36
import Derived.Test.YtfkdfkoigojciaaGreatDoorQU22
import Derived.Test.YtfkdfkoigojciaaGreatDoorQU09

namespace Go.Proofs.YtfkdfkoigojciaaGreatDoor
open Go.RowKit
set_option linter.unusedVariables false
variable (a b c d e : Int) (ts : List T7) (ks : List Int) (fs : List F2) (A0 A1 A2 : Option Addr) (c0 c1 c2 : Nat) (tn : Int) (st : Bool)
theorem get7 {ts : List T7} {k : Nat} (hk : k < ts.length) : ts[k]? = some ⟨(ts.getD k default).s, (ts.getD k default).l, (ts.getD k default).o, (ts.getD k default).wt, (ts.getD k default).on, (ts.getD k default).v, (ts.getD k default).t⟩ := by
 rw [List.getD_eq_getElem?_getD, List.getElem?_eq_getElem hk]; rfl
theorem get2 {fs : List F2} {k : Nat} (hk : k < fs.length) : fs[k]? = some ⟨(fs.getD k default).b, (fs.getD k default).v⟩ := by
 rw [List.getD_eq_getElem?_getD, List.getElem?_eq_getElem hk]; rfl
theorem get1 {ks : List Int} {k : Nat} (hk : k < ks.length) : ks[k]? = some (ks.getD k 0) := by
 rw [List.getD_eq_getElem?_getD, List.getElem?_eq_getElem hk]; rfl
theorem runM_ge (ts : List T7) (wk i : Int) : runM ts wk i = -1 ∨ ∃ k : Nat, runM ts wk i = i + k ∧ k < ts.length := by
 induction ts generalizing i with
 | nil => exact .inl rfl
 | cons t r ih =>
  simp only [runM]
  split
  ·exact .inr ⟨0, by simp, by simp⟩
  ·rcases ih (i + 1) with h | ⟨k, h1, h2⟩
   ·exact .inl h
   ·exact .inr ⟨k + 1, by rw [h1]; push_cast; omega, by simpa using h2⟩
theorem runM_nat {ts : List T7} {wk : Int} (h : ¬ runM ts wk 0 < 0) : ∃ k : Nat, runM ts wk 0 = k ∧ k < ts.length := by
 rcases runM_ge ts wk 0 with h1 | ⟨k, h1, h2⟩
 ·omega
 ·exact ⟨k, by omega, h2⟩
theorem firstM_nat {ts : List T7} (h : ¬ firstM ts < 0) : ∃ k : Nat, firstM ts = k ∧ k < ts.length := by
 unfold firstM at h ⊢
 rcases hr : readyM ts with _ | ⟨j, l⟩
 ·rw [hr] at h; simp at h
 ·obtain ⟨k, h1, h2⟩ := lineM_mem _ _ _ j (show j ∈ readyM ts by rw [hr]; simp)
  exact ⟨k, by simpa using h1, h2⟩
theorem btw_nat {id n : Int} {l : Nat} (hn : n = l) (h : btw id 0 (n - 1) = true) : ∃ k : Nat, id = k ∧ k < l := by
 simp [btw] at h
 exact ⟨id.toNat, by omega, by omega⟩
def takeM (a b c d e : Int) (ts : List T7) (ks : List Int) (fs : List F2) (tn : Int) (st : Bool) (wk : Int) : OutP :=
 if mayB a b c d e ts ks fs tn wk = true then
  if 0 ≤ runM ts wk 0 then noO (poolB a b c d e ts ks fs tn) ts ks fs tn st 3
  else if firstM ts < 0 then (if st = true then noO (poolB a b c d e ts ks fs tn) ts ks fs tn st 6 else noO (poolB a b c d e ts ks fs tn) ts ks fs tn st 2)
  else doneO (poolB a b c d e (ts.set (firstM ts).toNat ⟨2, (ts.getD (firstM ts).toNat default).l, wk, (ts.getD (firstM ts).toNat default).wt, (ts.getD (firstM ts).toNat default).on, (ts.getD (firstM ts).toNat default).v, (ts.getD (firstM ts).toNat default).t⟩) ks fs tn) ts ks fs tn st (ts.set (firstM ts).toNat ⟨2, (ts.getD (firstM ts).toNat default).l, wk, (ts.getD (firstM ts).toNat default).wt, (ts.getD (firstM ts).toNat default).on, (ts.getD (firstM ts).toNat default).v, (ts.getD (firstM ts).toNat default).t⟩) ks fs tn st 1 (firstM ts)
 else noO (poolB a b c d e ts ks fs tn) ts ks fs tn st 8
theorem take_any (wk : Int) (w : World) (ht : ts.length ≤ 1048576) (hk : ks.length ≤ 1048576) (hf : fs.length ≤ 1048576) (h : InPool w ts ks fs A0 A1 A2) :
 Calls Tryz.prog 17 #[qF a b c d e, qP ts ks fs A0 A1 A2 c0 c1 c2 tn st, .int .i64 wk] w (GaveS [] w (takeM a b c d e ts ks fs tn st wk)) := by
 unfold qF qP
 unfold takeM
 split
 ·rename_i hm
  split
  ·rename_i h0; exact taken_busy a b c d e ts ks fs A0 A1 A2 c0 c1 c2 tn st wk w ht hk hf h _ rfl hm _ rfl h0
  ·rename_i h0
   split
   ·rename_i h1
    cases st
    ·exact taken_none a b c d e ts ks fs A0 A1 A2 c0 c1 c2 tn wk w ht hk hf h _ rfl hm _ rfl (by omega) h1
    ·exact taken_stop a b c d e ts ks fs A0 A1 A2 c0 c1 c2 tn wk w ht hk hf h _ rfl hm _ rfl (by omega) h1
   ·rename_i h1
    obtain ⟨k, e1, hkl⟩ := firstM_nat h1
    have h2 := taken_main a b c d e ts ks fs A0 A1 A2 c0 c1 c2 tn st wk w ht hk hf h k _ _ _ _ _ _ _ (get7 hkl) e1 hm _ rfl (by omega)
    rw [e1]
    exact h2
 ·rename_i hm; exact taken_may a b c d e ts ks fs A0 A1 A2 c0 c1 c2 tn st wk w ht hk hf h _ rfl (by simpa using hm)
def yieldM (a b c d e : Int) (ts : List T7) (ks : List Int) (fs : List F2) (tn : Int) (st : Bool) (wk : Int) : OutP :=
 if mayB a b c d e ts ks fs tn wk = true then
  if runM ts wk 0 < 0 then noO (poolB a b c d e ts ks fs tn) ts ks fs tn st 2
  else doneO (poolB a b c d e (ts.set (runM ts wk 0).toNat ⟨1, (ts.getD (runM ts wk 0).toNat default).l, -1, (ts.getD (runM ts wk 0).toNat default).wt, (ts.getD (runM ts wk 0).toNat default).on, (ts.getD (runM ts wk 0).toNat default).v, tn⟩) ks fs (tn + 1)) ts ks fs tn st (ts.set (runM ts wk 0).toNat ⟨1, (ts.getD (runM ts wk 0).toNat default).l, -1, (ts.getD (runM ts wk 0).toNat default).wt, (ts.getD (runM ts wk 0).toNat default).on, (ts.getD (runM ts wk 0).toNat default).v, tn⟩) ks fs (tn + 1) st 1 (runM ts wk 0)
 else noO (poolB a b c d e ts ks fs tn) ts ks fs tn st 8
theorem yield_any (wk : Int) (w : World) (ht : ts.length ≤ 1048576) (hk : ks.length ≤ 1048576) (hf : fs.length ≤ 1048576) (h : InPool w ts ks fs A0 A1 A2) :
 Calls Tryz.prog 159 #[qF a b c d e, qP ts ks fs A0 A1 A2 c0 c1 c2 tn st, .int .i64 wk] w (GaveS [] w (yieldM a b c d e ts ks fs tn st wk)) := by
 unfold qF qP
 unfold yieldM
 split
 ·rename_i hm
  split
  ·rename_i h0; exact yielded_none a b c d e ts ks fs A0 A1 A2 c0 c1 c2 tn st wk w ht hk hf h _ rfl h0 hm
  ·rename_i h0
   obtain ⟨k, e1, hkl⟩ := runM_nat h0
   have h2 := yielded_main a b c d e ts ks fs A0 A1 A2 c0 c1 c2 tn st wk w ht hk hf h k _ _ _ _ _ _ _ (get7 hkl) e1 hm
   rw [e1]
   exact h2
 ·rename_i hm; exact yielded_may a b c d e ts ks fs A0 A1 A2 c0 c1 c2 tn st wk w ht hk hf h _ rfl (by simpa using hm)
def end_M (a b c d e : Int) (ts : List T7) (ks : List Int) (fs : List F2) (tn : Int) (st : Bool) (wk : Int) (vv : Int) : OutP :=
 if mayB a b c d e ts ks fs tn wk = true then
  if btw vv 0 9999 = true then
   if runM ts wk 0 < 0 then noO (poolB a b c d e ts ks fs tn) ts ks fs tn st 2
   else doneO (poolB a b c d e (wakeAllT (waitersM (ts.set (runM ts wk 0).toNat ⟨4, (ts.getD (runM ts wk 0).toNat default).l, -1, (ts.getD (runM ts wk 0).toNat default).wt, (ts.getD (runM ts wk 0).toNat default).on, vv, (ts.getD (runM ts wk 0).toNat default).t⟩) 1 (runM ts wk 0)) (ts.set (runM ts wk 0).toNat ⟨4, (ts.getD (runM ts wk 0).toNat default).l, -1, (ts.getD (runM ts wk 0).toNat default).wt, (ts.getD (runM ts wk 0).toNat default).on, vv, (ts.getD (runM ts wk 0).toNat default).t⟩) tn vv) ks fs (tn + ((waitersM (ts.set (runM ts wk 0).toNat ⟨4, (ts.getD (runM ts wk 0).toNat default).l, -1, (ts.getD (runM ts wk 0).toNat default).wt, (ts.getD (runM ts wk 0).toNat default).on, vv, (ts.getD (runM ts wk 0).toNat default).t⟩) 1 (runM ts wk 0)).length : Nat))) ts ks fs tn st (wakeAllT (waitersM (ts.set (runM ts wk 0).toNat ⟨4, (ts.getD (runM ts wk 0).toNat default).l, -1, (ts.getD (runM ts wk 0).toNat default).wt, (ts.getD (runM ts wk 0).toNat default).on, vv, (ts.getD (runM ts wk 0).toNat default).t⟩) 1 (runM ts wk 0)) (ts.set (runM ts wk 0).toNat ⟨4, (ts.getD (runM ts wk 0).toNat default).l, -1, (ts.getD (runM ts wk 0).toNat default).wt, (ts.getD (runM ts wk 0).toNat default).on, vv, (ts.getD (runM ts wk 0).toNat default).t⟩) tn vv) ks fs (tn + ((waitersM (ts.set (runM ts wk 0).toNat ⟨4, (ts.getD (runM ts wk 0).toNat default).l, -1, (ts.getD (runM ts wk 0).toNat default).wt, (ts.getD (runM ts wk 0).toNat default).on, vv, (ts.getD (runM ts wk 0).toNat default).t⟩) 1 (runM ts wk 0)).length : Nat)) st 1 ((waitersM (ts.set (runM ts wk 0).toNat ⟨4, (ts.getD (runM ts wk 0).toNat default).l, -1, (ts.getD (runM ts wk 0).toNat default).wt, (ts.getD (runM ts wk 0).toNat default).on, vv, (ts.getD (runM ts wk 0).toNat default).t⟩) 1 (runM ts wk 0)).length : Nat)
  else noO (poolB a b c d e ts ks fs tn) ts ks fs tn st 8
 else noO (poolB a b c d e ts ks fs tn) ts ks fs tn st 8
theorem end__any (wk : Int) (vv : Int) (w : World) (ht : ts.length ≤ 1048576) (hk : ks.length ≤ 1048576) (hf : fs.length ≤ 1048576) (h : InPool w ts ks fs A0 A1 A2) :
 Calls Tryz.prog 160 #[qF a b c d e, qP ts ks fs A0 A1 A2 c0 c1 c2 tn st, .int .i64 wk, .int .i64 vv] w (GaveS [] w (end_M a b c d e ts ks fs tn st wk vv)) := by
 unfold qF qP
 unfold end_M
 split
 ·rename_i hm
  split
  ·rename_i hv
   split
   ·rename_i h0; exact ended_none a b c d e ts ks fs A0 A1 A2 c0 c1 c2 tn st wk vv w ht hk hf h _ rfl h0 hm hv
   ·rename_i h0
    obtain ⟨k, e1, hkl⟩ := runM_nat h0
    have h2 := ended_main a b c d e ts ks fs A0 A1 A2 c0 c1 c2 tn st wk vv w ht hk hf h k _ _ _ _ _ _ _ (get7 hkl) e1 hm hv
    rw [e1]
    exact h2
  ·rename_i hv; exact ended_val a b c d e ts ks fs A0 A1 A2 c0 c1 c2 tn st wk vv w ht hk hf h _ rfl hm (by simpa using hv)
 ·rename_i hm; exact ended_may a b c d e ts ks fs A0 A1 A2 c0 c1 c2 tn st wk vv w ht hk hf h _ rfl (by simpa using hm)
def joinM (a b c d e : Int) (ts : List T7) (ks : List Int) (fs : List F2) (tn : Int) (st : Bool) (wk : Int) (id : Int) : OutP :=
 if mayB a b c d e ts ks fs tn wk = true then
  if runM ts wk 0 < 0 then noO (poolB a b c d e ts ks fs tn) ts ks fs tn st 2
  else if btw id 0 (ts.length - 1) = true then
   if id = runM ts wk 0 then noO (poolB a b c d e ts ks fs tn) ts ks fs tn st 8
   else if (ts.getD id.toNat default).s = 5 then noO (poolB a b c d e ts ks fs tn) ts ks fs tn st 5
   else if (ts.getD id.toNat default).s = 4 then ⟨ts, ks, fs, tn, st, 1, (ts.getD id.toNat default).v⟩
   else doneO (poolB a b c d e (ts.set (runM ts wk 0).toNat (parkT (ts.getD (runM ts wk 0).toNat default) tn 1 id)) ks fs (tn + 1)) ts ks fs tn st (ts.set (runM ts wk 0).toNat (parkT (ts.getD (runM ts wk 0).toNat default) tn 1 id)) ks fs (tn + 1) st 7 (runM ts wk 0)
  else noO (poolB a b c d e ts ks fs tn) ts ks fs tn st 8
 else noO (poolB a b c d e ts ks fs tn) ts ks fs tn st 8
theorem join_any (wk : Int) (id : Int) (w : World) (ht : ts.length ≤ 1048576) (hk : ks.length ≤ 1048576) (hf : fs.length ≤ 1048576) (h : InPool w ts ks fs A0 A1 A2) :
 Calls Tryz.prog 27 #[qF a b c d e, qP ts ks fs A0 A1 A2 c0 c1 c2 tn st, .int .i64 wk, .int .i64 id] w (GaveS [] w (joinM a b c d e ts ks fs tn st wk id)) := by
 unfold qF qP
 unfold joinM
 split
 ·rename_i hm
  split
  ·rename_i h0; exact joined_none a b c d e ts ks fs A0 A1 A2 c0 c1 c2 tn st wk id w ht hk hf h _ rfl h0 hm
  ·rename_i h0
   split
   ·rename_i hh
    obtain ⟨k, rfl, hkl⟩ := btw_nat rfl hh
    split
    ·rename_i h1; exact joined_self a b c d e ts ks fs A0 A1 A2 c0 c1 c2 tn st wk k w ht hk hf h _ rfl (by omega) hm hh h1
    ·rename_i h1
     simp only [Int.toNat_natCast]
     split
     ·rename_i h5; exact joined_gone a b c d e ts ks fs A0 A1 A2 c0 c1 c2 tn st wk k w ht hk hf h k _ _ _ _ _ _ _ rfl (get7 hkl) h5 _ rfl (by omega) h1 hm hh
     ·rename_i h5
      split
      ·rename_i h4; exact joined_done a b c d e ts ks fs A0 A1 A2 c0 c1 c2 tn st wk k w ht hk hf h k _ _ _ _ _ _ _ rfl (get7 hkl) h4 _ rfl (by omega) h1 hm hh
      ·rename_i h4
       obtain ⟨n, e1, hnl⟩ := runM_nat h0
       have h2 := joined_park a b c d e ts ks fs A0 A1 A2 c0 c1 c2 tn st wk k w ht hk hf h k _ _ _ _ _ _ _ rfl (get7 hkl) h4 h5 n _ _ _ _ _ _ _ (get7 hnl) e1 (by omega) (by omega) hm hh
       rw [e1]
       exact h2
   ·rename_i hh; exact joined_has a b c d e ts ks fs A0 A1 A2 c0 c1 c2 tn st wk id w ht hk hf h _ rfl (by omega) hm (by simpa using hh)
 ·rename_i hm; exact joined_may a b c d e ts ks fs A0 A1 A2 c0 c1 c2 tn st wk id w ht hk hf h _ rfl (by simpa using hm)
def cancelM (a b c d e : Int) (ts : List T7) (ks : List Int) (fs : List F2) (tn : Int) (st : Bool) (wk : Int) (id : Int) : OutP :=
 if mayB a b c d e ts ks fs tn wk = true then
  if btw id 0 (ts.length - 1) = true then
   if (ts.getD id.toNat default).s = 2 then noO (poolB a b c d e ts ks fs tn) ts ks fs tn st 3
   else if openB (ts.getD id.toNat default).s = true then doneO (poolB a b c d e (wakeAllT (waitersM (ts.set id.toNat ⟨5, (ts.getD id.toNat default).l, (ts.getD id.toNat default).o, 0, 0, (ts.getD id.toNat default).v, (ts.getD id.toNat default).t⟩) 1 id) (ts.set id.toNat ⟨5, (ts.getD id.toNat default).l, (ts.getD id.toNat default).o, 0, 0, (ts.getD id.toNat default).v, (ts.getD id.toNat default).t⟩) tn 0) ks fs (tn + ((waitersM (ts.set id.toNat ⟨5, (ts.getD id.toNat default).l, (ts.getD id.toNat default).o, 0, 0, (ts.getD id.toNat default).v, (ts.getD id.toNat default).t⟩) 1 id).length : Nat))) ts ks fs tn st (wakeAllT (waitersM (ts.set id.toNat ⟨5, (ts.getD id.toNat default).l, (ts.getD id.toNat default).o, 0, 0, (ts.getD id.toNat default).v, (ts.getD id.toNat default).t⟩) 1 id) (ts.set id.toNat ⟨5, (ts.getD id.toNat default).l, (ts.getD id.toNat default).o, 0, 0, (ts.getD id.toNat default).v, (ts.getD id.toNat default).t⟩) tn 0) ks fs (tn + ((waitersM (ts.set id.toNat ⟨5, (ts.getD id.toNat default).l, (ts.getD id.toNat default).o, 0, 0, (ts.getD id.toNat default).v, (ts.getD id.toNat default).t⟩) 1 id).length : Nat)) st 1 ((waitersM (ts.set id.toNat ⟨5, (ts.getD id.toNat default).l, (ts.getD id.toNat default).o, 0, 0, (ts.getD id.toNat default).v, (ts.getD id.toNat default).t⟩) 1 id).length : Nat)
   else noO (poolB a b c d e ts ks fs tn) ts ks fs tn st 5
  else noO (poolB a b c d e ts ks fs tn) ts ks fs tn st 8
 else noO (poolB a b c d e ts ks fs tn) ts ks fs tn st 8
theorem cancel_any (wk : Int) (id : Int) (w : World) (ht : ts.length ≤ 1048576) (hk : ks.length ≤ 1048576) (hf : fs.length ≤ 1048576) (h : InPool w ts ks fs A0 A1 A2) :
 Calls Tryz.prog 28 #[qF a b c d e, qP ts ks fs A0 A1 A2 c0 c1 c2 tn st, .int .i64 wk, .int .i64 id] w (GaveS [] w (cancelM a b c d e ts ks fs tn st wk id)) := by
 unfold qF qP
 unfold cancelM
 split
 ·rename_i hm
  split
  ·rename_i hh
   obtain ⟨k, rfl, hkl⟩ := btw_nat rfl hh
   simp only [Int.toNat_natCast]
   split
   ·rename_i h2; exact cancelled_busy a b c d e ts ks fs A0 A1 A2 c0 c1 c2 tn st wk k w ht hk hf h k _ _ _ _ _ _ _ rfl (get7 hkl) h2 hm hh
   ·rename_i h2
    split
    ·rename_i ho; exact cancelled_main a b c d e ts ks fs A0 A1 A2 c0 c1 c2 tn st wk k w ht hk hf h k _ _ _ _ _ _ _ rfl (get7 hkl) h2 hm hh ho
    ·rename_i ho; exact cancelled_gone a b c d e ts ks fs A0 A1 A2 c0 c1 c2 tn st wk k w ht hk hf h k _ _ _ _ _ _ _ rfl (get7 hkl) h2 hm hh (by simpa using ho)
  ·rename_i hh; exact cancelled_has a b c d e ts ks fs A0 A1 A2 c0 c1 c2 tn st wk id w ht hk hf h hm (by simpa using hh)
 ·rename_i hm; exact cancelled_may a b c d e ts ks fs A0 A1 A2 c0 c1 c2 tn st wk id w ht hk hf h (by simpa using hm)
def levelM (a b c d e : Int) (ts : List T7) (ks : List Int) (fs : List F2) (tn : Int) (st : Bool) (wk : Int) (id : Int) (lv : Int) : OutP :=
 if mayB a b c d e ts ks fs tn wk = true then
  if btw id 0 (ts.length - 1) = true then
   if levelB a b c d e lv = true then
    if openB (ts.getD id.toNat default).s = true then doneO (poolB a b c d e (ts.set id.toNat ⟨(ts.getD id.toNat default).s, lv, (ts.getD id.toNat default).o, (ts.getD id.toNat default).wt, (ts.getD id.toNat default).on, (ts.getD id.toNat default).v, (ts.getD id.toNat default).t⟩) ks fs tn) ts ks fs tn st (ts.set id.toNat ⟨(ts.getD id.toNat default).s, lv, (ts.getD id.toNat default).o, (ts.getD id.toNat default).wt, (ts.getD id.toNat default).on, (ts.getD id.toNat default).v, (ts.getD id.toNat default).t⟩) ks fs tn st 1 (ts.getD id.toNat default).l
    else noO (poolB a b c d e ts ks fs tn) ts ks fs tn st 5
   else noO (poolB a b c d e ts ks fs tn) ts ks fs tn st 8
  else noO (poolB a b c d e ts ks fs tn) ts ks fs tn st 8
 else noO (poolB a b c d e ts ks fs tn) ts ks fs tn st 8
theorem level_any (wk : Int) (id : Int) (lv : Int) (w : World) (ht : ts.length ≤ 1048576) (hk : ks.length ≤ 1048576) (hf : fs.length ≤ 1048576) (h : InPool w ts ks fs A0 A1 A2) :
 Calls Tryz.prog 25 #[qF a b c d e, qP ts ks fs A0 A1 A2 c0 c1 c2 tn st, .int .i64 wk, .int .i64 id, .int .i64 lv] w (GaveS [] w (levelM a b c d e ts ks fs tn st wk id lv)) := by
 unfold qF qP
 unfold levelM
 split
 ·rename_i hm
  split
  ·rename_i hh
   split
   ·rename_i hl
    obtain ⟨k, rfl, hkl⟩ := btw_nat rfl hh
    simp only [Int.toNat_natCast]
    split
    ·rename_i ho; exact lev_main a b c d e ts ks fs A0 A1 A2 c0 c1 c2 tn st wk k lv w ht hk hf h k _ _ _ _ _ _ _ rfl (get7 hkl) hm hh hl ho
    ·rename_i ho; exact lev_gone a b c d e ts ks fs A0 A1 A2 c0 c1 c2 tn st wk k lv w ht hk hf h k _ _ _ _ _ _ _ rfl (get7 hkl) hm hh hl (by simpa using ho)
   ·rename_i hl; exact lev_lev a b c d e ts ks fs A0 A1 A2 c0 c1 c2 tn st wk id lv w ht hk hf h hm hh (by simpa using hl)
  ·rename_i hh; exact lev_has a b c d e ts ks fs A0 A1 A2 c0 c1 c2 tn st wk id lv w ht hk hf h hm (by simpa using hh)
 ·rename_i hm; exact lev_may a b c d e ts ks fs A0 A1 A2 c0 c1 c2 tn st wk id lv w ht hk hf h (by simpa using hm)
def upM (a b c d e : Int) (ts : List T7) (ks : List Int) (fs : List F2) (tn : Int) (st : Bool) (wk : Int) (id : Int) : OutP :=
 if mayB a b c d e ts ks fs tn wk = true then
  if btw id 0 (ks.length - 1) = true then
   match waitersM ts 2 id with
   | [] => doneO (poolB a b c d e ts (ks.set id.toNat ((ks.getD id.toNat 0) + 1)) fs tn) ts ks fs tn st ts (ks.set id.toNat ((ks.getD id.toNat 0) + 1)) fs tn st 1 0
   | j :: _ => doneO (poolB a b c d e (ts.set j.toNat (wakeT (ts.getD j.toNat default) tn 0)) ks fs (tn + 1)) ts ks fs tn st (ts.set j.toNat (wakeT (ts.getD j.toNat default) tn 0)) ks fs (tn + 1) st 1 (j + 1)
  else noO (poolB a b c d e ts ks fs tn) ts ks fs tn st 8
 else noO (poolB a b c d e ts ks fs tn) ts ks fs tn st 8
theorem up_any (wk : Int) (id : Int) (w : World) (ht : ts.length ≤ 1048576) (hk : ks.length ≤ 1048576) (hf : fs.length ≤ 1048576) (h : InPool w ts ks fs A0 A1 A2) :
 Calls Tryz.prog 39 #[qF a b c d e, qP ts ks fs A0 A1 A2 c0 c1 c2 tn st, .int .i64 wk, .int .i64 id] w (GaveS [] w (upM a b c d e ts ks fs tn st wk id)) := by
 unfold qF qP
 unfold upM
 split
 ·rename_i hm
  split
  ·rename_i hi
   obtain ⟨k, rfl, hkl⟩ := btw_nat rfl hi
   simp only [Int.toNat_natCast]
   split
   ·rename_i hw; exact upped_free a b c d e ts ks fs A0 A1 A2 c0 c1 c2 tn st wk k w ht hk hf h k _ rfl (get1 hkl) hw hm hi
   ·rename_i j jr hw
    obtain ⟨i, rfl, hil⟩ := lineM_mem _ _ _ j (show j ∈ waitersM ts 2 k by rw [hw]; simp)
    simp only [Int.toNat_natCast]
    exact upped_wake a b c d e ts ks fs A0 A1 A2 c0 c1 c2 tn st wk k w ht hk hf h k rfl hkl i jr _ _ _ _ _ _ _ (get7 hil) hil hw hm hi
  ·rename_i hi; exact upped_in a b c d e ts ks fs A0 A1 A2 c0 c1 c2 tn st wk id w ht hk hf h hm (by simpa using hi)
 ·rename_i hm; exact upped_may a b c d e ts ks fs A0 A1 A2 c0 c1 c2 tn st wk id w ht hk hf h (by simpa using hm)
def downM (a b c d e : Int) (ts : List T7) (ks : List Int) (fs : List F2) (tn : Int) (st : Bool) (wk : Int) (id : Int) : OutP :=
 if mayB a b c d e ts ks fs tn wk = true then
  if runM ts wk 0 < 0 then noO (poolB a b c d e ts ks fs tn) ts ks fs tn st 2
  else if btw id 0 (ks.length - 1) = true then
   if 0 < (ks.getD id.toNat 0) then doneO (poolB a b c d e ts (ks.set id.toNat ((ks.getD id.toNat 0) - 1)) fs tn) ts ks fs tn st ts (ks.set id.toNat ((ks.getD id.toNat 0) - 1)) fs tn st 1 ((ks.getD id.toNat 0) - 1)
   else doneO (poolB a b c d e (ts.set (runM ts wk 0).toNat (parkT (ts.getD (runM ts wk 0).toNat default) tn 2 id)) ks fs (tn + 1)) ts ks fs tn st (ts.set (runM ts wk 0).toNat (parkT (ts.getD (runM ts wk 0).toNat default) tn 2 id)) ks fs (tn + 1) st 7 (runM ts wk 0)
  else noO (poolB a b c d e ts ks fs tn) ts ks fs tn st 8
 else noO (poolB a b c d e ts ks fs tn) ts ks fs tn st 8
theorem down_any (wk : Int) (id : Int) (w : World) (ht : ts.length ≤ 1048576) (hk : ks.length ≤ 1048576) (hf : fs.length ≤ 1048576) (h : InPool w ts ks fs A0 A1 A2) :
 Calls Tryz.prog 47 #[qF a b c d e, qP ts ks fs A0 A1 A2 c0 c1 c2 tn st, .int .i64 wk, .int .i64 id] w (GaveS [] w (downM a b c d e ts ks fs tn st wk id)) := by
 unfold qF qP
 unfold downM
 split
 ·rename_i hm
  split
  ·rename_i h0; exact downed_none a b c d e ts ks fs A0 A1 A2 c0 c1 c2 tn st wk id w ht hk hf h _ rfl h0 hm
  ·rename_i h0
   split
   ·rename_i hi
    obtain ⟨k, rfl, hkl⟩ := btw_nat rfl hi
    simp only [Int.toNat_natCast]
    obtain ⟨n, e1, hnl⟩ := runM_nat h0
    split
    ·rename_i h1; exact downed_free a b c d e ts ks fs A0 A1 A2 c0 c1 c2 tn st wk k w ht hk hf h k _ rfl (get1 hkl) h1 n e1 hm hi
    ·rename_i h1
     have h2 := downed_park a b c d e ts ks fs A0 A1 A2 c0 c1 c2 tn st wk k w ht hk hf h k _ rfl (get1 hkl) h1 n _ _ _ _ _ _ _ (get7 hnl) e1 hm hi
     rw [e1]
     exact h2
   ·rename_i hi; exact downed_in a b c d e ts ks fs A0 A1 A2 c0 c1 c2 tn st wk id w ht hk hf h _ rfl (by omega) hm (by simpa using hi)
 ·rename_i hm; exact downed_may a b c d e ts ks fs A0 A1 A2 c0 c1 c2 tn st wk id w ht hk hf h _ rfl (by simpa using hm)
def setM (a b c d e : Int) (ts : List T7) (ks : List Int) (fs : List F2) (tn : Int) (st : Bool) (wk : Int) (id : Int) (vv : Int) : OutP :=
 if mayB a b c d e ts ks fs tn wk = true then
  if btw id 0 (fs.length - 1) = true then
   if btw vv 0 9999 = true then
    if (fs.getD id.toNat default).b = true then noO (poolB a b c d e ts ks fs tn) ts ks fs tn st 5
    else doneO (poolB a b c d e (wakeAllT (waitersM ts 3 id) ts tn vv) ks (fs.set id.toNat ⟨true, vv⟩) (tn + ((waitersM ts 3 id).length : Nat))) ts ks fs tn st (wakeAllT (waitersM ts 3 id) ts tn vv) ks (fs.set id.toNat ⟨true, vv⟩) (tn + ((waitersM ts 3 id).length : Nat)) st 1 ((waitersM ts 3 id).length : Nat)
   else noO (poolB a b c d e ts ks fs tn) ts ks fs tn st 8
  else noO (poolB a b c d e ts ks fs tn) ts ks fs tn st 8
 else noO (poolB a b c d e ts ks fs tn) ts ks fs tn st 8
theorem set_any (wk : Int) (id : Int) (vv : Int) (w : World) (ht : ts.length ≤ 1048576) (hk : ks.length ≤ 1048576) (hf : fs.length ≤ 1048576) (h : InPool w ts ks fs A0 A1 A2) :
 Calls Tryz.prog 161 #[qF a b c d e, qP ts ks fs A0 A1 A2 c0 c1 c2 tn st, .int .i64 wk, .int .i64 id, .int .i64 vv] w (GaveS [] w (setM a b c d e ts ks fs tn st wk id vv)) := by
 unfold qF qP
 unfold setM
 split
 ·rename_i hm
  split
  ·rename_i hi
   split
   ·rename_i hv
    obtain ⟨k, rfl, hkl⟩ := btw_nat rfl hi
    simp only [Int.toNat_natCast]
    have hg := get2 hkl
    split
    ·rename_i hb; rw [hb] at hg; exact set_gone a b c d e ts ks fs A0 A1 A2 c0 c1 c2 tn st wk k vv w ht hk hf h k _ rfl hg hm hi hv
    ·rename_i hb; rw [show (fs.getD k default).b = false by simpa using hb] at hg; exact set_main a b c d e ts ks fs A0 A1 A2 c0 c1 c2 tn st wk k vv w ht hk hf h k _ rfl hg hm hi hv
   ·rename_i hv; exact set_val a b c d e ts ks fs A0 A1 A2 c0 c1 c2 tn st wk id vv w ht hk hf h hm hi (by simpa using hv)
  ·rename_i hi; exact set_in a b c d e ts ks fs A0 A1 A2 c0 c1 c2 tn st wk id vv w ht hk hf h hm (by simpa using hi)
 ·rename_i hm; exact set_may a b c d e ts ks fs A0 A1 A2 c0 c1 c2 tn st wk id vv w ht hk hf h (by simpa using hm)
def gotM (a b c d e : Int) (ts : List T7) (ks : List Int) (fs : List F2) (tn : Int) (st : Bool) (wk : Int) (id : Int) : OutP :=
 if mayB a b c d e ts ks fs tn wk = true then
  if runM ts wk 0 < 0 then noO (poolB a b c d e ts ks fs tn) ts ks fs tn st 2
  else if btw id 0 (fs.length - 1) = true then
   if (fs.getD id.toNat default).b = true then ⟨ts, ks, fs, tn, st, 1, (fs.getD id.toNat default).v⟩
   else doneO (poolB a b c d e (ts.set (runM ts wk 0).toNat (parkT (ts.getD (runM ts wk 0).toNat default) tn 3 id)) ks fs (tn + 1)) ts ks fs tn st (ts.set (runM ts wk 0).toNat (parkT (ts.getD (runM ts wk 0).toNat default) tn 3 id)) ks fs (tn + 1) st 7 (runM ts wk 0)
  else noO (poolB a b c d e ts ks fs tn) ts ks fs tn st 8
 else noO (poolB a b c d e ts ks fs tn) ts ks fs tn st 8
theorem got_any (wk : Int) (id : Int) (w : World) (ht : ts.length ≤ 1048576) (hk : ks.length ≤ 1048576) (hf : fs.length ≤ 1048576) (h : InPool w ts ks fs A0 A1 A2) :
 Calls Tryz.prog 162 #[qF a b c d e, qP ts ks fs A0 A1 A2 c0 c1 c2 tn st, .int .i64 wk, .int .i64 id] w (GaveS [] w (gotM a b c d e ts ks fs tn st wk id)) := by
 unfold qF qP
 unfold gotM
 split
 ·rename_i hm
  split
  ·rename_i h0; exact got_none a b c d e ts ks fs A0 A1 A2 c0 c1 c2 tn st wk id w ht hk hf h _ rfl h0 hm
  ·rename_i h0
   split
   ·rename_i hi
    obtain ⟨k, rfl, hkl⟩ := btw_nat rfl hi
    simp only [Int.toNat_natCast]
    have hg := get2 hkl
    split
    ·rename_i hb; rw [hb] at hg; exact got_set a b c d e ts ks fs A0 A1 A2 c0 c1 c2 tn st wk k w ht hk hf h k _ rfl hg _ rfl (by omega) hm hi
    ·rename_i hb
     rw [show (fs.getD k default).b = false by simpa using hb] at hg
     obtain ⟨n, e1, hnl⟩ := runM_nat h0
     have h2 := got_park a b c d e ts ks fs A0 A1 A2 c0 c1 c2 tn st wk k w ht hk hf h k _ rfl hg n _ _ _ _ _ _ _ (get7 hnl) e1 hm hi
     rw [e1]
     exact h2
   ·rename_i hi; exact got_in a b c d e ts ks fs A0 A1 A2 c0 c1 c2 tn st wk id w ht hk hf h _ rfl (by omega) hm (by simpa using hi)
 ·rename_i hm; exact got_may a b c d e ts ks fs A0 A1 A2 c0 c1 c2 tn st wk id w ht hk hf h _ rfl (by simpa using hm)
def stopM (a b c d e : Int) (ts : List T7) (ks : List Int) (fs : List F2) (tn : Int) (st : Bool) (wk : Int) : OutP :=
 if mayB a b c d e ts ks fs tn wk = true then
  if st = true then noO (poolB a b c d e ts ks fs tn) ts ks fs tn st 6 else ⟨ts, ks, fs, tn, true, 1, (openN ts : Nat)⟩
 else noO (poolB a b c d e ts ks fs tn) ts ks fs tn st 8
theorem stop_any (wk : Int) (w : World) (ht : ts.length ≤ 1048576) (hk : ks.length ≤ 1048576) (hf : fs.length ≤ 1048576) (h : InPool w ts ks fs A0 A1 A2) :
 Calls Tryz.prog 163 #[qF a b c d e, qP ts ks fs A0 A1 A2 c0 c1 c2 tn st, .int .i64 wk] w (GaveS [] w (stopM a b c d e ts ks fs tn st wk)) := by
 unfold qF qP
 unfold stopM
 split
 ·rename_i hm
  cases st
  ·exact stopped_main a b c d e ts ks fs A0 A1 A2 c0 c1 c2 tn wk w ht hk hf h hm
  ·exact stopped_stop a b c d e ts ks fs A0 A1 A2 c0 c1 c2 tn wk w ht hk hf h hm
 ·rename_i hm; exact stopped_may a b c d e ts ks fs A0 A1 A2 c0 c1 c2 tn st wk w ht hk hf h (by simpa using hm)
def spawnM (a b c d e : Int) (ts : List T7) (ks : List Int) (fs : List F2) (tn : Int) (st : Bool) (wk : Int) (lv : Int) : OutP :=
 if mayB a b c d e ts ks fs tn wk = true then
  if levelB a b c d e lv = true then
   if st = true then noO (poolB a b c d e ts ks fs tn) ts ks fs tn st 6
   else if b ≤ ts.length then noO (poolB a b c d e ts ks fs tn) ts ks fs tn st 4
   else doneO (poolB a b c d e (ts ++ [⟨1, lv, -1, 0, 0, 0, tn⟩]) ks fs (tn + 1)) ts ks fs tn st (ts ++ [⟨1, lv, -1, 0, 0, 0, tn⟩]) ks fs (tn + 1) st 1 (ts.length : Nat)
  else noO (poolB a b c d e ts ks fs tn) ts ks fs tn st 8
 else noO (poolB a b c d e ts ks fs tn) ts ks fs tn st 8
theorem spawn_any (wk : Int) (lv : Int) (w : World) (ht : ts.length ≤ 1048576) (hk : ks.length ≤ 1048576) (hf : fs.length ≤ 1048576) (h : InPool w ts ks fs A0 A1 A2) :
 Calls Tryz.prog 16 #[qF a b c d e, qP ts ks fs A0 A1 A2 c0 c1 c2 tn st, .int .i64 wk, .int .i64 lv] w (GaveS [] w (spawnM a b c d e ts ks fs tn st wk lv)) := by
 unfold qF qP
 unfold spawnM
 split
 ·rename_i hm
  split
  ·rename_i hl
   cases st
   ·simp only [Bool.false_eq_true, if_false]
    split
    ·rename_i hb; exact spawned_full a b c d e ts ks fs A0 A1 A2 c0 c1 c2 tn wk lv w ht hk hf h hm hl hb
    ·rename_i hb; exact spawned_main a b c d e ts ks fs A0 A1 A2 c0 c1 c2 tn wk lv w ht hk hf h hm hl hb
   ·exact spawned_stop a b c d e ts ks fs A0 A1 A2 c0 c1 c2 tn wk lv w ht hk hf h hm hl
  ·rename_i hl; exact spawned_lev a b c d e ts ks fs A0 A1 A2 c0 c1 c2 tn st wk lv w ht hk hf h hm (by simpa using hl)
 ·rename_i hm; exact spawned_may a b c d e ts ks fs A0 A1 A2 c0 c1 c2 tn st wk lv w ht hk hf h (by simpa using hm)
set_option maxRecDepth 100000 in
set_option maxHeartbeats 4000000 in
theorem apply_1 (wk x y : Int) (w : World) (ht : ts.length ≤ 1048576) (hk : ks.length ≤ 1048576) (hf : fs.length ≤ 1048576) (h : InPool w ts ks fs A0 A1 A2) :
 Calls Tryz.prog 115 #[qF a b c d e, qP ts ks fs A0 A1 A2 c0 c1 c2 tn st, .int .i64 wk, .agg #[.int .i64 1, .int .i64 x, .int .i64 y]] w (GaveS [] w (spawnM a b c d e ts ks fs tn st wk x)) := by
 unfold qF qP
 have H := hide h
 clear h
 have hC : Hid (∀ V, InPool V ts ks fs A0 A1 A2 → Calls Tryz.prog 16 #[.agg #[.int .i64 a, .int .i64 b, .int .i64 c, .int .i64 d, .int .i64 e], .agg #[.slice A0 ts.length c0, .slice A1 ks.length c1, .slice A2 fs.length c2, .int .i64 tn, .bool st], .int .i64 wk, .int .i64 x] V (GaveS [] V (spawnM a b c d e ts ks fs tn st wk x))) := hide (fun V hV => spawn_any a b c d e ts ks fs A0 A1 A2 c0 c1 c2 tn st wk x V ht hk hf hV)
 generalize spawnM a b c d e ts ks fs tn st wk x = o at hC ⊢
 go_enter Tryz.func115, Tryz.ntmps115
 go_wp2_with fail
 generalize hW : ((((w.alloc _).alloc _).alloc _).alloc _).alloc _ = W1
 have M := Sep.e5 hW
 clear hW
 go_call (hC.out _ (H.out.below M.below)) as r W2 ⟨B0, B1, B2, d0, d1, d2, rfl, g1⟩
 replace M := Sep.new M g1
 simp only [zC, zN] at M
 clear g1
 obtain ⟨tS, Ab, Aj, Ae, An⟩ := M.f2 3 rfl
 obtain ⟨tR, Ag, Al, Ad, Ak, Af, Am, Aa, Ai, Ac, Ah⟩ := M.f5 4 rfl
 go_wp2_with fail
 clear tS Ab Aj Ae An tR Ag Al Ad Ak Af Am Aa Ai Ac Ah
 replace M := M.gset5 4 rfl (.slice B0 o.ts.length d0) (.slice B1 o.ks.length d1) (.slice B2 o.fs.length d2) (.int .i64 o.tn) (.bool o.st)
 obtain ⟨W3, eW, M⟩ := M
 rw [eW]
 clear eW
 simp only [zZ, zS] at M
 replace M := M.gset2 3 rfl (.int .i64 o.rp) (.int .i64 o.ou)
 obtain ⟨W4, eW, M⟩ := M
 rw [eW]
 clear eW
 simp only [zZ, zS] at M
 obtain ⟨tS, Ab, Ae⟩ := M.q2 3 rfl
 obtain ⟨tR, Ag, Ad, Af, Aa, Ac⟩ := M.q5 4 rfl
 exact bodyPost_ret (by simp [results, Tryz.results115, go_sem, Ag, Ad, Af, Aa, Ac, Ab, Ae]) rfl ⟨B0, B1, B2, d0, d1, d2, rfl, M.take 3⟩
end Go.Proofs.YtfkdfkoigojciaaGreatDoor
