import PyProof.Rows.All
import Wide.All
import OpenK.AllK
import Wide.FinOn
import HandS.ForMost
import HandS.Wide
import PySem.Challenge.RW_drawingoffice_k00_forms_at_all_values
import HandS.Codes
import HandS.Walk
import HandS.Style
import HandS.Text
import PyProof.Rows.StrMul
import KE.KxIndex
import HandS.SlotsOwn
import HandS.IterVal
import KE.KOpsOwn
import HandS.DictComp
import HandS.Conv
import HandS.IsInst
import HandS.DictSub
import KE.SortData
import HandS.RaiseMore
import HandS.ForExc
import HandS.ExcInit
import HandS.ExcCtx
import HandS.ExcOwn
import HandS.HotCalls
import HandS.ExcInitHot
import HandS.TupAny
import HandS.OwnEq
import HandS.Property
import HandS.ExcField
import HandS.ExcIs
import KE.KExcIs
import HandS.Zip
import HandS.DeepEq
import KE.LtData
import HandS.WordsExc
import HandS.Defaults
import HandS.Ends
import PyProof.ReprRoads
import PyProof.ReprLen
import PyProof.FitsInt
set_option Elab.async false
set_option linter.all false
set_option maxRecDepth 100000
set_option maxHeartbeats 4000000
namespace DO
open PySem PySem.Spec PyProof.Rows L2
/-! ### the text by places -/
def top (i : Nat) : Stmt := PySem.Challenge.pw_drawingoffice_k00_forms_at_all_values.main.body.getD i (.Pass ⟨0, 0, 0, 0⟩)
/-- a def of the text as the top leaves it: where it stands, under which name, how its arguments bind -/
structure Df (K : PySem.W.Frag) (mg : Str → Option Value) (x : Str) (st : Stmt) (ps : List Str) where
  f : Addr
  fd : FuncData
  mgf : mg x = some (.ref f)
  fn : Fun K x x st f fd
  bd : Binds K fd ps []
/-! ### heaps -/
/-- all that was tracked is as it was, but what stands at s -/
def Kp (s : Addr) (H H' : Hp) : Prop := ∀ b o, H b = some o → b ≠ s → H' b = some o
theorem Kp.refl {s : Addr} {H : Hp} : Kp s H H := fun _ _ h _ => h
theorem Kp.trans {s : Addr} {H H1 H2 : Hp} (a : Kp s H H1) (b : Kp s H1 H2) : Kp s H H2 := fun c o h n => b c o (a c o h n) n
theorem Kp.same {s : Addr} {H H' : Hp} (a : Same H H') : Kp s H H' := fun c o h _ => a c o h
theorem Kp.upd {s : Addr} {H : Hp} {o : HO} : Kp s H (L2.upd H s o) := fun c u h n => by rw [upd_ne n]; exact h
theorem same_upd {H : Hp} {p : Addr} {o : HO} (h : H p = none) : Same H (upd H p o) := fun b x e => by
  rw [upd_ne (ne_of_none e h)]
  exact e
/-- the drawn numbers: a number, a place, the cells -/
def Src (H : Hp) (s c : Addr) : Prop := ∃ (a0 a1 : Int) (ns : List Int), H s = some (.lst [.int a0, .int a1, .ref c]) ∧ 0 ≤ a1 ∧ H c = some (.lst (ns.map V.int)) ∧ ns.length ≤ 63
theorem Src.ne {H : Hp} {s c : Addr} {a0 a1 : Int} {ns : List Int} (h : H s = some (.lst [.int a0, .int a1, .ref c])) (h' : H c = some (.lst (ns.map V.int))) : c ≠ s := by
  intro e
  subst e
  rw [h] at h'
  have h2 := Option.some.inj h'
  injection h2 with h3
  match ns, h3 with
  | [_, _, _], h3 => simp at h3
  | [], h3 => cases h3
  | [_], h3 => cases h3
  | [_, _], h3 => cases h3
  | _ :: _ :: _ :: _ :: _, h3 => cases h3
/-! ### rules that hand on what is known alone -/
section
variable {X : Cx}
theorem op_modL : OpR X (binaryOp .Mod) (fun x y H Q => ∃ i j : Int, x = .int i ∧ y = .int j ∧ 0 < j ∧ ∀ r : Int, 0 ≤ r → r < j → Q (.int r) H) := by
  intro pins s σ H x y v u Q I rx ry h
  obtain ⟨i, j, hx, hy, hj, k⟩ := h
  exact op_mod pins s σ H x y v u Q I rx ry ⟨i, j, hx, hy, hj, k _ (Int.emod_nonneg _ (by omega)) (Int.emod_lt_of_pos _ hj)⟩
theorem op_fdivL : OpR X (binaryOp .FloorDiv) (fun x y H Q => ∃ i j : Int, x = .int i ∧ y = .int j ∧ CDivW i j ∧ ∀ r : Int, Q (.int r) H) := by
  intro pins s σ H x y v u Q I rx ry h
  obtain ⟨i, j, hx, hy, hj, k⟩ := h
  exact op_fdivW pins s σ H x y v u Q I rx ry ⟨i, j, hx, hy, hj, k _⟩
theorem op_mulL : OpR X (binaryOp .Mult) (fun x y H Q => ∃ i j : Int, x = .int i ∧ y = .int j ∧ CMul i j ∧ ∀ r : Int, r = i * j → Q (.int r) H) := by
  intro pins s σ H x y v u Q I rx ry h
  obtain ⟨i, j, hx, hy, hj, k⟩ := h
  exact op_mul pins s σ H x y v u Q I rx ry ⟨i, j, hx, hy, hj, k _ rfl⟩
theorem op_addL : OpR X (binaryOp .Add) (fun x y H Q => ∃ i j : Int, x = .int i ∧ y = .int j ∧ ∀ r : Int, r = i + j → Q (.int r) H) := by
  intro pins s σ H x y v u Q I rx ry h
  obtain ⟨i, j, hx, hy, k⟩ := h
  exact op_add pins s σ H x y v u Q I rx ry ⟨i, j, hx, hy, k _ rfl⟩
theorem op_subL : OpR X (binaryOp .Sub) (fun x y H Q => ∃ i j : Int, x = .int i ∧ y = .int j ∧ ∀ r : Int, r = i - j → Q (.int r) H) := by
  intro pins s σ H x y v u Q I rx ry h
  obtain ⟨i, j, hx, hy, k⟩ := h
  exact op_sub pins s σ H x y v u Q I rx ry ⟨i, j, hx, hy, k _ rfl⟩
theorem call_absL : CallR X (.builtin "abs") (fun xs H Q => ∃ i : Int, xs = [.int i] ∧ ∀ r : Int, 0 ≤ r → r.natAbs = i.natAbs → Q (.int r) H) := by
  intro pins s σ H xs us Q I r h
  obtain ⟨i, hx, k⟩ := h
  exact call_abs pins s σ H xs us Q I r ⟨i, hx, k _ (by split <;> omega) (by split <;> omega)⟩
theorem call_int1L : CallR X (.type "int") (fun xs H Q => ∃ i : Int, xs = [.int i] ∧ Q (.int i) H) := by
  intro pins s σ H xs us Q I r h
  exact call_int1 pins s σ H xs us Q I r (.inl h)
end
end DO

namespace DO
open PySem PySem.Spec PyProof.Rows L2
section
variable {P : Program} {w : World} {K : PySem.W.Frag} {mg : Str → Option Value} {base : Heap}
/-! ### a drawn number is mixed -/
abbrev sMixed : Stmt := top 21
theorem scMixed : FnScope ["_law_cell", "_law_place", "_law_first", "_law_second", "_law_third"] ["_law_cell", "_law_place"] (defScope sMixed) := ⟨rfl, rfl, rfl, by decide +kernel, rfl, by decide +kernel, by decide +kernel⟩
def spMixed : Sp := fun vs H Q _ => ∃ (c p : Int), vs = [.int c, .int p] ∧ ∀ r : Int, Q (.int r) H
theorem ok_mixed (D : Df K mg "_law_mixed" sMixed ["_law_cell", "_law_place"]) (mi : mg "int" = none) (ma : mg "abs" = none) : FnOk P w K mg base CX0 1 D.f D.fd ["_law_cell", "_law_place"] spMixed := by
  refine D.fn.ok scMixed (fun vs H Q E h => ?_) (fun cdv A outer s H vs Q E hr h => ?_)
  · obtain ⟨c, p, rfl, _⟩ := h
    rfl
  · obtain ⟨c, p, rfl, k⟩ := h
    refine ⟨_, pss_cons (ps_set (i := 2) scMixed.nd rfl (.inl rfl) (pe_op op_modL (pe_callTy call_int1L (by rfl) mi (by decide +kernel) (pa_cons (pe_op op_addL (pe_op op_addL (pe_op op_mulL (pe_callB call_absL (by rfl) ma (by decide +kernel) (pa_cons (pv 0) pa_nil)) pe_int) (pe_op op_mulL (pv 1) pe_int)) pe_int) pa_nil)) pe_int))
      (pss_cons (ps_set (i := 3) scMixed.nd rfl (.inl rfl) (pe_op op_modL (pe_callTy call_int1L (by rfl) mi (by decide +kernel) (pa_cons (pe_op op_addL (pe_op op_addL (pe_op op_addL (pe_op op_mulL (pv 2) (pv 2)) (pe_op op_mulL (pe_callB call_absL (by rfl) ma (by decide +kernel) (pa_cons (pv 0) pa_nil)) pe_int)) (pe_op op_mulL (pv 1) pe_int)) pe_int) pa_nil)) pe_int))
      (pss_cons (ps_set (i := 4) scMixed.nd rfl (.inl rfl) (pe_op op_modL (pe_callTy call_int1L (by rfl) mi (by decide +kernel) (pa_cons (pe_op op_addL (pe_op op_addL (pe_op op_mulL (pv 3) pe_int) (pe_op op_mulL (pv 2) pe_int)) pe_int) pa_nil)) pe_int))
      (pss_one (ps_ret (pe_op op_addL (pv 4) pe_int))))), ?_⟩
    refine ⟨_, rfl, _, rfl, fun _ _ _ => ⟨_, _, rfl, rfl, .inr ⟨by decide, by decide⟩, fun _ _ => ⟨_, rfl, _, _, rfl, rfl, .inr ⟨by decide, by decide⟩, fun _ _ => ⟨_, _, rfl, rfl, fun _ _ => ⟨_, _, rfl, rfl, fun _ _ => ⟨_, rfl, _, _, rfl, rfl, by decide, fun x x0 x1 => ?_⟩⟩⟩⟩⟩⟩
    refine ⟨_, rfl, _, rfl, _, _, rfl, rfl, .inr ⟨by omega, by omega⟩, fun _ _ => ⟨_, rfl, _, rfl, fun _ _ _ => ⟨_, _, rfl, rfl, .inr ⟨by decide, by decide⟩, fun _ _ => ⟨_, _, rfl, rfl, fun _ _ => ⟨_, rfl, _, _, rfl, rfl, .inr ⟨by decide, by decide⟩, fun _ _ => ⟨_, _, rfl, rfl, fun _ _ => ⟨_, _, rfl, rfl, fun _ _ => ⟨_, rfl, _, _, rfl, rfl, by decide, fun y y0 y1 => ?_⟩⟩⟩⟩⟩⟩⟩⟩
    refine ⟨_, rfl, _, _, rfl, rfl, .inr ⟨by decide, by decide⟩, fun _ _ => ⟨_, rfl, _, _, rfl, rfl, .inr ⟨by decide, by decide⟩, fun _ _ => ⟨_, _, rfl, rfl, fun _ _ => ⟨_, _, rfl, rfl, fun _ _ => ⟨_, rfl, _, _, rfl, rfl, by decide, fun z z0 z1 => ?_⟩⟩⟩⟩⟩
    exact ⟨_, rfl, _, _, rfl, rfl, fun r _ => k r⟩
end
end DO

namespace DO
open PySem PySem.Spec PyProof.Rows L2
section
variable {P : Program} {w : World} {K : PySem.W.Frag} {mg : Str → Option Value} {base : Heap}
theorem at_int {ns : List Int} {i : Int} (h0 : 0 ≤ i) (h1 : i < ns.length) : ∃ v : Int, atI (ns.map V.int) i = some (.int v) := by
  obtain ⟨j, rfl⟩ := Int.eq_ofNat_of_zero_le h0
  have hj : j < ns.length := by omega
  exact ⟨ns[j], atI_nat (by rw [List.getElem?_map, List.getElem?_eq_getElem hj]; rfl)⟩
theorem sql_of {K : PySem.W.Frag} {H : Hp} {a : Addr} {xs : List V} (h : H a = some (.lst xs)) : SqL K H a xs := .inl (.inl h)
/-! ### the source of drawn numbers -/
abbrev sSource : Stmt := top 22
theorem scSource : FnScope ["_law_script"] ["_law_script"] (defScope sSource) := ⟨rfl, rfl, rfl, by decide +kernel, rfl, by decide +kernel, by decide +kernel⟩
def spSource (K : PySem.W.Frag) : Sp := fun vs H Q _ => ∃ (a : Addr) (ns : List Int), vs = [.ref a] ∧ SqL K H a (ns.map V.int) ∧ ns.length ≤ 63 ∧ ∀ s c H', H s = none → H c = none → Same H H' → Src H' s c → Q (.ref s) H'
theorem ok_source (D : Df K mg "_law_source" sSource ["_law_script"]) (ml : mg "list" = none) : FnOk P w K mg base CX0 1 D.f D.fd ["_law_script"] (spSource K) := by
  refine D.fn.ok scSource (fun vs H Q E h => ?_) (fun cdv A outer s H vs Q E hr h => ?_)
  · obtain ⟨a, ns, rfl, _⟩ := h
    rfl
  · obtain ⟨a, ns, rfl, hS, hl, k⟩ := h
    refine ⟨_, (pss_one (ps_ret (pe_lst (pa_cons pe_int (pa_cons pe_int (pa_cons (pe_callTy call_list_of (by rfl) ml (by decide +kernel) (pa_cons (pv 0) pa_nil)) pa_nil)))))), ?_⟩
    refine ⟨_, rfl, a, _, rfl, .inl hS, fun c nc => ⟨by show 3 ≤ sizeLine; decide, fun p np => ?_⟩⟩
    have npc : p ≠ c := fun e => by
      subst e
      rw [upd_same] at np
      cases np
    have np' : H p = none := by rw [upd_ne npc] at np; exact np
    refine k p c _ np' nc ((same_upd nc).trans (same_upd np)) ⟨0, 0, ns, upd_same, by decide, ?_, hl⟩
    rw [upd_ne npc.symm, upd_same]
/-! ### one choice of many -/
abbrev sTake : Stmt := top 23
theorem scTake : FnScope ["_law_source_here", "_law_many", "_law_cells", "_law_place", "_law_digit"] ["_law_source_here", "_law_many"] (defScope sTake) := ⟨rfl, rfl, rfl, by decide +kernel, rfl, by decide +kernel, by decide +kernel⟩
def spTake : Sp := fun vs H Q _ => ∃ (s c : Addr) (m : Int), vs = [.ref s, .int m] ∧ Src H s c ∧ 0 < m ∧ m.natAbs < 2 ^ 200 ∧ ∀ (d : Int) H', 0 ≤ d → d < m → Kp s H H' → Src H' s c → Q (.int d) H'
theorem ok_take (D : Df K mg "_law_take" sTake ["_law_source_here", "_law_many"]) (D5 : Df K mg "_law_mixed" sMixed ["_law_cell", "_law_place"]) (mi : mg "int" = none) (ma : mg "abs" = none) (ml : mg "len" = none) : FnOk P w K mg base CX0 2 D.f D.fd ["_law_source_here", "_law_many"] spTake := by
  have G : FnOk P w K mg base CX0 1 D5.f D5.fd ["_law_cell", "_law_place"] spMixed := ok_mixed D5 mi ma
  refine D.fn.ok scTake (fun vs H Q E h => ?_) (fun cdv A outer s H vs Q E hr h => ?_)
  · obtain ⟨a, c, m, rfl, _⟩ := h
    rfl
  · obtain ⟨a, c, m, rfl, ⟨a0, a1, ns, hs, p0, hc, hl⟩, m0, mB, k⟩ := h
    refine ⟨_, (C8.pss_cut (ps_if (pt_cmpR op_lt (pe_ix ix_list (pv 0) pe_int (fun _ _ => rfl)) (pe_op op_mulL pe_int (pv 1)) (nomark _))
      (pss_cons (ps_set (i := 2) scTake.nd rfl (.inl rfl) (pe_ix ix_list (pv 0) pe_int (fun _ _ => rfl)))
      (pss_cons (ps_set (i := 3) scTake.nd rfl (.inl rfl) (pe_ix ix_list (pv 0) pe_int (fun _ _ => rfl)))
      (pss_cons (ps_asg (pe_op op_addL (pv 3) pe_int) (pg_sub (pv 0) pe_int set_list))
      (pss_one (ps_if (PW.pt (pw_and (pt_cmpR op_lt (pv 3) (pe_callB call_len_seq (by rfl) ml PySem.boot_len (pa_cons (pv 2) pa_nil)) (nomark _)) (pw_and1 (pt_cmpR op_ge (pe_callB call_absL (by rfl) ma (by decide +kernel) (pa_cons (pe_ix ix_list (pv 2) (pv 3) (fun _ _ => rfl)) pa_nil)) (pe_op op_pow pe_int pe_int) (nomark _)))))
      (pss_one (ps_asg (pe_callB call_absL (by rfl) ma (by decide +kernel) (pa_cons (pe_ix ix_list (pv 2) (pv 3) (fun _ _ => rfl)) pa_nil)) (pg_sub (pv 0) pe_int set_list)))
      (pss_one (ps_if (pt_cmpR op_gt (pe_callB call_len_seq (by rfl) ml PySem.boot_len (pa_cons (pv 2) pa_nil)) pe_int (nomark _))
      (pss_one (ps_asg (pe_call G hr (by rfl) D5.mgf D5.fn.kp D5.bd .nil pass0 (pa_cons (pe_ix ix_list (pv 2) (pe_op op_modL (pe_callTy call_int1L (by rfl) mi (by decide +kernel) (pa_cons (pv 3) pa_nil)) (pe_callB call_len_seq (by rfl) ml PySem.boot_len (pa_cons (pv 2) pa_nil))) (fun _ _ => rfl)) (pa_cons (pv 3) pa_nil))) (pg_sub (pv 0) pe_int set_list)))
      (pss_one (ps_asg (pe_call G hr (by rfl) D5.mgf D5.fn.kp D5.bd .nil pass0 (pa_cons pe_int (pa_cons (pv 3) pa_nil))) (pg_sub (pv 0) pe_int set_list))))))))))
      pss_nil)
      (pss_cons (ps_set (i := 4) scTake.nd rfl (.inl rfl) (pe_op op_modL (pe_callTy call_int1L (by rfl) mi (by decide +kernel) (pa_cons (pe_ix ix_list (pv 0) pe_int (fun _ _ => rfl)) pa_nil)) (pv 1)))
      (pss_cons (ps_asg (pe_op op_fdivL (pe_callTy call_int1L (by rfl) mi (by decide +kernel) (pa_cons (pe_ix ix_list (pv 0) pe_int (fun _ _ => rfl)) pa_nil)) (pv 1)) (pg_sub (pv 0) pe_int set_list))
      (pss_one (ps_ret (pv 4)))))), ?_⟩
    have nca : c ≠ a := Src.ne hs hc
    refine ⟨fun σ' H' => ∃ x2 x3, σ' = [some (.ref a), some (.int m), x2, x3, none] ∧ Src H' a c ∧ Kp a H H', ?_, ?_⟩
    · refine ⟨_, rfl, a, _, 0, .int a0, rfl, rfl, sql_of hs, rfl, _, rfl, 2, m, rfl, rfl, .inl ⟨by decide, by decide⟩, fun z _ => ⟨_, _, rfl, rfl, _, rfl, ite2 (fun _ => ?_) (fun _ => ?_)⟩⟩
      · -- a new cell
        refine ⟨_, rfl, a, _, 2, .ref c, rfl, rfl, sql_of hs, rfl, _, rfl, a, _, 1, .int a1, rfl, rfl, sql_of hs, rfl, _, rfl, _, _, rfl, rfl, fun b1 eb => ⟨_, rfl, a, _, 1, 1, rfl, rfl, hs, rfl, ?_⟩⟩
        have hs1 : (upd H a (.lst ([V.int a0, V.int a1, V.ref c].set 1 (V.int b1)))) a = some (.lst [V.int a0, V.int b1, V.ref c]) := upd_same
        have hc1 : (upd H a (.lst ([V.int a0, V.int a1, V.ref c].set 1 (V.int b1)))) c = some (.lst (ns.map V.int)) := by rw [upd_ne nca]; exact hc
        have kp1 : Kp a H (upd H a (.lst ([V.int a0, V.int a1, V.ref c].set 1 (V.int b1)))) := Kp.upd
        generalize (upd H a (.lst ([V.int a0, V.int a1, V.ref c].set 1 (V.int b1)))) = H1 at hs1 hc1 kp1
        have fin : ∀ r : Int, ∃ p xs k j, V.ref a = .ref p ∧ V.int 0 = .int k ∧ H1 p = some (.lst xs) ∧ ixN xs.length k = some j ∧ (∃ x2 x3, [some (V.ref a), some (V.int m), some (V.ref c), some (V.int a1), none] = [some (V.ref a), some (V.int m), x2, x3, none] ∧ Src (upd H1 p (.lst (xs.set j (.int r)))) a c ∧ Kp a H (upd H1 p (.lst (xs.set j (.int r))))) := fun r =>
          ⟨a, _, 0, 0, rfl, rfl, hs1, rfl, _, _, rfl, ⟨r, b1, ns, upd_same, by omega, by rw [upd_ne nca]; exact hc1, hl⟩, kp1.trans Kp.upd⟩
        refine ⟨_, rfl, _, rfl, c, _, rfl, .inl (sql_of hc1), _, _, rfl, rfl, _, rfl, ?_⟩
        refine ite2 (fun e => ?_) (fun e => ?_)
        · have e1 : a1 < (ns.map V.int).length := of_decide_eq_true e
          rw [List.length_map] at e1
          obtain ⟨cv, hcv⟩ := at_int p0 e1
          refine ⟨_, rfl, _, rfl, c, _, a1, _, rfl, rfl, sql_of hc1, hcv, cv, rfl, fun r r0 r1 => ⟨10, 18, rfl, rfl, ⟨by decide, by decide, by decide⟩, _, _, rfl, rfl, _, rfl, ite2 (fun _ => ?_) (fun _ => ?_)⟩⟩
          · exact ⟨_, rfl, _, rfl, c, _, a1, _, rfl, rfl, sql_of hc1, hcv, cv, rfl, fun r' _ _ => ⟨_, rfl, fin r'⟩⟩
          · skip
            refine ⟨_, rfl, c, _, rfl, .inl (sql_of hc1), _, _, rfl, rfl, _, rfl, ite2 (fun e2 => ?_) (fun _ => ?_)⟩
            · have e3 : (0 : Int) < (ns.map V.int).length := of_decide_eq_true e2
              refine ⟨_, rfl, _, rfl, a1, rfl, _, rfl, c, _, rfl, .inl (sql_of hc1), _, _, rfl, rfl, e3, fun d d0 d1 => ?_⟩
              rw [List.length_map] at d1
              obtain ⟨cv, hcv⟩ := at_int d0 d1
              exact ⟨c, _, d, _, rfl, rfl, sql_of hc1, hcv, _, rfl, cv, a1, rfl, fun r => ⟨_, rfl, fin r⟩⟩
            · exact ⟨_, rfl, 0, a1, rfl, fun r => ⟨_, rfl, fin r⟩⟩
        · skip
          refine ⟨_, rfl, c, _, rfl, .inl (sql_of hc1), _, _, rfl, rfl, _, rfl, ite2 (fun e2 => ?_) (fun _ => ?_)⟩
          · have e3 : (0 : Int) < (ns.map V.int).length := of_decide_eq_true e2
            refine ⟨_, rfl, _, rfl, a1, rfl, _, rfl, c, _, rfl, .inl (sql_of hc1), _, _, rfl, rfl, e3, fun d d0 d1 => ?_⟩
            rw [List.length_map] at d1
            obtain ⟨cv, hcv⟩ := at_int d0 d1
            exact ⟨c, _, d, _, rfl, rfl, sql_of hc1, hcv, _, rfl, cv, a1, rfl, fun r => ⟨_, rfl, fin r⟩⟩
          · exact ⟨_, rfl, 0, a1, rfl, fun r => ⟨_, rfl, fin r⟩⟩
      · exact ⟨none, none, rfl, ⟨a0, a1, ns, hs, p0, hc, hl⟩, Kp.refl⟩
    · rintro σ' H' ⟨x2, x3, rfl, ⟨a0', a1', ns', hs', p0', hc', hl'⟩, kp'⟩
      have nca' : c ≠ a := Src.ne hs' hc'
      refine ⟨_, rfl, a, _, 0, .int a0', rfl, rfl, sql_of hs', rfl, _, rfl, _, rfl, _, _, rfl, rfl, m0, fun d d0 d1 => ?_⟩
      refine ⟨_, rfl, a, _, 0, .int a0', rfl, rfl, sql_of hs', rfl, _, rfl, _, rfl, _, _, rfl, rfl, wide_div m0 mB (by decide) (by decide), fun r => ⟨_, rfl, a, _, 0, 0, rfl, rfl, hs', rfl, _, rfl, ?_⟩⟩
      exact k d _ d0 d1 (kp'.trans Kp.upd) ⟨r, a1', ns', upd_same, p0', by rw [upd_ne nca']; exact hc', hl'⟩
end
end DO

namespace DO
open PySem PySem.Spec PyProof.Rows L2
section
variable {P : Program} {w : World} {K : PySem.W.Frag} {mg : Str → Option Value} {base : Heap}
/-! ### texts of one sign -/
def sg (c : Nat) : Str := ⟨#[c]⟩
def SgL (cs : List Nat) : List V := cs.map fun c => V.str (sg c)
theorem sg_inj {a b : Nat} (h : sg a = sg b) : a = b := by
  have e := congrArg (fun z : Str => z.cps.toList) h
  have e2 : [a] = [b] := e
  injection e2
theorem sg_beq (a b : Nat) : (sg a == sg b) = decide (a = b) := by
  by_cases e : a = b
  · subst e
    simp
  · rw [decide_eq_false e]
    exact beq_eq_false_iff_ne.mpr fun h => e (sg_inj h)
theorem eqV_sg (a b : Nat) : eqV (.str (sg a)) (.str (sg b)) = decide (a = b) := sg_beq a b
theorem inV_sg (c : Nat) (cs : List Nat) : inV (.str (sg c)) (SgL cs) = decide (c ∈ cs) := by
  unfold inV SgL
  induction cs with
  | nil => rfl
  | cons x r ih =>
    rw [List.map_cons, List.any_cons, ih, eqV_sg]
    by_cases e : x = c
    · subst e
      simp
    · have e' : ¬ c = x := fun z => e z.symm
      simp [e, e']
theorem flat_sg (cs : List Nat) : (SgL cs).all flatV = true := by
  unfold SgL
  rw [List.all_eq_true]
  intro x hx
  obtain ⟨c, _, rfl⟩ := List.mem_map.mp hx
  rfl
theorem SgL_len (cs : List Nat) : (SgL cs).length = cs.length := by
  unfold SgL
  rw [List.length_map]
theorem SgL_at {cs : List Nat} {i : Int} (h0 : 0 ≤ i) (h1 : i < cs.length) : ∃ c ∈ cs, atI (SgL cs) i = some (.str (sg c)) := by
  obtain ⟨j, rfl⟩ := Int.eq_ofNat_of_zero_le h0
  have hj : j < cs.length := by omega
  exact ⟨cs[j], List.getElem_mem hj, atI_nat (by unfold SgL; rw [List.getElem?_map, List.getElem?_eq_getElem hj]; rfl)⟩
/-- of a list without repeats each left-out item takes one at most -/
theorem len_ne {l : List Nat} (hl : l.Nodup) (x : Nat) : l.length ≤ (l.filter fun c => !decide (c = x)).length + 1 := by
  induction l with
  | nil => simp
  | cons a r ih =>
    obtain ⟨h1, h2⟩ := List.nodup_cons.mp hl
    by_cases e : a = x
    · subst e
      have q : (r.filter fun c => !decide (c = a)) = r := List.filter_eq_self.mpr fun c hc => by
        have : ¬ c = a := fun z => h1 (z ▸ hc)
        simp [this]
      rw [List.filter_cons, if_neg (by simp), q]
      simp
    · have q := ih h2
      rw [List.filter_cons, if_pos (by simp [e])]
      simp only [List.length_cons]
      omega
theorem len_out {l : List Nat} (hl : l.Nodup) (cs : List Nat) : l.length ≤ (l.filter fun c => !decide (c ∈ cs)).length + cs.length := by
  induction cs with
  | nil =>
    have q : (l.filter fun c => !decide (c ∈ ([] : List Nat))) = l := List.filter_eq_self.mpr fun c _ => by simp
    rw [q]
    simp
  | cons x r ih =>
    have e : (l.filter fun c => !decide (c ∈ x :: r)) = ((l.filter fun c => !decide (c ∈ r)).filter fun c => !decide (c = x)) := by
      rw [List.filter_filter]
      apply List.filter_congr
      intro c _
      by_cases h1 : c = x <;> by_cases h2 : c ∈ r <;> simp [h1, h2]
    have q := len_ne (hl.filter (fun c => !decide (c ∈ r))) x
    rw [e, List.length_cons]
    omega
theorem iteF' {b : Bool} {A B : Prop} (e : b = false) (h : B) : if b = true then A else B := by
  subst e
  exact iteF h
theorem iteT' {b : Bool} {A B : Prop} (e : b = true) (h : A) : if b = true then A else B := by
  subst e
  exact iteT h
theorem Src.of_same {H H' : Hp} {a c : Addr} (h : Src H a c) (e : Same H H') : Src H' a c := by
  obtain ⟨a0, a1, ns, hs, p0, hc, hl⟩ := h
  exact ⟨a0, a1, ns, e _ _ hs, p0, e _ _ hc, hl⟩
theorem Src.of_upd {H : Hp} {a c f : Addr} {o : HO} (h : Src H a c) (h1 : a ≠ f) (h2 : c ≠ f) : Src (upd H f o) a c := by
  obtain ⟨a0, a1, ns, hs, p0, hc, hl⟩ := h
  exact ⟨a0, a1, ns, by rw [upd_ne h1]; exact hs, p0, by rw [upd_ne h2]; exact hc, hl⟩
/-! ### some signs -/
end
end DO

namespace DO
open PySem PySem.Spec PyProof.Rows L2
section
variable {P : Program} {w : World} {K : PySem.W.Frag} {mg : Str → Option Value} {base : Heap}
/-! ### texts -/
def tx (ds : List Nat) : Str := ⟨ds.toArray⟩
theorem tx_of (z : Str) : ∃ ds, z = tx ds := ⟨z.cps.toList, by unfold tx; simp⟩
theorem tx_list (ds : List Nat) : (tx ds).cps.toList = ds := by simp [tx]
theorem tx_len (ds : List Nat) : (tx ds).length = ds.length := by
  show ds.toArray.size = ds.length
  simp
theorem tx_inj {a b : List Nat} (h : tx a = tx b) : a = b := by
  have := congrArg (fun z : Str => z.cps.toList) h
  simpa [tx] using this
theorem tx_app (a b : List Nat) : tx a ++ tx b = tx (a ++ b) := by
  show (⟨a.toArray ++ b.toArray⟩ : Str) = ⟨(a ++ b).toArray⟩
  simp
theorem sg_tx (c : Nat) : sg c = tx [c] := rfl
theorem atI_mem {l : List Nat} {i : Int} (h0 : 0 ≤ i) (h1 : i < l.length) : ∃ c ∈ l, atI l i = some c := by
  obtain ⟨j, rfl⟩ := Int.eq_ofNat_of_zero_le h0
  have hj : j < l.length := by omega
  exact ⟨l[j], List.getElem_mem hj, atI_nat (List.getElem?_eq_getElem hj)⟩
def az : Str := "abcdefghijklmnopqrstuvwxyz"
def azn : Str := az ++ "0123456789"
theorem az_len : az.cps.toList.length = 26 := by decide +kernel
theorem azn_len : azn.cps.toList.length = 36 := by decide +kernel
theorem az_sub : ∀ c ∈ az.cps.toList, c ∈ azn.cps.toList := by decide +kernel
/-- a name's signs, whatever its length -/
def Wd (ds : List Nat) : Prop := ∃ c r, ds = c :: r ∧ c ∈ az.cps.toList ∧ ∀ x ∈ r, x ∈ azn.cps.toList
theorem Wd.snoc {ds : List Nat} {c : Nat} (h : Wd ds) (hc : c ∈ azn.cps.toList) : Wd (ds ++ [c]) := by
  obtain ⟨x, r, rfl, h1, h2⟩ := h
  refine ⟨x, r ++ [c], rfl, h1, fun y hy => ?_⟩
  rcases List.mem_append.mp hy with z | z
  · exact h2 y z
  · rw [List.mem_singleton.mp z]
    exact hc
abbrev sWord : Stmt := top 24
theorem scWord : FnScope ["_law_source_here", "_law_size", "_law_letters", "_law_signs", "_law_word_here", "_law_k"] ["_law_source_here", "_law_size"] (defScope sWord) := ⟨rfl, rfl, rfl, by decide +kernel, rfl, by decide +kernel, by decide +kernel⟩
def spWord : Sp := fun vs H Q _ => ∃ (a c : Addr) (n : Int), vs = [.ref a, .int n] ∧ Src H a c ∧ 1 ≤ n ∧ n ≤ 12 ∧ ∀ (ds : List Nat) H', (ds.length : Int) = n → Wd ds → Kp a H H' → Src H' a c → Q (.str (tx ds)) H'
theorem ok_word (D : Df K mg "_law_word" sWord ["_law_source_here", "_law_size"]) (D7 : Df K mg "_law_take" sTake ["_law_source_here", "_law_many"]) (G : FnOk P w K mg base CX0 2 D7.f D7.fd ["_law_source_here", "_law_many"] spTake)
    (mr : mg "range" = none) : FnOk P w K mg base CX0 3 D.f D.fd ["_law_source_here", "_law_size"] spWord := by
  refine D.fn.ok scWord (fun vs H Q E h => ?_) (fun cdv A outer s H vs Q E hr h => ?_)
  · obtain ⟨a, c, n, rfl, _⟩ := h
    rfl
  · obtain ⟨a, c, n, rfl, hsrc, n1, n12, k⟩ := h
    refine ⟨_, (pss_cons (ps_set (i := 2) scWord.nd rfl (.inl rfl) pe_str)
      (pss_cons (ps_set (i := 3) scWord.nd rfl (.inl rfl) (pe_op op_add_str (pv 2) pe_str))
      (pss_cons (ps_set (i := 4) scWord.nd rfl (.inl rfl) (pe_ix ix_str (pv 2) (pe_call G hr (by rfl) D7.mgf D7.fn.kp D7.bd .nil pass0 (pa_cons (pv 0) (pa_cons pe_int pa_nil))) (fun _ _ => rfl)))
      (pss_cons (ps_for PassesOwn.never rfl (pi_range1 rfl mr (pa_cons (pe_op op_subL (pv 1) pe_int) pa_nil)) (pg_name (i := 5) scWord.nd rfl (Or.inl rfl))
      (pss_one (ps_set (i := 4) scWord.nd rfl (.inl rfl) (pe_op op_add_str (pv 4) (pe_ix ix_str (pv 3) (pe_call G hr (by rfl) D7.mgf D7.fn.kp D7.bd .nil pass0 (pa_cons (pv 0) (pa_cons pe_int pa_nil))) (fun _ _ => rfl))))))
      (pss_one (ps_ret (pv 4))))))), ?_⟩
    refine ⟨_, rfl, _, _, rfl, rfl, (by decide +kernel), ?_⟩
    refine ⟨_, rfl, _, rfl, a, c, 26, rfl, hsrc, by decide, by decide, fun t H1 t0 t1 kp1 sr1 => ?_⟩
    obtain ⟨c0, hc0, hat0⟩ := atI_mem (l := az.cps.toList) t0 (by rw [az_len]; exact t1)
    refine ⟨az, t, c0, rfl, rfl, (by decide +kernel), hat0, ?_⟩
    refine ⟨_, rfl, n, 1, rfl, rfl, fun m em => ⟨m, rfl, by omega, by omega, for_range (lo := 0) (n := m.toNat) (fun i σ H2 => ∃ (ds : List Nat) (x : Option V), σ = [some (.ref a), some (.int n), some (.str az), some (.str azn), some (.str (tx ds)), x] ∧ ds.length = i + 1 ∧ Wd ds ∧ Kp a H H2 ∧ Src H2 a c) ⟨[c0], none, rfl, rfl, ⟨c0, [], rfl, hc0, fun x hx => by simp at hx⟩, kp1, sr1⟩ ?_ ?_⟩⟩
    · rintro i σ H2 hi ⟨ds, x, rfl, hl, hw, kp, sr⟩
      refine ⟨_, rfl, _, rfl, _, rfl, a, c, 36, rfl, sr, by decide, by decide, fun t2 H3 t20 t21 kp2 sr2 => ?_⟩
      obtain ⟨c1, hc1, hat1⟩ := atI_mem (l := azn.cps.toList) t20 (by rw [azn_len]; exact t21)
      refine ⟨azn, t2, c1, rfl, rfl, (by decide +kernel), hat1, _, _, rfl, rfl, ?_, ?_⟩
      · rw [tx_len, hl]
        show i + 1 + 1 ≤ 16777216
        omega
      · rw [← show sg c1 = (⟨#[c1]⟩ : Str) from rfl, sg_tx, tx_app]
        exact ⟨ds ++ [c1], _, rfl, by rw [List.length_append, hl]; rfl, hw.snoc hc1, kp.trans kp2, sr2⟩
    · rintro σ H2 ⟨ds, x, rfl, hl, hw, kp, sr⟩
      exact ⟨_, rfl, k ds H2 (by omega) hw kp sr⟩
end
end DO

namespace DO
open PySem PySem.Spec PyProof.Rows L2
section
variable {P : Program} {w : World} {K : PySem.W.Frag} {mg : Str → Option Value} {base : Heap}
/-! ### a sign, n times -/
theorem fold_rep (c : Nat) : ∀ (n : Nat) (acc : Array Nat), ((List.replicate n #[c]).foldl (· ++ ·) acc).toList = acc.toList ++ List.replicate n c
  | 0, acc => by simp
  | n + 1, acc => by
    rw [List.replicate_succ, List.foldl_cons, fold_rep c n]
    simp [List.replicate_succ]
theorem mul_sg (c : Nat) {i : Int} (h : 0 ≤ i) : Txt.mul (sg c) i = tx (List.replicate i.toNat c) := by
  have e : ∀ a b : Str, a.cps.toList = b.cps.toList → a = b := fun a b q => by
    cases a
    cases b
    exact congrArg Str.mk (Array.toList_inj.mp q)
  apply e
  rw [tx_list]
  unfold Txt.mul
  by_cases h1 : i < 1
  · rw [if_pos h1, show i.toNat = 0 by omega]
    rfl
  · rw [if_neg h1]
    by_cases h2 : i = 1
    · subst h2
      rfl
    · have h3 : (i == 1 || (sg c).length == 0) = false := by
        have : (sg c).length = 1 := rfl
        simp [h2, this]
      rw [h3]
      show ((List.replicate i.toNat #[c]).foldl (· ++ ·) #[]).toList = _
      rw [fold_rep]
      simp
theorem op_mulT {X : Cx} : OpR X (binaryOp .Mult) (fun x y H Q => ∃ (c : Nat) (i : Int), x = .str (sg c) ∧ y = .int i ∧ 0 ≤ i ∧ i ≤ 1000 ∧ Q (.str (tx (List.replicate i.toNat c))) H) := by
  intro pins s σ H x y v u Q I rx ry h
  obtain ⟨c, i, rfl, rfl, h0, h1, q⟩ := h
  obtain ⟨t, rfl⟩ := rx
  obtain ⟨t2, rfl⟩ := ry
  refine PySem.W.KXi.mul (n := 1) rfl (by decide) (by omega) (by omega) fun t' k _ _ => ⟨.str (tx (List.replicate i.toNat c)), H, I.tok k, ⟨t', ?_⟩, q⟩
  rw [mul_sg c h0]
/-! ### names -/
structure Nm (ds : List Nat) : Prop where
  wd : Wd ds
  len : ds.length ≤ 12
  fr : tx ds ≠ "frame"
theorem Wd.all {ds : List Nat} (h : Wd ds) : ∀ x ∈ ds, x ∈ azn.cps.toList := by
  obtain ⟨c, r, rfl, h1, h2⟩ := h
  intro x hx
  rcases List.mem_cons.mp hx with z | z
  · rw [z]
    exact az_sub c h1
  · exact h2 x z
theorem Wd.ne {ds : List Nat} (h : Wd ds) : 1 ≤ ds.length := by
  obtain ⟨c, r, rfl, _⟩ := h
  exact Nat.succ_pos _
theorem Wd.app {a b : List Nat} (h : Wd a) (hb : ∀ x ∈ b, x ∈ azn.cps.toList) : Wd (a ++ b) := by
  obtain ⟨c, r, rfl, h1, h2⟩ := h
  refine ⟨c, r ++ b, rfl, h1, fun y hy => ?_⟩
  rcases List.mem_append.mp hy with z | z
  · exact h2 y z
  · exact hb y z
theorem Wd.take {a : List Nat} (h : Wd a) {n : Nat} (hn : 1 ≤ n) : Wd (a.take n) := by
  obtain ⟨c, r, rfl, h1, h2⟩ := h
  obtain ⟨j, rfl⟩ : ∃ j, n = j + 1 := ⟨n - 1, by omega⟩
  exact ⟨c, r.take j, rfl, h1, fun x hx => h2 x (List.mem_of_mem_take hx)⟩
/-- the digits behind a name -/
def dg (j : Nat) : List Nat := (Str.ofString (toString (j : Int))).cps.toList
theorem dg_ok : ((List.range 40).all fun j => decide ((dg j).length ≤ 2) && decide (1 ≤ (dg j).length) && (dg j).all (fun x => decide (x ∈ azn.cps.toList)) && decide ((dg j).getLast? ≠ some 101)) = true := by decide +kernel
theorem dg_at {j : Nat} (h : j < 40) : (dg j).length ≤ 2 ∧ 1 ≤ (dg j).length ∧ (∀ x ∈ dg j, x ∈ azn.cps.toList) ∧ (dg j).getLast? ≠ some 101 := by
  have := List.all_eq_true.mp dg_ok j (List.mem_range.mpr h)
  rw [Bool.and_eq_true, Bool.and_eq_true, Bool.and_eq_true] at this
  obtain ⟨⟨⟨a, b⟩, c⟩, d⟩ := this
  exact ⟨of_decide_eq_true a, of_decide_eq_true b, fun x hx => of_decide_eq_true (List.all_eq_true.mp c x hx), of_decide_eq_true d⟩
theorem dg_frame {w : List Nat} {j : Nat} (h : j < 40) : tx (w ++ dg j) ≠ "frame" := fun e => by
  obtain ⟨h1, h2, h3, h4⟩ := dg_at h
  have e2 : w ++ dg j = (Str.ofString "frame").cps.toList := by
    have := congrArg (fun z : Str => z.cps.toList) e
    simpa [tx] using this
  have e3 : (w ++ dg j).getLast? = some 101 := by
    rw [e2]
    decide +kernel
  rw [List.getLast?_append] at e3
  cases q : (dg j).getLast? with
  | none =>
    have := List.getLast?_eq_none_iff.mp q
    rw [this] at h2
    exact absurd h2 (by decide)
  | some x =>
    rw [q] at e3 h4
    simp at e3
    exact h4 (by rw [e3])
def NmL (ns : List (List Nat)) : List V := ns.map fun ds => V.str (tx ds)
theorem flat_nm (ns : List (List Nat)) : (NmL ns).all flatV = true := by
  unfold NmL
  rw [List.all_map]
  exact List.all_eq_true.mpr fun _ _ => rfl
theorem Kp.free {a p : Addr} {H H' : Hp} {o : HO} (k : Kp a H H') (ha : H' a = some o) (hp : H' p = none) : H p = none := by
  cases e : H p with
  | none => rfl
  | some x =>
    have : p ≠ a := fun z => by
      rw [z, ha] at hp
      cases hp
    rw [k _ _ e this] at hp
    cases hp
theorem tx_cps (z : Str) : tx z.cps.toList = z := by simp [tx]
theorem sz16 {n : Nat} (h : n ≤ 1000) : n ≤ sizeLine := Nat.le_of_lt (small1000 h)
theorem not_frame {w : List Nat} (e : ¬ decide (V.str (tx w) = V.str (Str.ofString "frame")) = true) : tx w ≠ "frame" := fun z => e (decide_eq_true (congrArg V.str z))
abbrev sNames : Stmt := top 25
theorem scNames : FnScope ["_law_source_here", "_law_many", "_law_letters", "_law_shape", "_law_size", "_law_spot", "_law_shift", "_law_stem", "_law_found", "_law_k", "_law_word_here", "_law_j"] ["_law_source_here", "_law_many"] (defScope sNames) := ⟨rfl, rfl, rfl, by decide +kernel, rfl, by decide +kernel, by decide +kernel⟩
def spNames : Sp := fun vs H Q _ => ∃ (a c : Addr) (m : Int), vs = [.ref a, .int m] ∧ Src H a c ∧ 1 ≤ m ∧ m ≤ 10 ∧
  ∀ (ns : List (List Nat)) (f : Addr) H', H f = none → (ns.length : Int) = m → (∀ ds ∈ ns, Nm ds) → H' f = some (.lst (NmL ns)) → Kp a H H' → Src H' a c → Q (.ref f) H'
theorem ok_names (D : Df K mg "_law_names" sNames ["_law_source_here", "_law_many"]) (D7 : Df K mg "_law_take" sTake ["_law_source_here", "_law_many"]) (G : FnOk P w K mg base CX0 2 D7.f D7.fd ["_law_source_here", "_law_many"] spTake)
    (DW : Df K mg "_law_word" sWord ["_law_source_here", "_law_size"]) (GW : FnOk P w K mg base CX0 3 DW.f DW.fd ["_law_source_here", "_law_size"] spWord)
    (mr : mg "range" = none) (mi : mg "int" = none) (ms : mg "str" = none) : FnOk P w K mg base CX0 4 D.f D.fd ["_law_source_here", "_law_many"] spNames := by
  refine D.fn.ok scNames (fun vs H Q E h => ?_) (fun cdv A outer s H vs Q E hr h => ?_)
  · obtain ⟨a, c, n, rfl, _⟩ := h
    rfl
  · obtain ⟨a, c, m, rfl, hsrc, m1, m10, k⟩ := h
    refine ⟨_, (pss_cons (ps_set (i := 2) scNames.nd rfl (.inl rfl) pe_str)
      (pss_cons (ps_set (i := 3) scNames.nd rfl (.inl rfl) (pe_call G (hr.mono (by decide)) (by rfl) D7.mgf D7.fn.kp D7.bd .nil pass0 (pa_cons (pv 0) (pa_cons pe_int pa_nil))))
      (pss_cons (ps_set (i := 4) scNames.nd rfl (.inl rfl) (pe_op op_addL pe_int (pe_call G (hr.mono (by decide)) (by rfl) D7.mgf D7.fn.kp D7.bd .nil pass0 (pa_cons (pv 0) (pa_cons pe_int pa_nil)))))
      (pss_cons (ps_set (i := 5) scNames.nd rfl (.inl rfl) (pe_call G (hr.mono (by decide)) (by rfl) D7.mgf D7.fn.kp D7.bd .nil pass0 (pa_cons (pv 0) (pa_cons (pv 4) pa_nil))))
      (pss_cons (ps_set (i := 6) scNames.nd rfl (.inl rfl) (pe_call G (hr.mono (by decide)) (by rfl) D7.mgf D7.fn.kp D7.bd .nil pass0 (pa_cons (pv 0) (pa_cons pe_int pa_nil))))
      (pss_cons (ps_set (i := 7) scNames.nd rfl (.inl rfl) (pe_call GW hr (by rfl) DW.mgf DW.fn.kp DW.bd .nil pass0 (pa_cons (pv 0) (pa_cons (pv 4) pa_nil))))
      (pss_cons (ps_set (i := 8) scNames.nd rfl (.inl rfl) (pe_lst pa_nil))
      (pss_cons (ps_for PassesOwn.never rfl (pi_range1 rfl mr (pa_cons (pv 1) pa_nil)) (pg_name (i := 9) scNames.nd rfl (Or.inl rfl))
      (pss_cons (ps_set (i := 10) scNames.nd rfl (.inl rfl) (pe_op op_add_str (pe_op op_add_str (pe_slice C8.sl_txt (pv 7) po_none (po_some (pv 5))) (pe_ix ix_str (pv 2) (pe_op op_modL (pe_callTy call_int1L (by rfl) mi (by decide +kernel) (pa_cons (pe_op op_addL (pv 6) (pv 9)) pa_nil)) pe_int) (fun _ _ => rfl))) (pe_slice C8.sl_txt (pv 7) (po_some (pe_op op_addL (pv 5) pe_int)) po_none)))
      (C8.pss_cut (ps_if (pt_cmpR op_eq (pv 3) pe_int (nomark _))
      (pss_one (ps_set (i := 10) scNames.nd rfl (.inl rfl) (pe_slice C8.sl_txt (pe_op op_add_str (pe_slice C8.sl_txt (pv 7) po_none (po_some pe_int)) (pe_op op_mulT (pe_ix ix_str (pv 2) (pv 6) (fun _ _ => rfl)) (pv 9))) po_none (po_some pe_int))))
      (pss_one (ps_if (pt_cmpR op_gt (pv 3) pe_int (nomark _))
      (pss_one (ps_set (i := 10) scNames.nd rfl (.inl rfl) (pe_call GW hr (by rfl) DW.mgf DW.fn.kp DW.bd .nil pass0 (pa_cons (pv 0) (pa_cons (pe_op op_addL pe_int (pe_call G (hr.mono (by decide)) (by rfl) D7.mgf D7.fn.kp D7.bd .nil pass0 (pa_cons (pv 0) (pa_cons (pe_ifExp (pt_cmpR op_eq (pv 3) pe_int (nomark _)) pe_int pe_int) pa_nil)))) pa_nil)))))
      pss_nil)))
      (pss_cons (ps_for PassesOwn.never rfl (pi_range1 rfl mr (pa_cons pe_int pa_nil)) (pg_name (i := 11) scNames.nd rfl (Or.inl rfl))
      (pss_one (ps_if (PW.pt (pw_or (pt_cmpR (show OpR _ _ (rIn K false) from op_in_seq) (pv 10) (pv 8) rfl) (pw_or1 (pt_cmpR op_eq (pv 10) pe_str (nomark _)))))
      (pss_one (ps_set (i := 10) scNames.nd rfl (.inl rfl) (pe_op op_add_str (pe_slice C8.sl_txt (pv 10) po_none (po_some pe_int)) (pe_callTy call_str_int (by rfl) ms (by decide +kernel) (pa_cons (pv 11) pa_nil)))))
      pss_nil)))
      (pss_one (ps_expr (pe_bm PySem.F.plainAttrs_list PySem.F.slot_list_append PySem.F.type_list_append mt_append (pv 8) (pa_cons (pv 10) pa_nil))))))))
      (pss_cons (ps_if (pt_cmpR op_eq (pe_call G (hr.mono (by decide)) (by rfl) D7.mgf D7.fn.kp D7.bd .nil pass0 (pa_cons (pv 0) (pa_cons pe_int pa_nil))) pe_int (nomark _))
      (pss_one (ps_ret (pe_revL (pv 8))))
      pss_nil)
      (pss_one (ps_ret (pv 8)))))))))))), ?_⟩
    refine ⟨_, rfl, a, c, 4, rfl, hsrc, by decide, by decide, fun sh H1 sh0 sh1 kp1 sr1 => ?_⟩
    refine ⟨_, rfl, a, c, 12, rfl, sr1, by decide, by decide, fun z H2 z0 z1 kp2 sr2 => ⟨_, _, rfl, rfl, fun sz esz => ?_⟩⟩
    refine ⟨_, rfl, _, rfl, a, c, sz, rfl, sr2, by omega, Nat.lt_of_le_of_lt (show sz.natAbs ≤ 100 by omega) (by decide), fun sp H3 sp0 sp1 kp3 sr3 => ?_⟩
    refine ⟨_, rfl, a, c, 26, rfl, sr3, by decide, by decide, fun sf H4 sf0 sf1 kp4 sr4 => ?_⟩
    refine ⟨_, rfl, _, rfl, a, c, sz, rfl, sr4, by omega, by omega, fun st H5 hst hw kp5 sr5 => ?_⟩
    refine ⟨Nat.zero_le _, fun f nf => ?_⟩
    have kp05 := (((kp1.trans kp2).trans kp3).trans kp4).trans kp5
    have stl : (tx st).length = st.length := tx_len st
    obtain ⟨_, _, _, hs5, _, hc5, _⟩ := id sr5
    have nfa : f ≠ a := (ne_of_none hs5 nf).symm
    have nfc : c ≠ f := ne_of_none hc5 nf
    have nf0 : H f = none := kp05.free hs5 nf
    obtain ⟨l1, hl1, hat1⟩ := atI_mem (l := az.cps.toList) sf0 (by rw [az_len]; exact sf1)
    have azl : az.length ≤ sizeLine := by decide +kernel
    refine ⟨_, rfl, m, rfl, by omega, by omega, for_range (lo := 0) (n := m.toNat) (fun i σ H2 => ∃ (ns : List (List Nat)) (x9 x10 x11 : Option V), σ = [some (.ref a), some (.int m), some (.str az), some (.int sh), some (.int sz), some (.int sp), some (.int sf), some (.str (tx st)), some (.ref f), x9, x10, x11] ∧ ns.length = i ∧ (∀ ds ∈ ns, Nm ds) ∧ H2 f = some (.lst (NmL ns)) ∧ Kp a H H2 ∧ Src H2 a c)
      ⟨[], none, none, none, rfl, rfl, fun x hx => by simp at hx, upd_same, kp05.trans (Kp.same (same_upd nf)), sr5.of_same (same_upd nf)⟩ ?_ ?_⟩
    · rintro i σ H6 hi ⟨ns, x9, x10, x11, rfl, hl, hns, hf, kp, sr⟩
      have e1 : Txt.slice (tx st) none (some sp) = tx (st.take sp.toNat) := SX.slice_to sp0
      refine ⟨_, rfl, _, rfl, sp, rfl, tx st, rfl, sz16 (by omega), ?_⟩
      rw [e1]
      refine ⟨_, rfl, _, rfl, _, rfl, _, _, rfl, rfl, fun r er => ⟨r, rfl, r, 26, rfl, rfl, by decide, fun q q0 q1 => ?_⟩⟩
      obtain ⟨l2, hl2, hat2⟩ := atI_mem (l := az.cps.toList) q0 (by rw [az_len]; exact q1)
      refine ⟨az, q, l2, rfl, rfl, azl, hat2, _, _, rfl, rfl, ?_, ?_⟩
      · rw [tx_len, List.length_take]
        exact sz16 (show _ + 1 ≤ 1000 by omega)
      rw [← show sg l2 = (⟨#[l2]⟩ : Str) from rfl, sg_tx, tx_app]
      refine ⟨_, rfl, _, rfl, _, _, rfl, rfl, fun r2 er2 => ⟨r2, rfl, tx st, rfl, sz16 (by omega), ?_⟩⟩
      rw [show Txt.slice (tx st) (some r2) none = tx (st.drop r2.toNat) from SX.slice_from (by omega)]
      refine ⟨_, _, rfl, rfl, ?_, ?_⟩
      · rw [tx_len, tx_len, List.length_append, List.length_take, List.length_drop]
        exact sz16 (show _ + 1 + _ ≤ 1000 by omega)
      rw [tx_app]
      have hw0 : Wd (st.take sp.toNat ++ [l2] ++ st.drop r2.toNat) := by
        have ha : ∀ x ∈ st.drop r2.toNat, x ∈ azn.cps.toList := fun x hx => hw.all x (List.mem_of_mem_drop hx)
        refine Wd.app ?_ ha
        by_cases z : sp.toNat = 0
        · rw [z]
          exact ⟨l2, [], rfl, hl2, fun x hx => by simp at hx⟩
        · exact (hw.take (by omega)).snoc (az_sub _ hl2)
      have hl0 : (st.take sp.toNat ++ [l2] ++ st.drop r2.toNat).length ≤ 12 := by
        rw [List.length_append, List.length_append, List.length_take, List.length_drop]
        show _ + 1 + _ ≤ 12
        omega
      generalize st.take sp.toNat ++ [l2] ++ st.drop r2.toNat = w0 at hw0 hl0
      -- by its shape
      refine ⟨fun σ' H' => ∃ w y9, σ' = [some (.ref a), some (.int m), some (.str az), some (.int sh), some (.int sz), some (.int sp), some (.int sf), some (.str (tx st)), some (.ref f), y9, some (.str (tx w)), x11] ∧ Wd w ∧ w.length ≤ 12 ∧ H' f = some (.lst (NmL ns)) ∧ Kp a H H' ∧ Src H' a c, ?_, ?_⟩
      · refine ⟨_, rfl, rfl, _, rfl, ite2 (fun _ => ?_) (fun _ => ?_)⟩
        · refine ⟨_, rfl, 1, rfl, tx st, rfl, sz16 (by omega), ?_⟩
          rw [show Txt.slice (tx st) none (some 1) = tx (st.take 1) from SX.slice_to (by decide)]
          refine ⟨_, rfl, _, rfl, az, sf, l1, rfl, rfl, azl, hat1, _, rfl, l1, _, rfl, rfl, by omega, by omega, _, _, rfl, rfl, ?_, ?_⟩
          · rw [tx_len, tx_len, List.length_take, List.length_replicate]
            exact sz16 (by omega)
          rw [tx_app]
          refine ⟨12, rfl, _, rfl, ?_, ?_⟩
          · rw [tx_len, List.length_append, List.length_take, List.length_replicate]
            exact sz16 (by omega)
          rw [show Txt.slice (tx (st.take 1 ++ List.replicate (0 + (i : Int)).toNat l1)) none (some 12) = tx ((st.take 1 ++ List.replicate (0 + (i : Int)).toNat l1).take 12) from SX.slice_to (by decide)]
          refine ⟨_, _, rfl, Wd.take ((hw.take (by decide)).app fun x hx => ?_) (by decide), ?_, hf, kp, sr⟩
          · rw [List.eq_of_mem_replicate hx]
            exact az_sub _ hl1
          · rw [List.length_take]
            exact Nat.min_le_left _ _
        · refine ⟨_, rfl, _, _, rfl, rfl, _, rfl, ite2 (fun _ => ?_) (fun _ => ?_)⟩
          · refine ⟨_, rfl, _, rfl, _, rfl, rfl, _, rfl, ite2 (fun _ => ?_) (fun _ => ?_)⟩
            · refine ⟨a, c, 12, rfl, sr, by decide, by decide, fun t H7 t0 t1 kp7 sr7 => ⟨_, _, rfl, rfl, fun r3 er3 => ⟨a, c, r3, rfl, sr7, by omega, by omega, fun w H8 hwl hww kp8 sr8 => ?_⟩⟩⟩
              exact ⟨w, _, rfl, hww, by omega, kp8 _ _ (kp7 _ _ hf nfa) nfa, (kp.trans kp7).trans kp8, sr8⟩
            · refine ⟨a, c, 2, rfl, sr, by decide, by decide, fun t H7 t0 t1 kp7 sr7 => ⟨_, _, rfl, rfl, fun r3 er3 => ⟨a, c, r3, rfl, sr7, by omega, by omega, fun w H8 hwl hww kp8 sr8 => ?_⟩⟩⟩
              exact ⟨w, _, rfl, hww, by omega, kp8 _ _ (kp7 _ _ hf nfa) nfa, (kp.trans kp7).trans kp8, sr8⟩
          · exact ⟨w0, _, rfl, hw0, hl0, hf, kp, sr⟩
      rintro σ' H7 ⟨w1, y9, rfl, hw1, hl1', hf7, kp7, sr7⟩
      -- no name twice, not the frame
      refine ⟨40, rfl, by decide, by decide, for_range (lo := 0) (n := 40) (fun j σ H2 => ∃ (w : List Nat) (y : Option V), σ = [some (.ref a), some (.int m), some (.str az), some (.int sh), some (.int sz), some (.int sp), some (.int sf), some (.str (tx st)), some (.ref f), y9, some (.str (tx w)), y] ∧ Wd w ∧ w.length ≤ 12 ∧ (1 ≤ j → tx w ≠ "frame") ∧ H2 = H7) ⟨w1, x11, rfl, hw1, hl1', fun z => absurd z (by decide), rfl⟩ ?_ ?_⟩
      · rintro j σ H8 hj ⟨w, y, rfl, hw2, hl2', hfr, rfl⟩
        obtain ⟨d1, d2, d3, d4⟩ := dg_at hj
        have big : Wd (w.take 10 ++ dg j) ∧ (w.take 10 ++ dg j).length ≤ 12 ∧ (1 ≤ j + 1 → tx (w.take 10 ++ dg j) ≠ "frame") := ⟨(hw2.take (by decide)).app d3, by rw [List.length_append, List.length_take]; omega, fun _ => dg_frame hj⟩
        have hs10 : Txt.slice (tx w) none (some 10) = tx (w.take 10) := SX.slice_to (by decide)
        have log : ((0 : Int) + (j : Int)).natAbs.log2 < 1920 := by
          have h1 : ((0 : Int) + (j : Int)).natAbs.log2 ≤ ((0 : Int) + (j : Int)).natAbs := by
            exact Nat.log2_le_self _
          omega
        have ej : (Str.ofString (toString ((0 : Int) + (j : Int)))) = tx (dg j) := by
          rw [Int.zero_add]
          exact (tx_cps _).symm
        refine ⟨_, rfl, _, rfl, f, NmL ns, rfl, .inl (sql_of hf7), rfl, flat_nm ns, _, rfl, ite2 (fun _ => ?_) (fun _ => ⟨_, rfl, rfl, _, rfl, ite2 (fun _ => ?_) (fun e2 => ?_)⟩)⟩
        · refine ⟨_, rfl, 10, rfl, _, rfl, sz16 (by rw [tx_len]; omega), _, rfl, _, rfl, log, _, _, rfl, rfl, ?_, ?_⟩
          · rw [hs10, ej, tx_len, tx_len, List.length_take]
            exact sz16 (by omega)
          · rw [hs10, ej, tx_app]
            exact ⟨_, _, rfl, big.1, big.2.1, big.2.2, rfl⟩
        · refine ⟨_, rfl, 10, rfl, _, rfl, sz16 (by rw [tx_len]; omega), _, rfl, _, rfl, log, _, _, rfl, rfl, ?_, ?_⟩
          · rw [hs10, ej, tx_len, tx_len, List.length_take]
            exact sz16 (by omega)
          · rw [hs10, ej, tx_app]
            exact ⟨_, _, rfl, big.1, big.2.1, big.2.2, rfl⟩
        · exact ⟨w, _, rfl, hw2, hl2', fun _ => not_frame (by simpa using e2), rfl⟩
      · rintro σ H8 ⟨w, y, rfl, hw2, hl2', hfr, rfl⟩
        refine ⟨_, rfl, .inl ⟨rfl, _, sql_of hf7⟩, _, rfl, f, _, _, rfl, rfl, hf7, ?_, ns ++ [w], _, _, _, rfl, by rw [List.length_append, hl]; rfl, fun x hx => ?_, ?_, ?_, sr7.of_upd nfa.symm nfc⟩
        · unfold NmL
          rw [List.length_map]
          exact small1000 (by omega)
        · rcases List.mem_append.mp hx with z | z
          · exact hns x z
          · rw [List.mem_singleton.mp z]
            exact ⟨hw2, hl2', hfr (by decide)⟩
        · rw [upd_same]
          unfold NmL
          rw [List.map_append]
          rfl
        · intro b o eb nb
          rw [upd_ne (ne_of_none eb nf0)]
          exact kp7 _ _ eb nb
    · rintro σ H6 ⟨ns, x9, x10, x11, rfl, hl, hns, hf, kp, sr⟩
      refine ⟨_, rfl, a, c, 2, rfl, sr, by decide, by decide, fun t H7 _ _ kp7 sr7 => ⟨rfl, _, rfl, ite2 (fun _ => ?_) (fun _ => ?_)⟩⟩
      · obtain ⟨_, _, _, hs7, _⟩ := id sr7
        refine ⟨_, rfl, f, _, rfl, sql_of (kp7 _ _ hf nfa), fun p hp => k ns.reverse p _ ((kp.trans kp7).free hs7 hp) (by rw [List.length_reverse]; omega) (fun x hx => hns x (List.mem_reverse.mp hx)) ?_ ((kp.trans kp7).trans (Kp.same (same_upd hp))) (sr7.of_same (same_upd hp))⟩
        rw [upd_same]
        unfold NmL
        rw [List.map_reverse]
      · exact ⟨_, rfl, k ns f H7 nf0 (by omega) hns (kp7 _ _ hf nfa) (kp.trans kp7) sr7⟩
end
end DO

namespace DO
open PySem PySem.Spec PyProof.Rows L2
section
variable {X : Cx}
theorem op_powL : OpR X (binaryOp .Pow) (fun x y H Q => ∃ i j : Int, x = .int i ∧ y = .int j ∧ CPow i j ∧ ∀ r : Int, r = i ^ j.toNat → Q (.int r) H) := by
  intro pins s σ H x y v u Q I rx ry h
  obtain ⟨i, j, hx, hy, hj, k⟩ := h
  exact op_pow pins s σ H x y v u Q I rx ry ⟨i, j, hx, hy, hj, k _ rfl⟩
theorem op_mulWL : OpR X (binaryOp .Mult) (fun x y H Q => ∃ i j : Int, x = .int i ∧ y = .int j ∧ CMulW i j ∧ ∀ r : Int, r = i * j → Q (.int r) H) := by
  intro pins s σ H x y v u Q I rx ry h
  obtain ⟨i, j, hx, hy, hj, k⟩ := h
  exact op_mulW pins s σ H x y v u Q I rx ry ⟨i, j, hx, hy, hj, k _ rfl⟩
theorem call_min2L (hc : X.calm = true) : CallR X (.builtin "min") (fun xs H Q => ∃ i j : Int, xs = [.int i, .int j] ∧ ∀ r : Int, r = min i j → Q (.int r) H) := by
  intro pins s σ H xs us Q I r h
  obtain ⟨i, j, hx, k⟩ := h
  exact call_min2 hc pins s σ H xs us Q I r ⟨i, j, hx, k _ (by split <;> omega)⟩
theorem call_max2L (hc : X.calm = true) : CallR X (.builtin "max") (fun xs H Q => ∃ i j : Int, xs = [.int i, .int j] ∧ ∀ r : Int, r = max i j → Q (.int r) H) := by
  intro pins s σ H xs us Q I r h
  obtain ⟨i, j, hx, k⟩ := h
  exact call_max2 hc pins s σ H xs us Q I r ⟨i, j, hx, k _ (by split <;> omega)⟩
end
section
variable {P : Program} {w : World} {K : PySem.W.Frag} {mg : Str → Option Value} {base : Heap}
abbrev sNumber : Stmt := top 26
theorem scNumber : FnScope ["_law_source_here", "_law_shape", "_law_size", "_law_k"] ["_law_source_here"] (defScope sNumber) := ⟨rfl, rfl, rfl, by decide +kernel, rfl, by decide +kernel, by decide +kernel⟩
def spNumber : Sp := fun vs H Q _ => ∃ (a c : Addr), vs = [.ref a] ∧ Src H a c ∧ ∀ (n : Int) H', n.natAbs < 2 ^ 200 → Kp a H H' → Src H' a c → Q (.int n) H'
theorem p15 : (10 : Int) ^ (15 : Int).toNat = 1000000000000000 := by decide
theorem ok_number (D : Df K mg "_law_number" sNumber ["_law_source_here"]) (D7 : Df K mg "_law_take" sTake ["_law_source_here", "_law_many"]) (G : FnOk P w K mg base CX0 2 D7.f D7.fd ["_law_source_here", "_law_many"] spTake)
    (mr : mg "range" = none) : FnOk P w K mg base CX0 3 D.f D.fd ["_law_source_here"] spNumber := by
  refine D.fn.ok scNumber (fun vs H Q E h => ?_) (fun cdv A outer s H vs Q E hr h => ?_)
  · obtain ⟨a, c, rfl, _⟩ := h
    rfl
  · obtain ⟨a, c, rfl, sr, k⟩ := h
    refine ⟨_, (pss_cons (ps_set (i := 1) scNumber.nd rfl (.inl rfl) (pe_call G hr (by rfl) D7.mgf D7.fn.kp D7.bd .nil pass0 (pa_cons (pv 0) (pa_cons pe_int pa_nil))))
      (pss_cons (ps_if (pt_cmpR op_lt (pv 1) pe_int (nomark _))
      (pss_one (ps_ret (pe_op op_subL (pe_call G hr (by rfl) D7.mgf D7.fn.kp D7.bd .nil pass0 (pa_cons (pv 0) (pa_cons pe_int pa_nil))) pe_int)))
      pss_nil)
      (pss_cons (ps_if (pt_cmpR op_lt (pv 1) pe_int (nomark _))
      (pss_one (ps_ret (pe_op op_subL (pe_call G hr (by rfl) D7.mgf D7.fn.kp D7.bd .nil pass0 (pa_cons (pv 0) (pa_cons pe_int pa_nil))) pe_int)))
      pss_nil)
      (pss_cons (ps_set (i := 2) scNumber.nd rfl (.inl rfl) pe_int)
      (pss_cons (ps_for PassesOwn.never rfl (pi_range1 rfl mr (pa_cons pe_int pa_nil)) (pg_name (i := 3) scNumber.nd rfl (Or.inl rfl))
      (pss_one (ps_set (i := 2) scNumber.nd rfl (.inl rfl) (pe_op op_addL (pe_op op_mulWL (pv 2) (pe_op op_powL pe_int pe_int)) (pe_call G hr (by rfl) D7.mgf D7.fn.kp D7.bd .nil pass0 (pa_cons (pv 0) (pa_cons (pe_op op_powL pe_int pe_int) pa_nil)))))))
      (pss_one (ps_ret (pe_op op_mulWL (pv 2) (pe_op op_subL pe_int (pe_op op_mulL pe_int (pe_call G hr (by rfl) D7.mgf D7.fn.kp D7.bd .nil pass0 (pa_cons (pv 0) (pa_cons pe_int pa_nil))))))))))))), ?_⟩
    refine ⟨_, rfl, a, c, 8, rfl, sr, by decide, by decide, fun sh H1 _ _ kp1 sr1 => ⟨_, rfl, _, _, rfl, rfl, _, rfl, ite2 (fun _ => ?_) (fun _ => ⟨_, rfl, _, _, rfl, rfl, _, rfl, ite2 (fun _ => ?_) (fun _ => ?_)⟩)⟩⟩
    · exact ⟨_, rfl, a, c, 19, rfl, sr1, by decide, by decide, fun d H3 d0 d1 kp3 sr3 => ⟨_, _, rfl, rfl, fun r er => k r H3 (by omega) (kp1.trans kp3) sr3⟩⟩
    · exact ⟨_, rfl, a, c, 2000003, rfl, sr1, by decide, by decide, fun d H3 d0 d1 kp3 sr3 => ⟨_, _, rfl, rfl, fun r er => k r H3 (by omega) (kp1.trans kp3) sr3⟩⟩
    refine ⟨4, rfl, by decide, by decide, for_range (lo := 0) (n := 4) (fun i σ H2 => ∃ (n : Int) (x : Option V), σ = [some (.ref a), some (.int sh), some (.int n), x] ∧ 0 ≤ n ∧ n < 1000000000000000 ^ i ∧ Kp a H H2 ∧ Src H2 a c) ⟨0, none, rfl, by decide, by decide, kp1, sr1⟩ ?_ ?_⟩
    · rintro i σ H2 hi ⟨n, x, rfl, n0, n1, kp, sr⟩
      have nb : n.natAbs < 2 ^ 200 := by
        have h4 : i = 0 ∨ i = 1 ∨ i = 2 ∨ i = 3 := by omega
        rcases h4 with rfl | rfl | rfl | rfl <;> omega
      refine ⟨_, rfl, 10, 15, rfl, rfl, ⟨by decide, by decide, by decide⟩, fun b eb => ?_⟩
      rw [p15] at eb
      subst eb
      refine ⟨_, _, rfl, rfl, wide_mul nb (b := 200) (by decide) (by decide) (by decide) (by decide), fun r er => ⟨_, rfl, 10, 15, rfl, rfl, ⟨by decide, by decide, by decide⟩, fun b2 eb2 => ?_⟩⟩
      rw [p15] at eb2
      subst eb2
      refine ⟨a, c, 1000000000000000, rfl, sr, by decide, by decide, fun d H3 d0 d1 kp3 sr3 => ⟨_, _, rfl, rfl, fun r2 er2 => ⟨r2, _, rfl, by omega, ?_, kp.trans kp3, sr3⟩⟩⟩
      rw [Int.pow_succ]
      generalize (1000000000000000 : Int) ^ i = z at n1
      omega
    · rintro σ H2 ⟨n, x, rfl, n0, n1, kp, sr⟩
      have h2 : (1000000000000000 : Int) ^ 4 = 1000000000000000000000000000000000000000000000000000000000000 := by decide
      rw [h2] at n1
      refine ⟨_, rfl, _, rfl, a, c, 2, rfl, sr, by decide, by decide, fun d H3 d0 d1 kp3 sr3 => ⟨2, d, rfl, rfl, .inl ⟨by decide, by decide⟩, fun r er => ⟨_, _, rfl, rfl, fun r2 er2 => ⟨_, _, rfl, rfl, wide_mul (a := 200) (b := 200) (by omega) (by omega) (by decide) (by decide) (by decide), fun r3 er3 => ?_⟩⟩⟩⟩
      have hz : r2 = 1 ∨ r2 = -1 := by omega
      refine k r3 H3 ?_ (kp.trans kp3) sr3
      rcases hz with z | z
      · subst z
        omega
      · subst z
        omega
abbrev sEnds : Stmt := top 27
theorem scEnds : FnScope ["_law_source_here", "_law_one_here", "_law_two"] ["_law_source_here"] (defScope sEnds) := ⟨rfl, rfl, rfl, by decide +kernel, rfl, by decide +kernel, by decide +kernel⟩
/-- two ends stand at t -/
def EndsAt (H : Hp) (t : Addr) (lo hi : Int) : Prop := H t = some (.tup [.int lo, .int hi]) ∧ lo ≤ hi ∧ lo.natAbs < 2 ^ 201 ∧ hi.natAbs < 2 ^ 201
def spEnds : Sp := fun vs H Q _ => ∃ (a c : Addr), vs = [.ref a] ∧ Src H a c ∧ ∀ (lo hi : Int) (t : Addr) H', EndsAt H' t lo hi → Kp a H H' → Src H' a c → t ≠ a → Q (.ref t) H'
theorem ok_ends (D : Df K mg "_law_ends" sEnds ["_law_source_here"]) (D7 : Df K mg "_law_take" sTake ["_law_source_here", "_law_many"]) (G : FnOk P w K mg base CX0 2 D7.f D7.fd ["_law_source_here", "_law_many"] spTake)
    (DN : Df K mg "_law_number" sNumber ["_law_source_here"]) (GN : FnOk P w K mg base CX0 3 DN.f DN.fd ["_law_source_here"] spNumber) (mi : mg "int" = none) (mmn : mg "min" = none) (mmx : mg "max" = none) : FnOk P w K mg base CX0 4 D.f D.fd ["_law_source_here"] spEnds := by
  refine D.fn.ok scEnds (fun vs H Q E h => ?_) (fun cdv A outer s H vs Q E hr h => ?_)
  · obtain ⟨a, c, rfl, _⟩ := h
    rfl
  · obtain ⟨a, c, rfl, sr, k⟩ := h
    refine ⟨_, (pss_cons (ps_set (i := 1) scEnds.nd rfl (.inl rfl) (pe_call GN hr (by rfl) DN.mgf DN.fn.kp DN.bd .nil pass0 (pa_cons (pv 0) pa_nil)))
      (pss_cons (ps_set (i := 2) scEnds.nd rfl (.inl rfl) (pv 1))
      (C8.pss_cut (ps_if (pt_cmpR op_gt (pe_call G (hr.mono (by decide)) (by rfl) D7.mgf D7.fn.kp D7.bd .nil pass0 (pa_cons (pv 0) (pa_cons pe_int pa_nil))) pe_int (nomark _))
      (pss_one (ps_set (i := 2) scEnds.nd rfl (.inl rfl) (pe_call GN hr (by rfl) DN.mgf DN.fn.kp DN.bd .nil pass0 (pa_cons (pv 0) pa_nil))))
      pss_nil)
      (pss_one (ps_ret (pe_tup (pa_cons (pe_callB (call_min2L rfl) (by rfl) mmn (by decide +kernel) (pa_cons (pe_callTy call_int1L (by rfl) mi (by decide +kernel) (pa_cons (pv 1) pa_nil)) (pa_cons (pe_callTy call_int1L (by rfl) mi (by decide +kernel) (pa_cons (pv 2) pa_nil)) pa_nil))) (pa_cons (pe_callB (call_max2L rfl) (by rfl) mmx (by decide +kernel) (pa_cons (pe_callTy call_int1L (by rfl) mi (by decide +kernel) (pa_cons (pv 1) pa_nil)) (pa_cons (pe_callTy call_int1L (by rfl) mi (by decide +kernel) (pa_cons (pv 2) pa_nil)) pa_nil))) pa_nil)))))))), ?_⟩
    refine ⟨_, rfl, a, c, rfl, sr, fun x H1 hx kp1 sr1 => ⟨_, rfl, ?_⟩⟩
    refine ⟨fun σ' H' => ∃ y : Int, σ' = [some (.ref a), some (.int x), some (.int y)] ∧ y.natAbs < 2 ^ 200 ∧ Kp a H H' ∧ Src H' a c, ?_, ?_⟩
    · refine ⟨_, rfl, a, c, 3, rfl, sr1, by decide, by decide, fun t H2 _ _ kp2 sr2 => ⟨_, _, rfl, rfl, _, rfl, ite2 (fun _ => ?_) (fun _ => ?_)⟩⟩
      · exact ⟨_, rfl, a, c, rfl, sr2, fun y H3 hy kp3 sr3 => ⟨y, rfl, hy, (kp1.trans kp2).trans kp3, sr3⟩⟩
      · exact ⟨x, rfl, hx, kp1.trans kp2, sr2⟩
    · rintro σ' H2 ⟨y, rfl, hy, kp, sr2⟩
      obtain ⟨_, _, _, hs2, _⟩ := id sr2
      refine ⟨_, rfl, x, rfl, _, rfl, y, rfl, x, y, rfl, fun lo elo => ⟨_, rfl, x, rfl, _, rfl, y, rfl, x, y, rfl, fun hi ehi => ⟨(by show 2 ≤ sizeLine; decide), fun t nt => ?_⟩⟩⟩
      refine k lo hi t _ ⟨upd_same, by omega, by omega, by omega⟩ (kp.trans (Kp.same (same_upd nt))) (sr2.of_same (same_upd nt)) (ne_of_none hs2 nt).symm
abbrev sOther : Stmt := top 28
theorem scOther : FnScope ["_law_source_here", "_law_ends_here", "_law_shape"] ["_law_source_here", "_law_ends_here"] (defScope sOther) := ⟨rfl, rfl, rfl, by decide +kernel, rfl, by decide +kernel, by decide +kernel⟩
def spOther : Sp := fun vs H Q _ => ∃ (a c t : Addr) (l h : Int), vs = [.ref a, .ref t] ∧ Src H a c ∧ EndsAt H t l h ∧ t ≠ a ∧ ∀ (lo hi : Int) (t : Addr) H', EndsAt H' t lo hi → Kp a H H' → Src H' a c → t ≠ a → Q (.ref t) H'
theorem p30 : (10 : Int) ^ (30 : Int).toNat = 1000000000000000000000000000000 := by decide
theorem ok_other (D : Df K mg "_law_other_ends" sOther ["_law_source_here", "_law_ends_here"]) (D7 : Df K mg "_law_take" sTake ["_law_source_here", "_law_many"]) (G : FnOk P w K mg base CX0 2 D7.f D7.fd ["_law_source_here", "_law_many"] spTake)
    (DE : Df K mg "_law_ends" sEnds ["_law_source_here"]) (GE : FnOk P w K mg base CX0 4 DE.f DE.fd ["_law_source_here"] spEnds) (ma : mg "abs" = none) : FnOk P w K mg base CX0 5 D.f D.fd ["_law_source_here", "_law_ends_here"] spOther := by
  refine D.fn.ok scOther (fun vs H Q E h => ?_) (fun cdv A outer s H vs Q E hr h => ?_)
  · obtain ⟨a, c, t, l, h, rfl, _⟩ := h
    rfl
  · obtain ⟨a, c, t, l, h, rfl, sr, he, hta, k⟩ := h
    refine ⟨_, (pss_cons (ps_set (i := 2) scOther.nd rfl (.inl rfl) (pe_call G (hr.mono (by decide)) (by rfl) D7.mgf D7.fn.kp D7.bd .nil pass0 (pa_cons (pv 0) (pa_cons pe_int pa_nil))))
      (pss_cons (ps_if (pt_cmpR op_eq (pv 2) pe_int (nomark _))
      (pss_one (ps_ret (pv 1)))
      pss_nil)
      (pss_cons (ps_if (PW.pt (pw_and (pt_cmpR op_eq (pv 2) pe_int (nomark _)) (pw_and1 (pt_cmpR op_lt (pe_callB call_absL (by rfl) ma (by decide +kernel) (pa_cons (pe_ix ix_tup (pv 1) pe_int (fun _ _ => rfl)) pa_nil)) (pe_op op_powL pe_int pe_int) (nomark _)))))
      (pss_one (ps_ret (pe_tup (pa_cons (pe_ix ix_tup (pv 1) pe_int (fun _ _ => rfl)) (pa_cons (pe_op op_addL (pe_ix ix_tup (pv 1) pe_int (fun _ _ => rfl)) pe_int) pa_nil)))))
      pss_nil)
      (pss_cons (ps_if (PW.pt (pw_and (pt_cmpR op_eq (pv 2) pe_int (nomark _)) (pw_and1 (pt_cmpR op_lt (pe_callB call_absL (by rfl) ma (by decide +kernel) (pa_cons (pe_ix ix_tup (pv 1) pe_int (fun _ _ => rfl)) pa_nil)) (pe_op op_powL pe_int pe_int) (nomark _)))))
      (pss_one (ps_ret (pe_tup (pa_cons (pe_op op_subL (pe_ix ix_tup (pv 1) pe_int (fun _ _ => rfl)) pe_int) (pa_cons (pe_ix ix_tup (pv 1) pe_int (fun _ _ => rfl)) pa_nil)))))
      pss_nil)
      (pss_one (ps_ret (pe_call GE hr (by rfl) DE.mgf DE.fn.kp DE.bd .nil pass0 (pa_cons (pv 0) pa_nil)))))))), ?_⟩
    refine ⟨_, rfl, a, c, 5, rfl, sr, by decide, by decide, fun sh H1 _ _ kp1 sr1 => ?_⟩
    obtain ⟨ht, hle, hl, hh⟩ := he
    have ht1 := kp1 _ _ ht hta
    obtain ⟨_, _, _, hs1, _⟩ := id sr1
    have go : ∀ lo hi : Int, lo ≤ hi → lo.natAbs < 2 ^ 201 → hi.natAbs < 2 ^ 201 → ∀ t', H1 t' = none → Q (.ref t') (upd H1 t' (.tup [.int lo, .int hi])) := fun lo hi h1 h2 h3 t' nt => k lo hi t' _ ⟨upd_same, h1, h2, h3⟩ (kp1.trans (Kp.same (same_upd nt))) (sr1.of_same (same_upd nt)) (ne_of_none hs1 nt).symm
    have last : ∃ a' c', [V.ref a] = [V.ref a'] ∧ Src H1 a' c' ∧ ∀ (lo hi : Int) (t : Addr) H', EndsAt H' t lo hi → Kp a' H1 H' → Src H' a' c' → t ≠ a' → Q (.ref t) H' := ⟨a, c, rfl, sr1, fun lo hi t' H' h1 h2 h3 h4 => k lo hi t' H' h1 (kp1.trans h2) h3 h4⟩
    refine ⟨_, rfl, rfl, _, rfl, ite2 (fun _ => ⟨_, rfl, k l h t H1 ⟨ht1, hle, hl, hh⟩ kp1 sr1 hta⟩) (fun _ => ?_)⟩
    refine ⟨_, rfl, rfl, _, rfl, ite2 (fun _ => ⟨_, rfl, t, _, 1, _, rfl, rfl, .inl (.inl ht1), rfl, h, rfl, fun r r0 rr => ⟨10, 30, rfl, rfl, ⟨by decide, by decide, by decide⟩, fun b eb => ⟨_, _, rfl, rfl, _, rfl, ite2 (fun e => ?_) (fun _ => ?_)⟩⟩⟩) (fun _ => ?_)⟩
    · rw [p30] at eb
      have e1 : r < b := of_decide_eq_true e
      exact ⟨_, rfl, t, _, 0, _, rfl, rfl, .inl (.inl ht1), rfl, _, rfl, t, _, 1, _, rfl, rfl, .inl (.inl ht1), rfl, h, 1, rfl, rfl, fun z ez => ⟨(by show 2 ≤ sizeLine; decide), go l z (by omega) hl (by omega)⟩⟩
    all_goals
      refine ⟨_, rfl, rfl, _, rfl, ite2 (fun _ => ⟨_, rfl, t, _, 0, _, rfl, rfl, .inl (.inl ht1), rfl, l, rfl, fun r r0 rr => ⟨10, 30, rfl, rfl, ⟨by decide, by decide, by decide⟩, fun b eb => ⟨_, _, rfl, rfl, _, rfl, ite2 (fun e => ?_) (fun _ => ⟨_, rfl, last⟩)⟩⟩⟩) (fun _ => ⟨_, rfl, last⟩)⟩
      rw [p30] at eb
      have e1 : r < b := of_decide_eq_true e
      exact ⟨_, rfl, t, _, 0, _, rfl, rfl, .inl (.inl ht1), rfl, l, 1, rfl, rfl, fun z ez => ⟨_, rfl, t, _, 1, _, rfl, rfl, .inl (.inl ht1), rfl, (by show 2 ≤ sizeLine; decide), go z h (by omega) (by omega) hh⟩⟩
end
end DO

namespace DO
open PySem PySem.Spec PyProof.Rows L2
/-! ### operators that an own class defines -/
/-- a method of the text -/
structure Mf (K : PySem.W.Frag) (C : Addr) (x qual : Str) (st : Stmt) (ps : List Str) where
  f : Addr
  fd : FuncData
  me : Meth K C x f
  fn : Fun K x qual st f fd
  bd : Binds K fd ps []
theorem fnIn_of {K : PySem.W.Frag} {x qual : Str} {st : Stmt} {f : Addr} {fd : FuncData} (F : Fun K x qual st f fd) : PySem.W.fnIn K f = true := by
  obtain ⟨oc, od, kV, doc, pm, an, cdv, ct, osl, e, lk, _⟩ := F.ex
  unfold PySem.W.fnIn
  rw [lk]
section
variable {X : Cx} {CX : CXT} {k : Nat} {C f : Addr} {fd : FuncData} {ps : List Str} {sp : Sp} {E : XK} {pins : List (Addr × Obj)} {σ : L2.St} {H : Hp} {s : Shared}
theorem inst_of {a dx : Addr} {fs : List (Str × V)} (I : L2.Inv X pins σ H s) (ha : H a = some (.ins C dx fs)) : ∃ ox od, PySem.W.InstAt s.heap a ox C (some od) := by
  obtain ⟨mA, J, _⟩ := ins_get I.hok ha
  obtain ⟨od, J, _⟩ := J.look
  exact ⟨_, od, J⟩
theorem run_in1 {Q : VK} {us : List Value} {vs : List V} (F : FnOk X.prog X.w X.K X.mg X.base CX k f fd ps sp) (hr : Room k X.A.in1) (hb : Binds X.K fd ps []) (hx : Passes CX X E)
    (I : L2.Inv X pins σ H s) (r : Vals vs us) (h : sp vs H Q E) : wpAny (model X.prog X.w) X.A.in1 (call (.ref f) us) (EP X pins σ Q) X.xe s := by
  have hl := F.len _ _ _ _ h
  rw [r.length] at hl
  refine wpAny_call (codeAny_mono (F.run X.A.in1 X.stack s H ⟨us, []⟩ us vs Q E hr I.env0.in1 (by
    have z := hb s us I.kIn (by rw [List.append_nil]; exact hl)
    rw [List.append_nil] at z
    exact z) r h) fun r s' hq => ?_)
  cases r with
  | error e => exact hx pins σ H s e s' I hq
  | ok fl =>
    cases fl with
    | ret u => exact I.after hq
    | next => exact False.elim hq
    | brk => exact False.elim hq
    | cont => exact False.elim hq
/-- x in o -/
def rInO (C : Addr) (sp : Sp) (E : XK) : R2 := fun x y H Q => ∃ a dx fs, y = .ref a ∧ H a = some (.ins C dx fs) ∧ sp [y, x] H (fun v H' => ∃ b : Bool, v = .bl b ∧ Q (.bl b) H') E
theorem op_inO (M : Meth X.K C "__contains__" f) (F : FnOk X.prog X.w X.K X.mg X.base CX k f fd ps sp) (hr : Room k X.A) (hb : Binds X.K fd ps []) (hx : Passes CX X E) : OpR X (compareOp .In) (rInO C sp E) := by
  intro pins s σ H x y v u Q I rx ry h
  obtain ⟨a, dx, fs, rfl, ha, q⟩ := h
  obtain rfl : u = Value.ref a := ry
  obtain ⟨ox, od, J⟩ := inst_of I ha
  obtain ⟨m, hF⟩ := I.fr
  refine PySem.W.in_K hF I.ok.mod.kin J M.at_ M.fn (wpAny_mono (run_fn (us := [.ref a, v]) (vs := [.ref a, x]) F hr hb .nil hx I (.cons rfl (.cons rx .nil)) q) (fun r s' z => ?_) fun _ _ x => x)
  obtain ⟨v', H', I', rz, b, rfl, q'⟩ := z
  cases rz
  exact wpAny_truthy_bool ⟨.bl b, H', I', rfl, q'⟩
/-- o[i] -/
def rSubO (C : Addr) (sp : Sp) (E : XK) : R2 := fun x y H Q => ∃ a dx fs, x = .ref a ∧ H a = some (.ins C dx fs) ∧ sp [x, y] H Q E
theorem pe_subO {a b : Expr} {ta tb : TE} {pos : Pos} {qual : Str} {st : Stmt} (M : Meth X.K C "__getitem__" f) (Fn : Fun X.K "__getitem__" qual st f fd) (F : FnOk X.prog X.w X.K X.mg X.base CX k f fd ps sp) (hr : Room (k + 1) X.A) (hb : Binds X.K fd ps []) (hx : Passes CX X E)
    (ha : PE X a ta) (hb' : PE X b tb) (hs : ∀ o i, subscripted b true o i = runValue (.builtin "lifetime.subscript" ⟨[o, i], []⟩) := by intro _ _; rfl) : PE X (.Subscript a b pos) (tOp (rSubO C sp E) ta tb) := by
  refine ⟨fun pins s σ H Q I h => ?_⟩
  refine Subscript_ (binT ha hb' I h fun v u s2 x y H2 I2 rx ry q => ?_)
  obtain ⟨p, dx, fs, rfl, hp, q⟩ := q
  obtain rfl : v = Value.ref p := rx
  obtain ⟨ox, od, J⟩ := inst_of I2 hp
  obtain ⟨m, hF⟩ := I2.fr
  exact PySem.W.sub_K hF I2.ok.mod.kin J M.at_ (fnIn_of Fn) M.fn (run_in1 (us := [.ref p, u]) (vs := [.ref p, y]) F hr.in1 hb hx I2 (.cons rfl (.cons ry .nil)) q) (hs _ _)
/-- o + o' and its like, both of the class -/
def rBinO (C : Addr) (sp : Sp) (E : XK) : R2 := fun x y H Q => ∃ a dx fs b dy gs, x = .ref a ∧ y = .ref b ∧ H a = some (.ins C dx fs) ∧ H b = some (.ins C dy gs) ∧ sp [x, y] H Q E
theorem op_binO {op : Operator} {nm : Str} (hn : PySem.dunder op.info.2 = nm) (M : Meth X.K C nm f) (hc : PySem.W.selfFirst X.K C = true) (F : FnOk X.prog X.w X.K X.mg X.base CX k f fd ps sp) (hr : Room k X.A) (hb : Binds X.K fd ps []) (hx : Passes CX X E) : OpR X (binaryOp op) (rBinO C sp E) := by
  intro pins s σ H x y v u Q I rx ry h
  obtain ⟨a, dx, fs, b, dy, gs, rfl, rfl, ha, hb', q⟩ := h
  obtain rfl : v = Value.ref a := rx
  obtain rfl : u = Value.ref b := ry
  obtain ⟨ox, od, J⟩ := inst_of I ha
  obtain ⟨oy, od', J'⟩ := inst_of I hb'
  obtain ⟨m, hF⟩ := I.fr
  subst hn
  refine PySem.W.binop_K hF I.ok.mod.kin J J'.type hc M.at_ M.fn (wpAny_mono (run_fn (us := [.ref a, .ref b]) (vs := [.ref a, .ref b]) F hr hb .nil hx I (.cons rfl (.cons rfl .nil)) q) (fun r s' z => ?_) fun _ _ x => x)
  obtain ⟨v', H', I', rz, q'⟩ := z
  exact SlX.cmpback rz ⟨v', H', I', rz, q'⟩
/-- o * n -/
def rBinI (C : Addr) (sp : Sp) (E : XK) : R2 := fun x y H Q => ∃ a dx fs, ∃ n : Int, x = .ref a ∧ y = .int n ∧ H a = some (.ins C dx fs) ∧ sp [x, y] H Q E
theorem op_binI {op : Operator} {nm nr : Str} {fo ro rc : Option Value} (hn : PySem.dunder op.info.2 = nm) (hn' : dunderR op.info.2 = nr) (M : Meth X.K C nm f) (hc : PySem.W.selfFirst X.K C = true)
    (hrr : PySem.W.findIn X.K (.ref C) nr = some rc) (hp : rc = none ∨ ∃ g : Addr, rc = some (.ref g)) (h1 : PySem.W.findIn X.K (.type "int") nm = some fo) (h2 : PySem.W.findIn X.K (.type "int") nr = some ro) (hsub : PySem.W.subIn X.K (.type "int") (.ref C) = some false)
    (F : FnOk X.prog X.w X.K X.mg X.base CX k f fd ps sp) (hr : Room k X.A) (hb : Binds X.K fd ps []) (hx : Passes CX X E) : OpR X (binaryOp op) (rBinI C sp E) := by
  intro pins s σ H x y v u Q I rx ry h
  obtain ⟨a, dx, fs, n, rfl, rfl, ha, q⟩ := h
  obtain rfl : v = Value.ref a := rx
  obtain ⟨t, rfl⟩ := ry
  obtain ⟨ox, od, J⟩ := inst_of I ha
  obtain ⟨m, hF⟩ := I.fr
  subst hn
  subst hn'
  refine PySem.W.ksp_binT hF I.ok.mod.kin J (T := "int") rfl hc M.at_ M.fn hrr hp h1 h2 hsub (wpAny_mono (run_fn (us := [.ref a, .int n t]) (vs := [.ref a, .int n]) F hr hb .nil hx I (.cons rfl (.cons ⟨t, rfl⟩ .nil)) q) (fun r s' z => ?_) fun _ _ x => x)
  obtain ⟨v', H', I', rz, q'⟩ := z
  exact SlX.cmpback rz ⟨v', H', I', rz, q'⟩
/-- o == y: y an instance of the class, or of a built-in type that is told -/
inductive TyB (H : Hp) : V → String → Prop where
  | non : TyB H .non "NoneType"
  | int (i : Int) : TyB H (.int i) "int"
  | str (x : Str) : TyB H (.str x) "str"
  | lst {a : Addr} {xs : List V} (e : H a = some (.lst xs)) : TyB H (.ref a) "list"
  | dK {a : Addr} {kvs : List (Key × V)} (e : H a = some (.dK kvs)) : TyB H (.ref a) "dict"
theorem tyB_looks {x : V} {u : Value} {T : String} (I : L2.Inv X pins σ H s) (rx : RelV x u) (h : TyB H x T) : s.TypeIs u T := by
  cases h with
  | non => cases rx; exact rfl
  | int i => obtain ⟨t, rfl⟩ := rx; exact rfl
  | str x => obtain ⟨t, rfl⟩ := rx; exact rfl
  | lst e =>
    cases rx
    obtain ⟨_, its, n, _, e'⟩ := I.hok _ _ e
    exact ⟨_, e', rfl⟩
  | dK e =>
    cases rx
    obtain ⟨_, _, vs, _, o, es, ep, e', c, _⟩ := I.hok _ _ e
    exact ⟨o, e', c.1⟩
end
end DO

namespace DO
open PySem PySem.Spec PyProof.Rows L2
/-! ### a measure in a form: its name, its multiple, its ends -/
structure Tm where
  nm : Str
  k : Int
  lo : Int
  hi : Int
  deriving DecidableEq
def getT (M : List Tm) (w : Str) : Option Tm := M.find? fun x => decide (x.nm = w)
def putT (M : List Tm) (x : Tm) : List Tm := if (M.any fun y => decide (y.nm = x.nm)) = true then M.map (fun y => if y.nm = x.nm then x else y) else M ++ [x]
def nms (M : List Tm) : List Str := M.map (·.nm)
theorem getT_nm {M : List Tm} {w : Str} {x : Tm} (h : getT M w = some x) : x.nm = w := by
  unfold getT at h
  have h2 := List.find?_some h
  exact of_decide_eq_true h2
theorem getT_in {M : List Tm} {w : Str} {x : Tm} (h : getT M w = some x) : x ∈ M := List.mem_of_find?_eq_some h
theorem getT_none {M : List Tm} {w : Str} : getT M w = none ↔ w ∉ nms M := by
  unfold getT nms
  rw [List.find?_eq_none]
  constructor
  · intro h hm
    obtain ⟨x, hx, e⟩ := List.mem_map.mp hm
    exact h x hx (decide_eq_true e)
  · intro h x hx e
    exact h (List.mem_map.mpr ⟨x, hx, of_decide_eq_true e⟩)
theorem getT_mem : ∀ {M : List Tm} {x : Tm}, (nms M).Nodup → x ∈ M → getT M x.nm = some x
  | [], x, _, h => by simp at h
  | y :: r, x, hn, h => by
    obtain ⟨h1, h2⟩ := List.nodup_cons.mp (show (y.nm :: nms r).Nodup from hn)
    unfold getT
    rw [List.find?_cons]
    rcases List.mem_cons.mp h with z | z
    · subst z
      simp
    · have e : ¬ y.nm = x.nm := fun q => h1 (q ▸ List.mem_map.mpr ⟨x, z, rfl⟩)
      rw [decide_eq_false e]
      exact getT_mem h2 z
theorem anyT {M : List Tm} {w : Str} : (M.any fun y => decide (y.nm = w)) = true ↔ w ∈ nms M := by
  rw [List.any_eq_true]
  unfold nms
  rw [List.mem_map]
  exact ⟨fun ⟨p, h, e⟩ => ⟨p, h, of_decide_eq_true e⟩, fun ⟨p, h, e⟩ => ⟨p, h, decide_eq_true e⟩⟩
theorem putT_nms {M : List Tm} {x : Tm} : nms (putT M x) = if x.nm ∈ nms M then nms M else nms M ++ [x.nm] := by
  unfold putT
  by_cases h : x.nm ∈ nms M
  · rw [if_pos (anyT.mpr h), if_pos h]
    unfold nms
    rw [List.map_map]
    apply List.map_congr_left
    intro p _
    show (if p.nm = x.nm then x else p).nm = p.nm
    split
    · exact (by assumption : p.nm = x.nm).symm
    · rfl
  · rw [if_neg (fun z => h (anyT.mp z)), if_neg h]
    unfold nms
    rw [List.map_append]
    rfl
theorem nd_snocS {l : List Str} {x : Str} (h : l.Nodup) (hx : x ∉ l) : (l ++ [x]).Nodup := by
  rw [List.nodup_append]
  refine ⟨h, by simp, fun a ha b hb => ?_⟩
  rw [List.mem_singleton.mp hb]
  intro e
  exact hx (e ▸ ha)
theorem putT_nd {M : List Tm} {x : Tm} (h : (nms M).Nodup) : (nms (putT M x)).Nodup := by
  rw [putT_nms]
  split
  · exact h
  · exact nd_snocS h (by assumption)
theorem putT_len {M : List Tm} {x : Tm} : (putT M x).length ≤ M.length + 1 := by
  unfold putT
  split
  · rw [List.length_map]
    omega
  · rw [List.length_append]
    exact Nat.le_refl _
theorem putT_mem {M : List Tm} {x y : Tm} (h : y ∈ putT M x) : y ∈ M ∨ y = x := by
  unfold putT at h
  split at h
  · obtain ⟨q, hq, e⟩ := List.mem_map.mp h
    by_cases z : q.nm = x.nm
    · rw [if_pos z] at e
      exact .inr e.symm
    · rw [if_neg z] at e
      exact .inl (e ▸ hq)
  · rcases List.mem_append.mp h with z | z
    · exact .inl z
    · exact .inr (List.mem_singleton.mp z)
theorem findT_map (x : Tm) (w : Str) : ∀ M : List Tm, (M.map fun y => if y.nm = x.nm then x else y).find? (fun y => decide (y.nm = w)) = if w = x.nm then (if x.nm ∈ nms M then some x else none) else M.find? (fun y => decide (y.nm = w))
  | [] => by simp [nms]
  | y :: r => by
    have ih := findT_map x w r
    rw [List.map_cons, List.find?_cons]
    by_cases e : y.nm = x.nm
    · rw [if_pos e]
      by_cases h : w = x.nm
      · rw [if_pos h, decide_eq_true h.symm, if_pos (by show x.nm ∈ y.nm :: nms r; rw [e]; exact List.mem_cons_self)]
      · rw [if_neg h, decide_eq_false (fun z => h z.symm), ih, if_neg h, List.find?_cons, decide_eq_false (fun z => h (z.symm.trans e))]
    · rw [if_neg e]
      by_cases h : y.nm = w
      · have h2 : ¬ w = x.nm := fun z => e (h.trans z)
        rw [decide_eq_true h, if_neg h2, List.find?_cons, decide_eq_true h]
      · rw [decide_eq_false h, ih, List.find?_cons, decide_eq_false h]
        have : (x.nm ∈ nms (y :: r)) = (x.nm ∈ nms r) := by
          show (x.nm ∈ y.nm :: nms r) = _
          rw [List.mem_cons, eq_iff_iff]
          exact ⟨fun z => z.elim (fun q => absurd q.symm e) id, .inr⟩
        simp only [this]
theorem getT_put (M : List Tm) (x : Tm) (w : Str) : getT (putT M x) w = if w = x.nm then some x else getT M w := by
  unfold putT
  by_cases h : (M.any fun y => decide (y.nm = x.nm)) = true
  · rw [if_pos h]
    unfold getT
    rw [findT_map, if_pos (anyT.mp h)]
  · rw [if_neg h]
    unfold getT
    rw [List.find?_append]
    by_cases e : w = x.nm
    · rw [if_pos e]
      have : M.find? (fun y => decide (y.nm = w)) = none := by
        have h2 : w ∉ nms M := fun z => h (anyT.mpr (e ▸ z))
        exact getT_none.mpr h2
      rw [this]
      simp [e]
    · rw [if_neg e]
      have : (List.find? (fun y => decide (y.nm = w)) [x]) = none := by simp; exact fun z => e z.symm
      rw [this]
      simp
/-! ### how they lie in the heap -/
/-- the pairs of a dict: a name, a tuple of a multiple and ends -/
inductive DAll (H : Hp) : List (Key × V) → List Tm → Prop where
  | nil : DAll H [] []
  | cons {kvs : List (Key × V)} {M : List Tm} (x : Tm) (t : Addr) (h : H t = some (.tup [.int x.k, .int x.lo, .int x.hi])) (r : DAll H kvs M) : DAll H ((Sum.inr x.nm, V.ref t) :: kvs) (x :: M)
/-- the items of a tuple: tuples of a name, a multiple and ends -/
inductive TAll (H : Hp) : List V → List Tm → Prop where
  | nil : TAll H [] []
  | cons {vs : List V} {M : List Tm} (x : Tm) (t : Addr) (h : H t = some (.tup [.str x.nm, .int x.k, .int x.lo, .int x.hi])) (r : TAll H vs M) : TAll H (.ref t :: vs) (x :: M)
theorem DAll.mono {H H' : Hp} {kvs : List (Key × V)} {M : List Tm} (h : DAll H kvs M) (k : ∀ t xs, H t = some (.tup xs) → H' t = some (.tup xs)) : DAll H' kvs M := by
  induction h with
  | nil => exact .nil
  | cons x t h r ih => exact .cons x t (k _ _ h) ih
theorem TAll.mono {H H' : Hp} {vs : List V} {M : List Tm} (h : TAll H vs M) (k : ∀ t xs, H t = some (.tup xs) → H' t = some (.tup xs)) : TAll H' vs M := by
  induction h with
  | nil => exact .nil
  | cons x t h r ih => exact .cons x t (k _ _ h) ih
theorem DAll.len {H : Hp} {kvs : List (Key × V)} {M : List Tm} (h : DAll H kvs M) : kvs.length = M.length := by
  induction h with
  | nil => rfl
  | cons x t h r ih => rw [List.length_cons, List.length_cons, ih]
theorem TAll.len {H : Hp} {vs : List V} {M : List Tm} (h : TAll H vs M) : vs.length = M.length := by
  induction h with
  | nil => rfl
  | cons x t h r ih => rw [List.length_cons, List.length_cons, ih]
theorem TAll.at_ {H : Hp} {vs : List V} {M : List Tm} (h : TAll H vs M) : ∀ {i : Nat} {y : V}, vs[i]? = some y → ∃ x t, M[i]? = some x ∧ y = .ref t ∧ H t = some (.tup [.str x.nm, .int x.k, .int x.lo, .int x.hi]) := by
  induction h with
  | nil => intro i y e; simp at e
  | cons x t h r ih =>
    intro i y e
    cases i with
    | zero => exact ⟨x, t, rfl, (Option.some.inj e).symm, h⟩
    | succ j => exact ih e
theorem TAll.app {H : Hp} {vs us : List V} {M N : List Tm} (h : TAll H vs M) (g : TAll H us N) : TAll H (vs ++ us) (M ++ N) := by
  induction h with
  | nil => exact g
  | cons x t h r ih => exact .cons x t h ih
theorem DAll.get {H : Hp} {kvs : List (Key × V)} {M : List Tm} (h : DAll H kvs M) (w : Str) : (getT M w = none ∧ valV kvs (Sum.inr w : Key) = none) ∨ ∃ x t, getT M w = some x ∧ valV kvs (Sum.inr w : Key) = some (.ref t) ∧ H t = some (.tup [.int x.k, .int x.lo, .int x.hi]) := by
  induction h with
  | nil => exact .inl ⟨rfl, rfl⟩
  | cons x t h r ih =>
    by_cases e : x.nm = w
    · refine .inr ⟨x, t, ?_, valV_pos (congrArg Sum.inr e), h⟩
      unfold getT
      rw [List.find?_cons, decide_eq_true e]
    · have e2 : ¬ ((Sum.inr x.nm : Key) = Sum.inr w) := fun z => e (Sum.inr.inj z)
      unfold getT at ih ⊢
      rw [List.find?_cons, decide_eq_false e, valV_neg e2]
      exact ih
theorem DAll.any {H : Hp} {kvs : List (Key × V)} {M : List Tm} (h : DAll H kvs M) (w : Str) : (kvs.any fun kv => decide (kv.1 = (Sum.inr w : Key))) = M.any fun y => decide (y.nm = w) := by
  induction h with
  | nil => rfl
  | cons x t h r ih =>
    rw [List.any_cons, List.any_cons, ih]
    congr 1
    by_cases e : x.nm = w
    · rw [decide_eq_true e, decide_eq_true (congrArg Sum.inr e)]
    · rw [decide_eq_false e, decide_eq_false (fun z => e (Sum.inr.inj z))]
theorem DAll.app {H : Hp} {kvs lvs : List (Key × V)} {M N : List Tm} (h : DAll H kvs M) (g : DAll H lvs N) : DAll H (kvs ++ lvs) (M ++ N) := by
  induction h with
  | nil => exact g
  | cons x t h r ih => exact .cons x t h ih
theorem DAll.over {H : Hp} {kvs : List (Key × V)} {M : List Tm} (h : DAll H kvs M) {x : Tm} {t : Addr} (ht : H t = some (.tup [.int x.k, .int x.lo, .int x.hi])) :
    DAll H (kvs.map fun kv => if kv.1 = (Sum.inr x.nm : Key) then (kv.1, V.ref t) else kv) (M.map fun y => if y.nm = x.nm then x else y) := by
  induction h with
  | nil => exact .nil
  | cons y q hq r ih =>
    rw [List.map_cons, List.map_cons]
    by_cases e : y.nm = x.nm
    · have e2 : ((Sum.inr y.nm : Key) = Sum.inr x.nm) := congrArg Sum.inr e
      rw [if_pos e]
      show DAll H ((if (Sum.inr y.nm : Key) = Sum.inr x.nm then ((Sum.inr y.nm : Key), V.ref t) else _) :: _) _
      rw [if_pos e2, e]
      exact .cons x t ht ih
    · have e2 : ¬ ((Sum.inr y.nm : Key) = Sum.inr x.nm) := fun z => e (Sum.inr.inj z)
      rw [if_neg e]
      show DAll H ((if (Sum.inr y.nm : Key) = Sum.inr x.nm then ((Sum.inr y.nm : Key), V.ref t) else _) :: _) _
      rw [if_neg e2]
      exact .cons y q hq ih
theorem DAll.put {H : Hp} {kvs : List (Key × V)} {M : List Tm} (h : DAll H kvs M) {x : Tm} {t : Addr} (ht : H t = some (.tup [.int x.k, .int x.lo, .int x.hi])) : DAll H (putK kvs (Sum.inr x.nm) (.ref t)) (putT M x) := by
  unfold putK putT
  rw [h.any]
  split
  · exact h.over ht
  · exact h.app (.cons x t ht .nil)
theorem DAll.at_ {H : Hp} {kvs : List (Key × V)} {M : List Tm} (h : DAll H kvs M) : ∀ {i : Nat} {kk : Key} {vv : V}, kvs[i]? = some (kk, vv) → ∃ x t, M[i]? = some x ∧ kk = Sum.inr x.nm ∧ vv = .ref t ∧ H t = some (.tup [.int x.k, .int x.lo, .int x.hi]) := by
  induction h with
  | nil => intro i kk vv e; simp at e
  | cons x t h r ih =>
    intro i kk vv e
    cases i with
    | zero =>
      have e2 := Option.some.inj e
      exact ⟨x, t, rfl, (congrArg Prod.fst e2).symm, (congrArg Prod.snd e2).symm, h⟩
    | succ j => exact ih e
/-- a law's dict at d -/
structure DictAt (H : Hp) (d : Addr) (M : List Tm) : Prop where
  dk : ∃ kvs, H d = some (.dK kvs) ∧ DAll H kvs M
  nd : (nms M).Nodup
  sz : M.length ≤ 100
/-- a law's model at m: a number, a dict, a kind -/
def ModelAt (H : Hp) (m : Addr) (n : Int) (M : List Tm) (kind : Option Str) : Prop := ∃ d xs, H m = some (.tup xs) ∧ atI xs 0 = some (.int n) ∧ atI xs 1 = some (.ref d) ∧ (∀ s, kind = some s → atI xs 2 = some (.str s)) ∧ DictAt H d M
/-- what stands is kept, but what stands at a, a list -/
theorem tup_kp {a : Addr} {H H' : Hp} {xs : List V} (k : Kp a H H') (ha : H a = some (.lst xs)) : ∀ t ys, H t = some (.tup ys) → H' t = some (.tup ys) := fun t ys h => k _ _ h (ne_of h ha fun z => nomatch z)
theorem DictAt.keep {H H' : Hp} {d : Addr} {M : List Tm} (h : DictAt H d M) (k : Same H H') : DictAt H' d M := by
  obtain ⟨⟨kvs, e, r⟩, nd, sz⟩ := h
  exact ⟨⟨kvs, k _ _ e, r.mono fun t xs z => k _ _ z⟩, nd, sz⟩
theorem DictAt.kp {a : Addr} {H H' : Hp} {d : Addr} {M : List Tm} {xs : List V} (h : DictAt H d M) (k : Kp a H H') (ha : H a = some (.lst xs)) : DictAt H' d M := by
  obtain ⟨⟨kvs, e, r⟩, nd, sz⟩ := h
  exact ⟨⟨kvs, k _ _ e (ne_of e ha fun z => nomatch z), r.mono (tup_kp k ha)⟩, nd, sz⟩
theorem ModelAt.keep {H H' : Hp} {m : Addr} {n : Int} {M : List Tm} {kd : Option Str} (h : ModelAt H m n M kd) (k : Same H H') : ModelAt H' m n M kd := by
  obtain ⟨d, xs, e, a0, a1, a2, r⟩ := h
  exact ⟨d, xs, k _ _ e, a0, a1, a2, r.keep k⟩
theorem ModelAt.kp {a : Addr} {H H' : Hp} {m : Addr} {n : Int} {M : List Tm} {kd : Option Str} {xs : List V} (h : ModelAt H m n M kd) (k : Kp a H H') (ha : H a = some (.lst xs)) : ModelAt H' m n M kd := by
  obtain ⟨d, xs, e, a0, a1, a2, r⟩ := h
  exact ⟨d, xs, tup_kp k ha _ _ e, a0, a1, a2, r.kp k ha⟩
theorem ModelAt.any {H : Hp} {m : Addr} {n : Int} {M : List Tm} {kd : Option Str} (h : ModelAt H m n M kd) : ModelAt H m n M none := by
  obtain ⟨d, xs, e, a0, a1, a2, r⟩ := h
  exact ⟨d, xs, e, a0, a1, fun s z => (by cases z), r⟩
end DO

namespace DO
open PySem PySem.Spec PyProof.Rows L2
section
variable {P : Program} {w : World} {K : PySem.W.Frag} {mg : Str → Option Value} {base : Heap}
/-! ### sorted of texts, any number of them -/
def leT (a b : Str) : Bool := decide (a.cps.toList ≤ b.cps.toList)
def rSortedT (K : PySem.W.Frag) : List V → Hp → VK → Prop := fun vs H Q => ∃ (a : Addr) (xs : List Str), vs = [V.ref a] ∧ SqL K H a (xs.map V.str) ∧ ∀ p : Addr, H p = none → Q (.ref p) (upd H p (.lst ((xs.mergeSort leT).map V.str)))
theorem each_of : ∀ {xs : List Str} {us : List Value}, Vals (xs.map V.str) us → PySem.W.EachIs (fun v x => ∃ t, v = Value.str x t) us xs
  | [], _, .nil => .nil
  | x :: xs, _, .cons r rs => .cons r (each_of rs)
theorem of_each : ∀ {xs : List Str} {us : List Value}, PySem.W.EachIs (fun v x => ∃ t, v = Value.str x t) us xs → Vals (xs.map V.str) us
  | _, _, .nil => .nil
  | _, _, .cons r rs => .cons r (of_each rs)
theorem cr_sortedT {X : Cx} (hu : X.A.units + 2 < cLine) : CallR X (.builtin "sorted") (rSortedT X.K) := by
  intro pins s σ H vs us Q I r h
  obtain ⟨a, xs, rfl, hs, q⟩ := h
  obtain ⟨its, rv, hl, hz⟩ := I.list hs
  rw [Vals.ref1 r]
  have e := each_of rv
  have hlen : xs.length = its.length := by
    have := rv.length
    rw [List.length_map] at this
    exact this
  have hx : xs.length ≤ sizeLine := by rw [List.length_map] at hz; exact hz
  refine PySem.W.sorted_data (enc := fun x : Str => PyData.str x) (bs := xs) hl.isList e (e.mono fun v x ⟨t, ev⟩ => ⟨[], by rw [ev]; exact .str x t⟩) (PySem.W.AllAlike.of fun b b' => rfl) (PySem.W.Sortable.others fun b => ⟨(fun z => nomatch z), (fun xs z => nomatch z)⟩) hx (fun b _ => ?_) fun out h1 h2 => ?_
  · exact hu
  · have ed : PySem.W.dataLe false (fun x : Str => PyData.str x) = leT := by
      rw [PySem.W.dataLe_str (fun x : Str => x)]
      rfl
    rw [ed] at h2
    obtain ⟨ep, he'⟩ := PyProof.Rows.sortedAll_at s.heap its out.toArray
    have hl2 : ((xs.mergeSort leT).map V.str).length ≤ sizeLine := by
      rw [List.length_map, List.length_mergeSort]
      exact hx
    exact ⟨.ref _, upd H (s.heap.objs.size + 1) (.lst ((xs.mergeSort leT).map V.str)), I.laid (t' := s.toks) (fun _ _ => PyProof.Rows.sortedAll_old) (Nat.le_succ _) ⟨hl2, out, ep, of_each h2, he'⟩, rfl, q _ (I.hok.fresh (Nat.le_succ _))⟩

theorem leT_trans (a b c : Str) (h : leT a b = true) (g : leT b c = true) : leT a c = true := by
  unfold leT at *
  exact decide_eq_true (List.le_trans (of_decide_eq_true h) (of_decide_eq_true g))
theorem leT_total (a b : Str) : (leT a b || leT b a) = true := by
  unfold leT
  rcases List.le_total a.cps.toList b.cps.toList with h | h
  · rw [decide_eq_true h]
    rfl
  · rw [decide_eq_true h, Bool.or_true]
theorem leT_anti {a b : Str} (h : leT a b = true) (g : leT b a = true) : a = b := by
  unfold leT at *
  have e := List.le_antisymm (of_decide_eq_true h) (of_decide_eq_true g)
  cases a
  cases b
  exact congrArg Str.mk (Array.toList_inj.mp e)
def sortS (l : List Str) : List Str := l.mergeSort leT
theorem sortS_perm (l : List Str) : (sortS l).Perm l := List.mergeSort_perm _ _
theorem sortS_srt (l : List Str) : (sortS l).Pairwise (fun a b => leT a b = true) := List.pairwise_mergeSort leT_trans leT_total l
/-- rising strictly -/
def Up (l : List Str) : Prop := l.Pairwise fun a b => leT a b = true ∧ a ≠ b
theorem Up.nd {l : List Str} (h : Up l) : l.Nodup := h.imp fun z => z.2
theorem sortS_up {l : List Str} (h : l.Nodup) : Up (sortS l) := List.Pairwise.imp₂ (fun a b h1 h2 => ⟨h1, h2⟩) (sortS_srt l) ((sortS_perm l).nodup_iff.mpr h)
theorem up_ext : ∀ {a b : List Str}, Up a → Up b → (∀ x, x ∈ a ↔ x ∈ b) → a = b
  | [], [], _, _, _ => rfl
  | [], y :: b, _, _, h => absurd ((h y).mpr List.mem_cons_self) (by simp)
  | x :: a, [], _, _, h => absurd ((h x).mp List.mem_cons_self) (by simp)
  | x :: a, y :: b, ha, hb, h => by
    obtain ⟨ha1, ha2⟩ := List.pairwise_cons.mp ha
    obtain ⟨hb1, hb2⟩ := List.pairwise_cons.mp hb
    have e : x = y := by
      rcases List.mem_cons.mp ((h x).mp List.mem_cons_self) with z | z
      · exact z
      rcases List.mem_cons.mp ((h y).mpr List.mem_cons_self) with w | w
      · exact w.symm
      exact leT_anti (ha1 _ w).1 (hb1 _ z).1
    subst e
    rw [up_ext ha2 hb2 fun z => ⟨fun q => ?_, fun q => ?_⟩]
    · rcases List.mem_cons.mp ((h z).mp (List.mem_cons_of_mem _ q)) with w | w
      · exact absurd w.symm (ha1 _ q).2
      · exact w
    · rcases List.mem_cons.mp ((h z).mpr (List.mem_cons_of_mem _ q)) with w | w
      · exact absurd w.symm (hb1 _ q).2
      · exact w
/-! ### terms in the order of their names -/
def srt (M : List Tm) : List Tm := (sortS (nms M)).filterMap (getT M)
theorem fm_nms (M : List Tm) : ∀ l : List Str, (∀ w ∈ l, w ∈ nms M) → nms (l.filterMap (getT M)) = l
  | [], _ => rfl
  | w :: r, h => by
    have h1 := h w List.mem_cons_self
    cases e : getT M w with
    | none => exact absurd h1 (getT_none.mp e)
    | some x =>
      rw [List.filterMap_cons, e]
      show x.nm :: nms _ = _
      rw [fm_nms M r fun z hz => h z (List.mem_cons_of_mem _ hz), getT_nm e]
theorem srt_nms (M : List Tm) : nms (srt M) = sortS (nms M) := fm_nms M _ fun w hw => (sortS_perm _).mem_iff.mp hw
theorem srt_up {M : List Tm} (h : (nms M).Nodup) : Up (nms (srt M)) := by
  rw [srt_nms]
  exact sortS_up h
theorem mem_srt {M : List Tm} {x : Tm} (hn : (nms M).Nodup) : x ∈ srt M ↔ x ∈ M := by
  unfold srt
  rw [List.mem_filterMap]
  constructor
  · rintro ⟨w, _, e⟩
    exact getT_in e
  · intro h
    exact ⟨x.nm, (sortS_perm _).mem_iff.mpr (List.mem_map.mpr ⟨x, h, rfl⟩), getT_mem hn h⟩
theorem getT_ext {A B : List Tm} (hA : (nms A).Nodup) (hB : (nms B).Nodup) (h : ∀ x, x ∈ A ↔ x ∈ B) (w : Str) : getT A w = getT B w := by
  cases e : getT A w with
  | none =>
    cases f : getT B w with
    | none => rfl
    | some y =>
      have := getT_mem hA ((h y).mpr (getT_in f))
      rw [getT_nm f, e] at this
      cases this
  | some x =>
    have := getT_mem hB ((h x).mp (getT_in e))
    rw [getT_nm e] at this
    exact this.symm
theorem get_srt {M : List Tm} (hn : (nms M).Nodup) (w : Str) : getT (srt M) w = getT M w := getT_ext (srt_up hn).nd hn (fun x => mem_srt hn) w
theorem tm_ext : ∀ {A B : List Tm}, nms A = nms B → (nms A).Nodup → (∀ w, getT A w = getT B w) → A = B := by
  intro A B e hn h
  have hB : (nms B).Nodup := e ▸ hn
  have key : ∀ (A B : List Tm), nms A = nms B → (∀ x ∈ A, ∀ y ∈ B, x.nm = y.nm → x = y) → A = B := by
    intro A
    induction A with
    | nil =>
      intro B e _
      cases B with
      | nil => rfl
      | cons y r => exact absurd e (by simp [nms])
    | cons x r ih =>
      intro B e hxy
      cases B with
      | nil => exact absurd e (by simp [nms])
      | cons y s =>
        have e1 : x.nm = y.nm ∧ nms r = nms s := by simpa [nms] using e
        rw [hxy x List.mem_cons_self y List.mem_cons_self e1.1, ih s e1.2 fun a ha b hb => hxy a (List.mem_cons_of_mem _ ha) b (List.mem_cons_of_mem _ hb)]
  refine key A B e fun x hx y hy exy => ?_
  have h1 := getT_mem hn hx
  have h2 := getT_mem hB hy
  rw [h, exy, h2] at h1
  exact (Option.some.inj h1).symm
/-- two lists of terms, rising: equal where they give the same to each name -/
theorem up_tm {A B : List Tm} (hA : Up (nms A)) (hB : Up (nms B)) (h : ∀ w, getT A w = getT B w) : A = B := by
  refine tm_ext (up_ext hA hB fun w => ?_) hA.nd h
  have := h w
  constructor
  · intro q
    refine Classical.byContradiction fun z => ?_
    rw [getT_none.mpr z] at this
    exact getT_none.mp this q
  · intro q
    refine Classical.byContradiction fun z => ?_
    rw [getT_none.mpr z] at this
    exact getT_none.mp this.symm q
theorem srt_self {A : List Tm} (h : Up (nms A)) : srt A = A := up_tm (srt_up h.nd) h fun w => get_srt h.nd w
theorem srt_congr {A B : List Tm} (hA : (nms A).Nodup) (hB : (nms B).Nodup) (h : ∀ w, getT A w = getT B w) : srt A = srt B := up_tm (srt_up hA) (srt_up hB) fun w => by rw [get_srt hA, get_srt hB, h]
end
end DO

namespace DO
open PySem PySem.Spec PyProof.Rows L2
section
variable {P : Program} {w : World} {K : PySem.W.Frag} {mg : Str → Option Value} {base : Heap}
theorem sql_ofT {K : PySem.W.Frag} {H : Hp} {a : Addr} {xs : List V} (h : H a = some (.tup xs)) : SqT K H a xs := .inl (.inl h)
abbrev sIsN : Stmt := top 29
theorem scIsN : FnScope ["_law_actual"] ["_law_actual"] (defScope sIsN) := ⟨rfl, rfl, rfl, by decide +kernel, rfl, by decide +kernel, by decide +kernel⟩
def spIsN : Sp := fun vs H Q _ => ∃ n : Int, vs = [.int n] ∧ Q (.bl true) H
theorem ok_isN (D : Df K mg "_law_is_number" sIsN ["_law_actual"]) (mis : mg "isinstance" = none) (mint : mg "int" = none) (mbo : mg "bool" = none) : FnOk P w K mg base CX0 1 D.f D.fd ["_law_actual"] spIsN := by
  refine D.fn.ok scIsN (fun vs H Q E h => ?_) (fun cdv A outer s H vs Q E hr h => ?_)
  · obtain ⟨n, rfl, _⟩ := h
    rfl
  · obtain ⟨n, rfl, k⟩ := h
    refine ⟨_, (pss_one (ps_ret (pe_and (pe_callB call_isi (by rfl) mis (by decide +kernel) (pa_cons (pv 0) (pa_cons (pe_bltn (v := .ty "int") (by rfl) mint (by decide +kernel) rfl) pa_nil))) (pe_one (pe_not (pe_callB call_isi (by rfl) mis (by decide +kernel) (pa_cons (pv 0) (pa_cons (pe_bltn (v := .ty "bool") (by rfl) mbo (by decide +kernel) rfl) pa_nil)))))))), ?_⟩
    refine ⟨_, rfl, _, _, _, _, true, rfl, .ty "int", .base (.int n), kit_ty (by decide +kernel), true, rfl, ?_⟩
    refine iteT' rfl ?_
    exact ⟨_, rfl, _, _, _, _, false, rfl, .ty "bool", .base (.int n), kit_ty (by decide +kernel), false, rfl, k⟩
abbrev sTerms : Stmt := top 30
theorem scTerms : FnScope ["_law_model", "_law_word_here", "_law_key"] ["_law_model"] (defScope sTerms) := ⟨rfl, rfl, rfl, by decide +kernel, rfl, by decide +kernel, by decide +kernel⟩
/-- the sorted keys of a law's dict: sorted([str(k) for k in d]) -/
def KeyL (M : List Tm) : List V := (nms M).map V.str
theorem keys_of {H : Hp} {kvs : List (Key × V)} {M : List Tm} (h : DAll H kvs M) : kvs.map (fun kv => kV kv.1) = KeyL M := by
  induction h with
  | nil => rfl
  | cons x t h r ih =>
    rw [List.map_cons, ih]
    rfl
def spTerms : Sp := fun vs H Q _ => ∃ (m : Addr) (n : Int) (M : List Tm) (kd : Option Str), vs = [.ref m] ∧ ModelAt H m n M kd ∧ ∀ t us H', Same H H' → H t = none → H' t = some (.tup us) → TAll H' us (srt M) → Q (.ref t) H'
theorem ok_terms (D : Df K mg "_law_terms" sTerms ["_law_model"]) (mso : mg "sorted" = none) (mst : mg "str" = none) (mtu : mg "tuple" = none) : FnOk P w K mg base CX0 1 D.f D.fd ["_law_model"] spTerms := by
  refine D.fn.ok scTerms (fun vs H Q E h => ?_) (fun cdv A outer s H vs Q E hr h => ?_)
  · obtain ⟨m, n, M, kd, rfl, _⟩ := h
    rfl
  · obtain ⟨m, n, M, kd, rfl, hM, k⟩ := h
    have hu := hu_of hr
    have hu2 : (A.deeper (envOfC "_law_terms" (defScope sTerms) s.heap.objs.size D.f cdv)).units + 2 < cLine := Nat.lt_of_le_of_lt (Nat.add_le_add_left (by decide : 2 ≤ 64) _) hr.units
    refine ⟨_, (pss_one (ps_ret (pe_callTy call_tuple_of (by rfl) mtu (by decide +kernel) (pa_cons (pe_lc (own := [("_law_word_here", 1)]) (g := gName 1) (tt := tYes) rfl scTerms.nd (pi_list (pe_callB (cr_sortedT hu2) (by rfl) mso (by decide +kernel) (pa_cons (pe_lock (pe_lc (own := [("_law_key", 2)]) (g := gName 2) (tt := tYes) rfl scTerms.nd (pi_keys (pe_ix (show IxR _ (rIxT K) from ix_tup) (pv 0) pe_int (fun _ _ => rfl))) (blkOk_by (N := ["_law_model", "_law_word_here", "_law_key"]) (sc := defScope sTerms) (by decide +kernel)) (fun _ _ _ _ _ => pg_name (i := 2) scTerms.nd rfl (Or.inl rfl)) (fun _ _ _ _ _ => pts_nil) (fun _ _ _ _ _ => (pe_callTy SkE.call_str_str (by rfl) mst (by decide +kernel) (pa_cons (pv 2) pa_nil))))) pa_nil))) (blkOk_by (N := ["_law_model", "_law_word_here", "_law_key"]) (sc := defScope sTerms) (by decide +kernel)) (fun _ _ _ _ _ => pg_name (i := 1) scTerms.nd rfl (Or.inl rfl)) (fun _ _ _ _ _ => pts_nil) (fun _ _ _ _ _ => (pe_op (show OpR _ _ (rCatT K) from op_catT) (pe_tup (pa_cons (pv 1) pa_nil)) (pe_dget hu (pe_ix (show IxR _ (rIxT K) from ix_tup) (pv 0) pe_int (fun _ _ => rfl)) (pv 1) (fun _ _ => rfl))))) pa_nil)))), ?_⟩
    obtain ⟨d, mx, hm, a0, a1, _, ⟨kvs, hd, hA⟩, nd, sz⟩ := id hM
    have kl : kvs.length = M.length := hA.len
    have hmd : m ≠ d := ne_of hm hd fun z => nomatch z
    refine ⟨d, .dK kvs, hd, trivial, fun od => ?_⟩
    have hfz : (upd H d (.frz od (.dK kvs))) d = some (.frz od (.dK kvs)) := upd_same
    have hm' : (upd H d (.frz od (.dK kvs))) m = some (.tup mx) := by rw [upd_ne hmd]; exact hm
    refine ⟨_, rfl, m, _, 1, _, rfl, rfl, sql_ofT hm', a1, d, od, rfl, .inl ⟨kvs, hfz, fun B nB => ?_⟩⟩
    have hBd : d ≠ B := ne_of_none hfz nB
    refine lc_it walk_keys (fun i H2 => H2 = upd (upd H d (.frz od (.dK kvs))) B (.lst ((KeyL M).take i))) rfl (fun i H2 _ e => by rw [e, upd_ne hBd]; exact hfz) ?_ ?_
    · rintro i x H2 H3 hi rfl ⟨rfl, kk, vv, hk, rfl⟩
      obtain ⟨y, t, hy, rfl, rfl, ht⟩ := hA.at_ hk
      have hc' : (KeyL M)[i]? = some (.str y.nm) := by
        unfold KeyL nms
        rw [List.getElem?_map, List.getElem?_map, hy]
        rfl
      refine ⟨rfl, ?_⟩
      refine ⟨_, rfl, y.nm, rfl, _, upd_same, ?_, ?_⟩
      · rw [List.length_take]
        exact small1000 (by omega)
      · rw [upd_upd, List.take_add_one, hc']
        rfl
    rintro H2 rfl
    have nB' : H B = none := by
      rw [upd_ne hBd.symm] at nB
      exact nB
    have lk : (KeyL M).length = M.length := by
      unfold KeyL nms
      rw [List.length_map, List.length_map]
    rw [List.take_of_length_le (by omega)]
    refine ⟨by rw [upd_ne hBd]; exact hfz, ?_⟩
    have hB : (upd (upd (upd H d (.frz od (.dK kvs))) B (.lst (KeyL M))) d (.dK kvs)) B = some (.lst (KeyL M)) := by rw [upd_ne hBd.symm, upd_same]
    have sm : Same H (upd (upd (upd H d (.frz od (.dK kvs))) B (.lst (KeyL M))) d (.dK kvs)) := fun b o e => by
      have h2 := ne_of_none e nB'
      by_cases h1 : b = d
      · subst h1
        rw [hd] at e
        rw [upd_same]
        exact e
      · rw [upd_ne h1, upd_ne h2, upd_ne h1]
        exact e
    generalize (upd (upd (upd H d (.frz od (.dK kvs))) B (.lst (KeyL M))) d (.dK kvs)) = H4 at hB sm
    refine ⟨B, nms M, rfl, sql_of hB, fun ol no => ?_⟩
    have s5 := same_upd (o := .lst (((nms M).mergeSort leT).map V.str)) no
    have hO : (upd H4 ol (.lst (((nms M).mergeSort leT).map V.str))) ol = some (.lst ((sortS (nms M)).map V.str)) := upd_same
    have sm5 := sm.trans s5
    generalize (upd H4 ol (.lst (((nms M).mergeSort leT).map V.str))) = H5 at hO sm5
    -- each name with what the dict gives
    have ns : nms (srt M) = sortS (nms M) := srt_nms M
    have sl : (srt M).length = (sortS (nms M)).length := by
      rw [← ns]
      unfold nms
      rw [List.length_map]
    have sn : (sortS (nms M)).length = M.length := by
      rw [(sortS_perm _).length_eq]
      unfold nms
      rw [List.length_map]
    refine ⟨ol, rfl, ⟨_, sql_of hO⟩, fun D nD => lc_list (K := K) (a := ol) (xs := (sortS (nms M)).map V.str) (fun i H2 => ∃ us, H2 D = some (.lst us) ∧ TAll H2 us ((srt M).take i) ∧ Same H5 H2) ⟨[], upd_same, .nil, same_upd nD⟩ (fun i H2 _ ⟨_, _, _, z⟩ => sql_of (z _ _ hO)) ?_ ?_⟩
    · rintro i y H2 hi ⟨us, hD, hT, sm2⟩
      have hil : i < ((sortS (nms M)).map V.str).length := (List.getElem?_eq_some_iff.mp hi).1
      rw [List.length_map] at hil
      have hx : (srt M)[i]? = some (srt M)[i] := List.getElem?_eq_getElem (by omega)
      generalize (srt M)[i] = x at hx
      have hy : y = .str x.nm := by
        rw [← ns] at hi
        unfold nms at hi
        rw [List.getElem?_map, List.getElem?_map, hx] at hi
        exact (Option.some.inj hi).symm
      subst hy
      have hxM : getT M x.nm = some x := getT_mem nd ((mem_srt nd).mp (List.mem_of_getElem? hx))
      have H5m := (sm5.trans sm2) _ _ hm
      have H5d := (sm5.trans sm2) _ _ hd
      have hA2 := hA.mono fun t xs z => (sm5.trans sm2) _ _ z
      obtain ⟨e, _⟩ | ⟨x', t, e1, e2, e3⟩ := hA2.get x.nm
      · rw [e] at hxM
        cases hxM
      obtain rfl : x' = x := Option.some.inj (e1.symm.trans hxM)
      refine ⟨rfl, ?_⟩
      refine ⟨_, rfl, (by show 1 ≤ sizeLine; decide), fun q nq => ?_⟩
      have sq := same_upd (o := .tup [V.str x'.nm]) nq
      refine ⟨_, rfl, m, _, 1, _, rfl, rfl, sql_ofT (sq _ _ H5m), a1, _, rfl, d, .ref t, rfl, by rw [← e2]; exact DGet.k (k := Sum.inr x'.nm) (sq _ _ H5d), q, t, _, _, rfl, rfl, sql_ofT upd_same, sql_ofT (sq _ _ e3), by simp, by show 1 + 3 ≤ sizeLine; decide, fun z => absurd z (by simp), fun _ p np => ?_⟩
      have sp := same_upd (o := .tup ([V.str x'.nm] ++ [V.int x'.k, V.int x'.lo, V.int x'.hi])) np
      have hDp := sp _ _ (sq _ _ hD)
      have npq : p ≠ D := (ne_of_none (sq _ _ hD) np).symm
      have nol : D ≠ p := npq.symm
      refine ⟨us, hDp, ?_, us ++ [.ref p], upd_same, ?_, ?_⟩
      · rw [hT.len, List.length_take]
        exact small1000 (by omega)
      · rw [List.take_add_one, hx, Option.toList_some]
        refine TAll.app ((hT.mono fun t xs z => ?_)) (.cons x' p ?_ .nil)
        · have z2 := sp _ _ (sq _ _ z)
          rw [upd_ne (ne_of z2 hDp fun w => nomatch w)]
          exact z2
        · rw [upd_ne npq, upd_same]
          rfl
      · intro b o eb
        have nbD : b ≠ D := ne_of_none eb nD
        rw [upd_ne nbD]
        exact sp _ _ (sq _ _ (sm2 _ _ eb))
    · rintro H2 ⟨us, hD, hT, sm2⟩
      rw [List.length_map, List.take_of_length_le (by omega)] at hT
      refine ⟨D, us, rfl, .inl ⟨sql_of hD, fun l nl => ?_⟩⟩
      have sl2 := same_upd (o := .tup us) nl
      have nl0 : H l = none := (sm5.trans sm2).free nl
      exact k l us _ ((sm5.trans sm2).trans sl2) nl0 upd_same (hT.mono fun t xs z => sl2 _ _ z)
end
end DO

namespace DO
open PySem PySem.Spec PyProof.Rows L2
section
variable {P : Program} {w : World} {K : PySem.W.Frag} {mg : Str → Option Value} {base : Heap}
/-! ### the class Form -/
abbrev sCls : Stmt := top 15
theorem ktc : ¬ (("constant" : Str) = "terms") := by decide +kernel
def ff (n : Int) (t : Addr) : List (Str × V) := putF "terms" (.ref t) (putF "constant" (.int n) [])
theorem ff_eq (n : Int) (t : Addr) : ff n t = ([("constant", V.int n), ("terms", V.ref t)] : List (Str × V)) := by
  show (if ("constant" : Str) = "terms" then [(("constant" : Str), V.ref t)] else (("constant" : Str), V.int n) :: putF "terms" (V.ref t) []) = ([("constant", V.int n), ("terms", V.ref t)] : List (Str × V))
  rw [if_neg ktc]
  rfl
theorem ff_c (n : Int) (t : Addr) : (ff n t).lookup ("constant" : Str) = some (.int n) := by
  unfold ff
  rw [lookup_putF, if_neg ktc, lookup_putF, if_pos rfl]
theorem ff_t (n : Int) (t : Addr) : (ff n t).lookup ("terms" : Str) = some (.ref t) := by
  unfold ff
  rw [lookup_putF, if_pos rfl]
theorem ff_no (n : Int) (t : Addr) {m : Str} (h1 : ¬ m = "terms") (h2 : ¬ m = "constant") : (ff n t).lookup m = none := by
  unfold ff
  rw [lookup_putF, if_neg h1, lookup_putF, if_neg h2]
  rfl
theorem ff_put (n : Int) (t u : Addr) : putF "terms" (.ref u) (ff n t) = ff n u := by
  rw [ff_eq, ff_eq]
  show (if ("constant" : Str) = "terms" then _ else (("constant" : Str), V.int n) :: (if ("terms" : Str) = "terms" then [(("terms" : Str), V.ref u)] else _)) = ([("constant", V.int n), ("terms", V.ref u)] : List (Str × V))
  rw [if_neg ktc, if_pos rfl]
/-- a form stands at p -/
def FormAt (C : Addr) (H : Hp) (p : Addr) (n : Int) (ts : List Tm) : Prop := ∃ dx t us, H p = some (.ins C dx (ff n t)) ∧ H t = some (.tup us) ∧ TAll H us ts
theorem FormAt.keep {C : Addr} {H H' : Hp} {p : Addr} {n : Int} {ts : List Tm} (h : FormAt C H p n ts) (k : Same H H') : FormAt C H' p n ts := by
  obtain ⟨dx, t, us, h1, h2, h3⟩ := h
  exact ⟨dx, t, us, k _ _ h1, k _ _ h2, h3.mono fun t xs z => k _ _ z⟩
theorem FormAt.kp {C a : Addr} {H H' : Hp} {p : Addr} {n : Int} {ts : List Tm} {xs : List V} (h : FormAt C H p n ts) (k : Kp a H H') (ha : H a = some (.lst xs)) : FormAt C H' p n ts := by
  obtain ⟨dx, t, us, h1, h2, h3⟩ := h
  exact ⟨dx, t, us, k _ _ h1 (ne_of h1 ha fun z => nomatch z), tup_kp k ha _ _ h2, h3.mono (tup_kp k ha)⟩
/-- what is asked of the class as the top has made it -/
structure Frm (K : PySem.W.Frag) (mg : Str → Option Value) (C : Addr) : Prop where
  cl : Cls K C
  nC : NoAttr K C "constant"
  nT : NoAttr K C "terms"
  mgC : mg "Form" = some (.ref C)
  sf : PySem.W.selfFirst K C = true
  ha : PySem.W.findIn K (.ref C) "__class__" = some (some (.builtin "object.__class__"))
  hn : PySem.W.specialIn K (.builtin "object.__class__") "__get__" = some (some (.builtin "getset_descriptor.__get__"))
  ht : PySem.W.takesIn K (.builtin "object.__class__") = some true
  hm : PySem.W.mroIn K C (.type "object") = some true
  kC : PySem.W.kitOne K (.ref C) (.ref C) = some true
  kI : PySem.W.kitOne K (.type "int") (.ref C) = some false
  kJ : PySem.W.kitOne K (.ref C) (.type "int") = some false
  nF : PySem.W.notFirst K C (.type "int") = true
  sJ : PySem.W.subIn K (.ref C) (.type "int") = some false
  sI : PySem.W.subIn K (.type "int") (.ref C) = some false
theorem TyX_frm {C : Addr} (T : Frm K mg C) {H : Hp} {p : Addr} {n : Int} {ts : List Tm} (h : FormAt C H p n ts) : TyX K H (.ref p) (.ref C) := by
  obtain ⟨dx, t, us, h1, _⟩ := h
  exact .base (.ins h1 T.cl T.ha T.hn T.ht T.hm)
theorem made_same {C x dx : Addr} {H H' : Hp} (nx : H x = none) (nd : H dx = none) (k : ∀ b o, (upd (upd H dx (.own x)) x (.ins C dx [])) b = some o → b ≠ x → H' b = some o) : Same H H' := Same.made nx nd k
abbrev sIni : Stmt := inClass sCls 0
theorem scIni : FnScope ["self", "constant"] ["self", "constant"] (defScope sIni) := ⟨rfl, rfl, rfl, by decide +kernel, rfl, by decide +kernel, by decide +kernel⟩
def spIni (C : Addr) : Sp := fun vs H Q _ => ∃ (p dx : Addr) (n : Int), vs = [.ref p, .int n] ∧ H p = some (.ins C dx []) ∧ ∀ t H', H t = none → H' p = some (.ins C dx (ff n t)) → H' t = some (.tup []) → (∀ b o, H b = some o → b ≠ p → H' b = some o) → Q .non H'
theorem ok_ini {C : Addr} (T : Frm K mg C) (M : Mf K C "__init__" "Form.__init__" sIni ["self", "constant"]) : FnOk P w K mg base CX0 1 M.f M.fd ["self", "constant"] (spIni C) := by
  refine M.fn.ok scIni (fun vs H Q E h => ?_) (fun cdv A outer s H vs Q E hr h => ?_)
  · obtain ⟨p, dx, n, rfl, _⟩ := h
    rfl
  · obtain ⟨p, dx, n, rfl, hp, k⟩ := h
    refine ⟨_, (pss_cons (ps_fld (pv 0) (pv 1) rfl)
      (pss_one (ps_fld (pv 0) (pe_tup pa_nil) rfl))), ?_⟩
    refine ⟨_, rfl, _, rfl, p, C, dx, [], rfl, hp, T.cl, T.nC, (by show 0 < 1000; decide), ?_⟩
    refine ⟨Nat.zero_le _, fun t nt => ?_⟩
    have npt : p ≠ t := ne_of_none upd_same nt
    have nt0 : H t = none := by
      rw [upd_ne npt.symm] at nt
      exact nt
    refine ⟨_, rfl, p, C, dx, _, rfl, (by rw [upd_ne npt]; exact upd_same), T.cl, T.nT, (by show 1 < 1000; decide), ?_⟩
    refine k t _ nt0 upd_same (by rw [upd_ne npt.symm, upd_same]) fun b o e nb => ?_
    rw [upd_ne nb, upd_ne (ne_of_none e nt0), upd_ne nb]
    exact e
abbrev sFof : Stmt := top 16
theorem scFof : FnScope ["constant", "terms", "made"] ["constant", "terms"] (defScope sFof) := ⟨rfl, rfl, rfl, by decide +kernel, rfl, by decide +kernel, by decide +kernel⟩
def spFof (K : PySem.W.Frag) (C : Addr) : Sp := fun vs H Q _ => ∃ (n : Int) (a : Addr) (us : List V) (ts : List Tm), vs = [.int n, .ref a] ∧ (H a = some (.lst us) ∨ H a = some (.tup us)) ∧ TAll H us ts ∧ ∀ p H', H p = none → Same H H' → FormAt C H' p n ts → Q (.ref p) H'
theorem ok_fof {C : Addr} (T : Frm K mg C) (D : Df K mg "form_of" sFof ["constant", "terms"]) (MI : Mf K C "__init__" "Form.__init__" sIni ["self", "constant"]) (MK : Mk K C MI.f) (mtu : mg "tuple" = none) : FnOk P w K mg base CX0 3 D.f D.fd ["constant", "terms"] (spFof K C) := by
  have GI : FnOk P w K mg base CX0 1 MI.f MI.fd ["self", "constant"] (spIni C) := ok_ini T MI
  refine D.fn.ok scFof (fun vs H Q E h => ?_) (fun cdv A outer s H vs Q E hr h => ?_)
  · obtain ⟨n, a, us, ts, rfl, _⟩ := h
    rfl
  · obtain ⟨n, a, us, ts, rfl, ha, hT, k⟩ := h
    refine ⟨_, (pss_cons (ps_set (i := 2) scFof.nd rfl (.inl rfl) (pe_make MK GI hr rfl T.mgC MI.bd .nil pass0 (pa_cons (pv 0) pa_nil)))
      (pss_cons (ps_fld (pv 2) (pe_callTy call_tuple_of (by rfl) mtu (by decide +kernel) (pa_cons (pv 1) pa_nil)) rfl)
      (pss_one (ps_ret (pv 2))))), ?_⟩
    refine ⟨_, rfl, fun x dx nx ndx hne => ⟨x, dx, n, rfl, upd_same, fun t0 H1 nt0 hx ht0 kp => ⟨rfl, ?_⟩⟩⟩
    have s1 := made_same nx ndx kp
    have last : ∀ (q : Addr) (H2 : Hp), H2 q = some (.tup us) → Same H1 H2 → FormAt C (upd H2 x (.ins C dx (putF "terms" (.ref q) (ff n t0)))) x n ts ∧ Same H (upd H2 x (.ins C dx (putF "terms" (.ref q) (ff n t0)))) := fun q H2 hq s2 => by
      have hxq : q ≠ x := ne_of hq (s2 _ _ hx) fun z => nomatch z
      have s12 := s1.trans s2
      refine ⟨⟨dx, q, us, by rw [upd_same, ff_put], by rw [upd_ne hxq]; exact hq, hT.mono fun t xs z => ?_⟩, fun b o e => ?_⟩
      · rw [upd_ne (ne_of (s12 _ _ z) (s2 _ _ hx) fun z => nomatch z)]
        exact s12 _ _ z
      · rw [upd_ne (ne_of_none e nx)]
        exact s12 _ _ e
    rcases ha with ha | ha
    · refine ⟨_, rfl, a, us, rfl, .inl ⟨sql_of (s1 _ _ ha), fun l nl => ?_⟩⟩
      have s2 := same_upd (o := .tup us) nl
      obtain ⟨h1, h2⟩ := last l _ upd_same s2
      exact ⟨_, rfl, x, C, dx, _, rfl, s2 _ _ hx, T.cl, T.nT, (by rw [ff_eq]; show 2 < 1000; decide), _, rfl, k x _ nx h2 h1⟩
    · obtain ⟨h1, h2⟩ := last a H1 (s1 _ _ ha) (fun _ _ e => e)
      exact ⟨_, rfl, a, us, rfl, .inr ⟨sql_ofT (s1 _ _ ha), _, rfl, x, C, dx, _, rfl, hx, T.cl, T.nT, (by rw [ff_eq]; show 2 < 1000; decide), _, rfl, k x _ nx h2 h1⟩⟩
end
end DO

namespace DO
open PySem PySem.Spec PyProof.Rows L2
section
variable {P : Program} {w : World} {K : PySem.W.Frag} {mg : Str → Option Value} {base : Heap}
abbrev sMul : Stmt := inClass sCls 5
theorem scMul : FnScope ["self", "other", "terms", "name", "times", "low", "high"] ["self", "other"] (defScope sMul) := ⟨rfl, rfl, rfl, by decide +kernel, rfl, by decide +kernel, by decide +kernel⟩
/-- times a number: what is left -/
def mulT (t : Int) (ts : List Tm) : List Tm := if t = 0 then [] else ts.map fun x => ⟨x.nm, x.k * t, x.lo, x.hi⟩
def Bd (B : Nat) (n : Int) (ts : List Tm) : Prop := n.natAbs < 2 ^ B ∧ ∀ x ∈ ts, x.k.natAbs < 2 ^ B ∧ x.lo.natAbs < 2 ^ B ∧ x.hi.natAbs < 2 ^ B
theorem Bd.mono {B B' : Nat} {n : Int} {ts : List Tm} (h : Bd B n ts) (e : B ≤ B') : Bd B' n ts := by
  have z : 2 ^ B ≤ 2 ^ B' := Nat.pow_le_pow_right (by decide) e
  exact ⟨Nat.lt_of_lt_of_le h.1 z, fun x hx => ⟨Nat.lt_of_lt_of_le (h.2 x hx).1 z, Nat.lt_of_lt_of_le (h.2 x hx).2.1 z, Nat.lt_of_lt_of_le (h.2 x hx).2.2 z⟩⟩
def spMul (C : Addr) : Sp := fun vs H Q _ => ∃ (p : Addr) (n t : Int) (ts : List Tm), vs = [.ref p, .int t] ∧ FormAt C H p n ts ∧ ts.length ≤ 900 ∧ Bd 10000 n ts ∧ t.natAbs < 2 ^ 10000 ∧
  ∀ r H', H r = none → Same H H' → FormAt C H' r (n * t) (mulT t ts) → Q (.ref r) H'
theorem ok_mul {C : Addr} (T : Frm K mg C) (M : Mf K C "__mul__" "Form.__mul__" sMul ["self", "other"]) (MI : Mf K C "__init__" "Form.__init__" sIni ["self", "constant"]) (MK : Mk K C MI.f)
    (DF : Df K mg "form_of" sFof ["constant", "terms"]) (GF : FnOk P w K mg base CX0 3 DF.f DF.fd ["constant", "terms"] (spFof K C)) (mis : mg "isinstance" = none) (mint : mg "int" = none) : FnOk P w K mg base CX0 4 M.f M.fd ["self", "other"] (spMul C) := by
  have GI : FnOk P w K mg base CX0 1 MI.f MI.fd ["self", "constant"] (spIni C) := ok_ini T MI
  refine M.fn.ok scMul (fun vs H Q E h => ?_) (fun cdv A outer s H vs Q E hr h => ?_)
  · obtain ⟨p, n, t, ts, rfl, _⟩ := h
    rfl
  · obtain ⟨p, n, t, ts, rfl, hp, hsz, hb, ht, k⟩ := h
    refine ⟨_, (pss_cons (ps_if (pt_not (pt_val (pe_callB call_isi (by rfl) mis (by decide +kernel) (pa_cons (pv 1) (pa_cons (pe_bltn (v := .ty "int") (by rfl) mint (by decide +kernel) rfl) pa_nil)))))
      (pss_one (ps_never))
      pss_nil)
      (pss_cons (ps_if (pt_cmpR op_eq (pv 1) pe_int (nomark _))
      (pss_one (ps_ret (pe_make MK GI (hr.mono (by decide)) rfl T.mgC MI.bd .nil pass0 (pa_cons pe_int pa_nil))))
      pss_nil)
      (pss_cons (ps_setLc (i := 2) (own := [("name", 3), ("times", 4), ("low", 5), ("high", 6)]) (g := (gTup K 4 (gCons (gName 3) (gCons (gName 4) (gCons (gName 5) (gCons (gName 6) gNil)))))) (tt := tYes) rfl scMul.nd rfl rfl (sw_true rfl rfl rfl (by decide +kernel)) (pi_tup (pe_fld (pv 0) rfl)) (blkOk_by (N := ["self", "other", "terms", "name", "times", "low", "high"]) (sc := defScope sMul) (by decide +kernel)) (fun _ _ _ _ _ => (pg_tup rfl (pgs_cons (pg_name (i := 3) scMul.nd rfl (Or.inl rfl)) (pgs_cons (pg_name (i := 4) scMul.nd rfl (Or.inl rfl)) (pgs_cons (pg_name (i := 5) scMul.nd rfl (Or.inl rfl)) (pgs_cons (pg_name (i := 6) scMul.nd rfl (Or.inl rfl)) pgs_nil)))))) (fun _ _ _ _ _ => pts_nil) (fun _ _ _ _ _ => (pe_tup (pa_cons (pv 3) (pa_cons (pe_op op_mulWL (pv 4) (pv 1)) (pa_cons (pv 5) (pa_cons (pv 6) pa_nil)))))))
      (pss_one (ps_ret (pe_call GF hr (by rfl) DF.mgf DF.fn.kp DF.bd .nil pass0 (pa_cons (pe_op op_mulWL (pe_fld (pv 0) rfl) (pv 1)) (pa_cons (pv 2) pa_nil)))))))), ?_⟩
    refine ⟨_, rfl, _, _, _, _, true, rfl, .ty "int", .base (.int t), kit_ty (by decide +kernel), true, rfl, ?_⟩
    refine iteF' rfl ?_
    obtain ⟨dx, tt, us, h1, h2, h3⟩ := id hp
    refine ⟨_, rfl, rfl, _, rfl, ite2 (fun e => ?_) (fun e => ?_)⟩
    · have e0 : t = 0 := by simpa using e
      refine fun x dx' nx ndx hne => ⟨x, dx', 0, rfl, upd_same, fun t0 H1 nt0 hx ht0 kp => ⟨rfl, ?_⟩⟩
      refine k x H1 nx (made_same nx ndx kp) ?_
      subst e0
      rw [Int.mul_zero]
      exact ⟨dx', t0, [], hx, ht0, .nil⟩
    · have e0 : ¬ t = 0 := fun z => e (by rw [z]; decide)
      refine ⟨_, rfl, p, C, dx, _, _, rfl, h1, T.cl, T.nT, ff_t _ _, tt, rfl, ⟨us, sql_ofT h2⟩, fun D nD => lc_tup (K := K) (a := tt) (xs := us) (fun i H2 => ∃ ws, H2 D = some (.lst ws) ∧ TAll H2 ws ((ts.take i).map fun x => ⟨x.nm, x.k * t, x.lo, x.hi⟩) ∧ Same H H2) ⟨[], upd_same, .nil, same_upd nD⟩ (fun i H2 _ ⟨_, _, _, z⟩ => sql_ofT (z _ _ h2)) ?_ ?_⟩
      · rintro i y H2 hi ⟨ws, hD, hT, sm⟩
        obtain ⟨x, q, hx, rfl, hq⟩ := h3.at_ hi
        obtain ⟨hb1, hb2⟩ := hb
        have hxm := List.mem_of_getElem? hx
        refine ⟨q, _, rfl, sql_ofT (sm _ _ hq), rfl, _, _, rfl, _, _, rfl, _, _, rfl, _, _, rfl, rfl, rfl, ?_⟩
        refine ⟨_, rfl, _, rfl, _, rfl, x.k, t, rfl, rfl, wide_mul (hb2 x hxm).1 ht (by decide) (by decide) (by decide), fun r er => ⟨_, rfl, _, rfl, (by show 4 ≤ sizeLine; decide), fun z nz => ?_⟩⟩
        have sz := same_upd (o := .tup [V.str x.nm, V.int r, V.int x.lo, V.int x.hi]) nz
        have hDz := sz _ _ hD
        have nzD : z ≠ D := (ne_of_none hD nz).symm
        refine ⟨ws, hDz, ?_, ws ++ [.ref z], upd_same, ?_, ?_⟩
        · rw [hT.len, List.length_map, List.length_take]
          exact small1000 (by omega)
        · rw [List.take_add_one, hx, Option.toList_some, List.map_append]
          refine TAll.app (hT.mono fun t xs w => ?_) (.cons _ z ?_ .nil)
          · have z2 := sz _ _ w
            rw [upd_ne (ne_of z2 hDz fun w => nomatch w)]
            exact z2
          · rw [upd_ne nzD, upd_same, er]
        · intro b o eb
          rw [upd_ne (ne_of_none eb nD)]
          exact sz _ _ (sm _ _ eb)
      · rintro H2 ⟨ws, hD, hT, sm⟩
        have hl := h3.len
        rw [List.take_of_length_le (by omega)] at hT
        refine ⟨_, rfl, p, C, dx, _, _, rfl, sm _ _ h1, T.cl, T.nC, ff_c _ _, _, rfl, n, t, rfl, rfl, wide_mul hb.1 ht (by decide) (by decide) (by decide), fun r er => ⟨_, rfl, r, D, ws, _, rfl, .inl hD, hT, fun q H3 nq s3 hf => ?_⟩⟩
        rw [er] at hf
        refine k q H3 (sm.free nq) (sm.trans s3) ?_
        unfold mulT
        rw [if_neg e0]
        exact hf
end
end DO

namespace DO
open PySem PySem.Spec PyProof.Rows L2
section
variable {P : Program} {w : World} {K : PySem.W.Frag} {mg : Str → Option Value} {base : Heap}
/-- what else is asked for a number times a form -/
structure FrmM (K : PySem.W.Frag) (C : Addr) : Prop where
  im : PySem.W.findIn K (.type "int") "__mul__" = some (some (.builtin "int.__mul__"))
  ir : PySem.W.findIn K (.type "int") "__rmul__" = some (some (.builtin "int.__rmul__"))
abbrev sRmu : Stmt := inClass sCls 6
theorem scRmu : FnScope ["self", "other"] ["self", "other"] (defScope sRmu) := ⟨rfl, rfl, rfl, by decide +kernel, rfl, by decide +kernel, by decide +kernel⟩
theorem ok_rmu {C : Addr} (T : Frm K mg C) (TM : FrmM K C) (MR : Mf K C "__rmul__" "Form.__rmul__" sRmu ["self", "other"]) (MM : Mf K C "__mul__" "Form.__mul__" sMul ["self", "other"]) (GM : FnOk P w K mg base CX0 4 MM.f MM.fd ["self", "other"] (spMul C)) :
    FnOk P w K mg base CX0 5 MR.f MR.fd ["self", "other"] (spMul C) := by
  refine MR.fn.ok scRmu (fun vs H Q E h => ?_) (fun cdv A outer s H vs Q E hr h => ?_)
  · obtain ⟨p, n, t, ts, rfl, _⟩ := h
    rfl
  · obtain ⟨p, n, t, ts, rfl, hp, hsz, hb, ht, k⟩ := h
    have hr4 : Room 4 _ := hr
    refine ⟨_, (pss_one (ps_ret (pe_op (op_binI (op := .Mult) rfl rfl MM.me T.sf MR.me.at_ (.inr ⟨_, rfl⟩) TM.im TM.ir T.sI GM hr4 MM.bd pass0) (pv 0) (pv 1)))), ?_⟩
    obtain ⟨dx, tt, us, h1, h2, h3⟩ := id hp
    exact ⟨_, rfl, _, rfl, p, dx, _, t, rfl, rfl, h1, p, n, t, ts, rfl, hp, hsz, hb, ht, k⟩
abbrev sNeg : Stmt := inClass sCls 7
theorem scNeg : FnScope ["self"] ["self"] (defScope sNeg) := ⟨rfl, rfl, rfl, by decide +kernel, rfl, by decide +kernel, by decide +kernel⟩
def spNeg (C : Addr) : Sp := fun vs H Q _ => ∃ (p : Addr) (n : Int) (ts : List Tm), vs = [.ref p] ∧ FormAt C H p n ts ∧ ts.length ≤ 900 ∧ Bd 10000 n ts ∧ ∀ r H', H r = none → Same H H' → FormAt C H' r (n * -1) (mulT (-1) ts) → Q (.ref r) H'
theorem ok_neg {C : Addr} (T : Frm K mg C) (TM : FrmM K C) (MN : Mf K C "__neg__" "Form.__neg__" sNeg ["self"]) (MR : Mf K C "__rmul__" "Form.__rmul__" sRmu ["self", "other"]) (MM : Mf K C "__mul__" "Form.__mul__" sMul ["self", "other"]) (GM : FnOk P w K mg base CX0 4 MM.f MM.fd ["self", "other"] (spMul C)) :
    FnOk P w K mg base CX0 5 MN.f MN.fd ["self"] (spNeg C) := by
  refine MN.fn.ok scNeg (fun vs H Q E h => ?_) (fun cdv A outer s H vs Q E hr h => ?_)
  · obtain ⟨p, n, ts, rfl, _⟩ := h
    rfl
  · obtain ⟨p, n, ts, rfl, hp, hsz, hb, k⟩ := h
    have hr4 : Room 4 _ := hr
    refine ⟨_, (pss_one (ps_ret (pe_op (op_binI (op := .Mult) rfl rfl MM.me T.sf MR.me.at_ (.inr ⟨_, rfl⟩) TM.im TM.ir T.sI GM hr4 MM.bd pass0) (pv 0) (pe_un un_neg pe_int)))), ?_⟩
    obtain ⟨dx, tt, us, h1, h2, h3⟩ := id hp
    exact ⟨_, rfl, 1, rfl, p, dx, _, -1, rfl, rfl, h1, p, n, -1, ts, rfl, hp, hsz, hb, by decide +kernel, k⟩
def mnT (x : Tm) : Int := x.k * (if x.k > 0 then x.lo else x.hi)
def mxT (x : Tm) : Int := x.k * (if x.k > 0 then x.hi else x.lo)
def spEnd (C : Addr) (f : Tm → Int) : Sp := fun vs H Q _ => ∃ (p : Addr) (n : Int) (ts : List Tm), vs = [.ref p] ∧ FormAt C H p n ts ∧ ts.length ≤ 900 ∧ Bd 10000 n ts ∧ ∀ H', Same H H' → Q (.int (n + (ts.map f).sum)) H'
abbrev sLeast : Stmt := inClass sCls 11
theorem scLeast : FnScope ["self", "name", "times", "low", "high"] ["self"] (defScope sLeast) := ⟨rfl, rfl, rfl, by decide +kernel, rfl, by decide +kernel, by decide +kernel⟩
theorem ok_least {C : Addr} (T : Frm K mg C) {f : Addr} {fd : FuncData} (M : Fun K "least" "Form.least" sLeast f fd) (ms : mg "sum" = none) : FnOk P w K mg base CX0 1 f fd ["self"] (spEnd C mnT) := by
  refine M.ok scLeast (fun vs H Q E h => ?_) (fun cdv A outer s H vs Q E hr h => ?_)
  · obtain ⟨p, n, ts, rfl, _⟩ := h
    rfl
  · obtain ⟨p, n, ts, rfl, hp, hsz, hb, k⟩ := h
    refine ⟨_, (pss_one (ps_ret (pe_op op_addL (pe_fld (pv 0) rfl) (pe_callB (cr_sum rfl) (by rfl) ms (by decide +kernel) (pa_cons (pe_lc (own := [("name", 1), ("times", 2), ("low", 3), ("high", 4)]) (g := (gTup K 4 (gCons (gName 1) (gCons (gName 2) (gCons (gName 3) (gCons (gName 4) gNil)))))) (tt := tYes) rfl scLeast.nd (pi_tup (pe_fld (pv 0) rfl)) (blkOk_by (N := ["self", "name", "times", "low", "high"]) (sc := defScope sLeast) (by decide +kernel)) (fun _ _ _ _ _ => (pg_tup rfl (pgs_cons (pg_name (i := 1) scLeast.nd rfl (Or.inl rfl)) (pgs_cons (pg_name (i := 2) scLeast.nd rfl (Or.inl rfl)) (pgs_cons (pg_name (i := 3) scLeast.nd rfl (Or.inl rfl)) (pgs_cons (pg_name (i := 4) scLeast.nd rfl (Or.inl rfl)) pgs_nil)))))) (fun _ _ _ _ _ => pts_nil) (fun _ _ _ _ _ => (pe_op op_mulWL (pv 2) (pe_ifExp (pt_cmpR op_gt (pv 2) pe_int (nomark _)) (pv 3) (pv 4))))) pa_nil))))), ?_⟩
    obtain ⟨dx, tt, us, h1, h2, h3⟩ := id hp
    have hl := h3.len
    refine ⟨_, rfl, p, C, dx, _, _, rfl, h1, T.cl, T.nC, ff_c _ _, _, rfl, p, C, dx, _, _, rfl, h1, T.cl, T.nT, ff_t _ _, tt, rfl, ⟨us, sql_ofT h2⟩, fun D nD => lc_tup (K := K) (a := tt) (xs := us) (fun i H2 => H2 = upd H D (.lst (((ts.take i).map mnT).map V.int))) rfl (fun i H2 _ z => sql_ofT (by rw [z]; exact (same_upd nD) _ _ h2)) ?_ ?_⟩
    · rintro i y H2 hi rfl
      obtain ⟨x, q, hx, rfl, hq⟩ := h3.at_ hi
      obtain ⟨hb1, hb2⟩ := hb
      obtain ⟨b1, b2, b3⟩ := hb2 x (List.mem_of_getElem? hx)
      refine ⟨q, _, rfl, sql_ofT ((same_upd nD) _ _ hq), rfl, _, _, rfl, _, _, rfl, _, _, rfl, _, _, rfl, rfl, rfl, ?_⟩
      have fin : ∀ r : Int, r = mnT x → ∃ acc, (upd H D (.lst (((ts.take i).map mnT).map V.int))) D = some (.lst acc) ∧ acc.length < sizeLine ∧ upd (upd H D (.lst (((ts.take i).map mnT).map V.int))) D (.lst (acc ++ [V.int r])) = upd H D (.lst (((ts.take (i + 1)).map mnT).map V.int)) := fun r er => by
        refine ⟨_, upd_same, ?_, ?_⟩
        · rw [List.length_map, List.length_map, List.length_take]
          exact small1000 (by omega)
        · rw [upd_upd, List.take_add_one, hx, Option.toList_some, List.map_append, List.map_append, er]
          rfl
      refine ⟨_, rfl, _, rfl, _, _, rfl, rfl, _, rfl, ite2 (fun e => ?_) (fun e => ?_)⟩
      · have e2 : x.k > 0 := of_decide_eq_true e
        exact ⟨_, rfl, x.k, _, rfl, rfl, wide_mul b1 (by assumption) (by decide) (by decide) (by decide), fun r er => fin r (by unfold mnT; rw [if_pos e2]; exact er)⟩
      · have e2 : ¬ x.k > 0 := fun z => e (decide_eq_true z)
        exact ⟨_, rfl, x.k, _, rfl, rfl, wide_mul b1 (by assumption) (by decide) (by decide) (by decide), fun r er => fin r (by unfold mnT; rw [if_neg e2]; exact er)⟩
    · rintro H2 rfl
      rw [List.take_of_length_le (by omega)]
      exact ⟨D, _, rfl, sql_of upd_same, _, _, rfl, rfl, fun r er => by rw [er]; exact k _ (same_upd nD)⟩
abbrev sMost : Stmt := inClass sCls 12
theorem scMost : FnScope ["self", "name", "times", "low", "high"] ["self"] (defScope sMost) := ⟨rfl, rfl, rfl, by decide +kernel, rfl, by decide +kernel, by decide +kernel⟩
theorem ok_most {C : Addr} (T : Frm K mg C) {f : Addr} {fd : FuncData} (M : Fun K "most" "Form.most" sMost f fd) (ms : mg "sum" = none) : FnOk P w K mg base CX0 1 f fd ["self"] (spEnd C mxT) := by
  refine M.ok scMost (fun vs H Q E h => ?_) (fun cdv A outer s H vs Q E hr h => ?_)
  · obtain ⟨p, n, ts, rfl, _⟩ := h
    rfl
  · obtain ⟨p, n, ts, rfl, hp, hsz, hb, k⟩ := h
    refine ⟨_, (pss_one (ps_ret (pe_op op_addL (pe_fld (pv 0) rfl) (pe_callB (cr_sum rfl) (by rfl) ms (by decide +kernel) (pa_cons (pe_lc (own := [("name", 1), ("times", 2), ("low", 3), ("high", 4)]) (g := (gTup K 4 (gCons (gName 1) (gCons (gName 2) (gCons (gName 3) (gCons (gName 4) gNil)))))) (tt := tYes) rfl scMost.nd (pi_tup (pe_fld (pv 0) rfl)) (blkOk_by (N := ["self", "name", "times", "low", "high"]) (sc := defScope sMost) (by decide +kernel)) (fun _ _ _ _ _ => (pg_tup rfl (pgs_cons (pg_name (i := 1) scMost.nd rfl (Or.inl rfl)) (pgs_cons (pg_name (i := 2) scMost.nd rfl (Or.inl rfl)) (pgs_cons (pg_name (i := 3) scMost.nd rfl (Or.inl rfl)) (pgs_cons (pg_name (i := 4) scMost.nd rfl (Or.inl rfl)) pgs_nil)))))) (fun _ _ _ _ _ => pts_nil) (fun _ _ _ _ _ => (pe_op op_mulWL (pv 2) (pe_ifExp (pt_cmpR op_gt (pv 2) pe_int (nomark _)) (pv 4) (pv 3))))) pa_nil))))), ?_⟩
    obtain ⟨dx, tt, us, h1, h2, h3⟩ := id hp
    have hl := h3.len
    refine ⟨_, rfl, p, C, dx, _, _, rfl, h1, T.cl, T.nC, ff_c _ _, _, rfl, p, C, dx, _, _, rfl, h1, T.cl, T.nT, ff_t _ _, tt, rfl, ⟨us, sql_ofT h2⟩, fun D nD => lc_tup (K := K) (a := tt) (xs := us) (fun i H2 => H2 = upd H D (.lst (((ts.take i).map mxT).map V.int))) rfl (fun i H2 _ z => sql_ofT (by rw [z]; exact (same_upd nD) _ _ h2)) ?_ ?_⟩
    · rintro i y H2 hi rfl
      obtain ⟨x, q, hx, rfl, hq⟩ := h3.at_ hi
      obtain ⟨hb1, hb2⟩ := hb
      obtain ⟨b1, b2, b3⟩ := hb2 x (List.mem_of_getElem? hx)
      refine ⟨q, _, rfl, sql_ofT ((same_upd nD) _ _ hq), rfl, _, _, rfl, _, _, rfl, _, _, rfl, _, _, rfl, rfl, rfl, ?_⟩
      have fin : ∀ r : Int, r = mxT x → ∃ acc, (upd H D (.lst (((ts.take i).map mxT).map V.int))) D = some (.lst acc) ∧ acc.length < sizeLine ∧ upd (upd H D (.lst (((ts.take i).map mxT).map V.int))) D (.lst (acc ++ [V.int r])) = upd H D (.lst (((ts.take (i + 1)).map mxT).map V.int)) := fun r er => by
        refine ⟨_, upd_same, ?_, ?_⟩
        · rw [List.length_map, List.length_map, List.length_take]
          exact small1000 (by omega)
        · rw [upd_upd, List.take_add_one, hx, Option.toList_some, List.map_append, List.map_append, er]
          rfl
      refine ⟨_, rfl, _, rfl, _, _, rfl, rfl, _, rfl, ite2 (fun e => ?_) (fun e => ?_)⟩
      · have e2 : x.k > 0 := of_decide_eq_true e
        exact ⟨_, rfl, x.k, _, rfl, rfl, wide_mul b1 (by assumption) (by decide) (by decide) (by decide), fun r er => fin r (by unfold mxT; rw [if_pos e2]; exact er)⟩
      · have e2 : ¬ x.k > 0 := fun z => e (decide_eq_true z)
        exact ⟨_, rfl, x.k, _, rfl, rfl, wide_mul b1 (by assumption) (by decide) (by decide) (by decide), fun r er => fin r (by unfold mxT; rw [if_neg e2]; exact er)⟩
    · rintro H2 rfl
      rw [List.take_of_length_le (by omega)]
      exact ⟨D, _, rfl, sql_of upd_same, _, _, rfl, rfl, fun r er => by rw [er]; exact k _ (same_upd nD)⟩
end
end DO

namespace DO
open PySem PySem.Spec PyProof.Rows L2
section
variable {P : Program} {w : World} {K : PySem.W.Frag} {mg : Str → Option Value} {base : Heap}
/-! ### terms as data -/
def tmD (x : Tm) : PyData := .tuple [.str x.nm, .int x.k, .int x.lo, .int x.hi]
def tsD (ts : List Tm) : PyData := .tuple (ts.map tmD)
def NmsOk (ts : List Tm) : Prop := ∀ x ∈ ts, PyData.strOk x.nm = true
theorem dp_tm {H : Hp} {x : Tm} {t : Addr} (h : H t = some (.tup [.str x.nm, .int x.k, .int x.lo, .int x.hi])) : Dp K H (.ref t) (tmD x) := .tup (sql_ofT h) (.cons (.str _) (.cons (.int _) (.cons (.int _) (.cons (.int _) .nil))))
theorem dp_ts {H : Hp} {us : List V} {ts : List Tm} (h : TAll H us ts) : DpAll K H us (ts.map tmD) := by
  induction h with
  | nil => exact .nil
  | cons x t h r ih => exact .cons (dp_tm h) ih
theorem lay_tm {x : Tm} (h : PyData.strOk x.nm = true) : (tmD x).canLay0 = true := by
  unfold tmD
  simp [PyData.canLay0, PyData.canLayAll0, h]
theorem dep_tm (x : Tm) : (tmD x).depth = 1 := by
  unfold tmD
  simp [PyData.depth, PyData.depthAll]
theorem lay_ts : ∀ {ts : List Tm}, NmsOk ts → PyData.canLayAll0 (ts.map tmD) = true
  | [], _ => by simp [PyData.canLayAll0]
  | x :: r, h => by
    rw [List.map_cons, PyData.canLayAll0, lay_ts (ts := r) fun y hy => h y (List.mem_cons_of_mem _ hy), lay_tm (h x List.mem_cons_self)]
    rfl
theorem dep_ts : ∀ ts : List Tm, PyData.depthAll (ts.map tmD) ≤ 1
  | [] => by simp [PyData.depthAll]
  | x :: r => by
    rw [List.map_cons, PyData.depthAll, dep_tm]
    have := dep_ts r
    omega
theorem sh_ts {ts : List Tm} (h : NmsOk ts) : SeqAt.shaped (tsD ts) = true := by
  unfold SeqAt.shaped tsD
  rw [Bool.and_eq_true]
  refine ⟨by rw [PyData.canLay0]; exact lay_ts h, decide_eq_true ?_⟩
  rw [PyData.depth]
  have := dep_ts ts
  omega
theorem sh_tm {x : Tm} (h : PyData.strOk x.nm = true) : SeqAt.shaped (tmD x) = true := by
  unfold SeqAt.shaped
  rw [Bool.and_eq_true]
  refine ⟨lay_tm h, decide_eq_true ?_⟩
  rw [dep_tm]
  decide
theorem eqv_tm (x y : Tm) : PyData.eqv (tmD x) (tmD y) = decide (x = y) := by
  unfold tmD
  rw [PyData.eqv, PyData.eqvAll, PyData.eqvAll, PyData.eqvAll, PyData.eqvAll, PyData.eqvAll, PyData.eqv, PyData.eqv, PyData.eqv, PyData.eqv]
  rw [Bool.eq_iff_iff]
  cases x
  cases y
  simp
theorem eqv_ts : ∀ ts us : List Tm, PyData.eqvAll (ts.map tmD) (us.map tmD) = decide (ts = us)
  | [], [] => by simp [PyData.eqvAll]
  | x :: r, [] => by simp [PyData.eqvAll]
  | [], y :: s => by simp [PyData.eqvAll]
  | x :: r, y :: s => by
    rw [List.map_cons, List.map_cons, PyData.eqvAll, eqv_tm, eqv_ts r s, Bool.eq_iff_iff]
    simp
theorem eqv_tsD (ts us : List Tm) : PyData.eqv (tsD ts) (tsD us) = decide (ts = us) := by
  unfold tsD
  rw [PyData.eqv, eqv_ts]
abbrev sEq : Stmt := inClass sCls 8
theorem scEq : FnScope ["self", "other"] ["self", "other"] (defScope sEq) := ⟨rfl, rfl, rfl, by decide +kernel, rfl, by decide +kernel, by decide +kernel⟩
def spEqF (C : Addr) : Sp := fun vs H Q _ => ∃ (p : Addr) (n : Int) (ts : List Tm) (y : V), vs = [.ref p, y] ∧ FormAt C H p n ts ∧ NmsOk ts ∧ ((∃ q m us, y = .ref q ∧ FormAt C H q m us ∧ NmsOk us ∧ Q (.bl (decide (n = m ∧ ts = us))) H) ∨ ∃ i : Int, y = .int i ∧ Q (.bl false) H)
theorem ok_eq {C : Addr} (T : Frm K mg C) (M : Mf K C "__eq__" "Form.__eq__" sEq ["self", "other"]) (mis : mg "isinstance" = none) : FnOk P w K mg base CX0 1 M.f M.fd ["self", "other"] (spEqF C) := by
  refine M.fn.ok scEq (fun vs H Q E h => ?_) (fun cdv A outer s H vs Q E hr h => ?_)
  · obtain ⟨p, n, ts, y, rfl, _⟩ := h
    rfl
  · obtain ⟨p, n, ts, y, rfl, hp, ho, hy⟩ := h
    obtain ⟨dx, t, us, h1, h2, h3⟩ := id hp
    refine ⟨_, (pss_one (ps_ret (pe_and (pe_callB call_isi (by rfl) mis (by decide +kernel) (pa_cons (pv 1) (pa_cons (pe_glob (v := .ref C) (by rfl) T.mgC rfl) pa_nil))) (pe_and (pe_cmpR op_eq (pe_fld (pv 0) rfl) (pe_fld (pv 1) rfl) (nomark _)) (pe_one (pe_cmpR (op_eqD hr.units) (pe_fld (pv 0) rfl) (pe_fld (pv 1) rfl) (nomark _))))))), ?_⟩
    rcases hy with ⟨q, m, vs, rfl, hq, hv, k⟩ | ⟨i, rfl, k⟩
    · obtain ⟨dx', t', us', h1', h2', h3'⟩ := id hq
      refine ⟨_, rfl, _, _, _, _, true, rfl, .own C, TyX_frm T hq, T.kC, true, rfl, ?_⟩
      refine iteT' rfl ?_
      refine ⟨_, rfl, p, C, dx, _, _, rfl, h1, T.cl, T.nC, ff_c _ _, _, rfl, q, C, dx', _, _, rfl, h1', T.cl, T.nC, ff_c _ _, rfl, _, rfl, ite2 (fun e => ?_) (fun e => ?_)⟩
      · have e1 : n = m := by simpa using e
        refine ⟨_, rfl, p, C, dx, _, _, rfl, h1, T.cl, T.nT, ff_t _ _, _, rfl, q, C, dx', _, _, rfl, h1', T.cl, T.nT, ff_t _ _, tsD ts, tsD vs, .tup (sql_ofT h2) (dp_ts h3), .tup (sql_ofT h2') (dp_ts h3'), sh_ts ho, sh_ts hv, ?_⟩
        rw [eqv_tsD]
        have e2 : decide (ts = vs) = decide (n = m ∧ ts = vs) := by
          rw [Bool.eq_iff_iff]
          simp [e1]
        rw [e2]
        exact k
      · have e1 : ¬ n = m := by simpa using e
        have e2 : decide (n = m ∧ ts = vs) = false := decide_eq_false fun z => e1 z.1
        rw [e2] at k
        exact k
    · refine ⟨_, rfl, _, _, _, _, false, rfl, .own C, .base (.int i), T.kI, false, rfl, ?_⟩
      exact iteF' rfl k
end
end DO

namespace DO
open PySem PySem.Spec PyProof.Rows L2
section
variable {P : Program} {w : World} {K : PySem.W.Frag} {mg : Str → Option Value} {base : Heap}
/-! ### a dict comprehension over any walk -/
theorem dc_it {J : It} {n : Nat} {G : Hp → Prop} {Y : Nat → Hp → V → Hp → Prop} (w : Walk J n G Y) {g : TG} {tt : TT} {tk tv : TE} {vs : List Nat} {σ : L2.St} {H1 : Hp} {D : Addr} {Qd : Hp → Prop} (Pv : Nat → Hp → Prop) (h0 : Pv 0 (upd H1 D (.dK []))) (hG : ∀ i H, i ≤ n → Pv i H → G H)
    (hs : ∀ i x H H', i < n → Pv i H → Y i H x H' → g x (wipe σ vs) H' fun σ2 H2 => wipe σ2 vs = wipe σ vs ∧ tt σ2 H2 fun b H3 =>
      if b = true then tk σ2 H3 fun y H4 => tv σ2 H4 fun z H5 => ∃ kvs k, y = kV k ∧ H5 D = some (.dK kvs) ∧ kvs.length < sizeLine ∧ Pv (i + 1) (upd H5 D (.dK (putK kvs k z))) else Pv (i + 1) H3) (hd : ∀ H, Pv n H → Qd H) :
    ∃ W : Nat → Nat → Hp → Prop, (∃ m, W 0 m (upd H1 D (.dK []))) ∧ ∀ i m H, W i m H →
      (J.stop i H ∧ Qd H) ∨ (J.go i H ∧ ∃ Nx : Hp → Prop, (∀ H', Nx H' → ∃ m', m' < m ∧ W (i + 1) m' H') ∧ ∀ x H', J.yld i H x H' → g x (wipe σ vs) H' fun σ2 H2 => wipe σ2 vs = wipe σ vs ∧ tt σ2 H2 fun b H3 =>
        if b = true then tk σ2 H3 fun y H4 => tv σ2 H4 fun z H5 => ∃ kvs k, y = kV k ∧ H5 D = some (.dK kvs) ∧ kvs.length < sizeLine ∧ Nx (upd H5 D (.dK (putK kvs k z))) else Nx H3) := by
  refine ⟨fun i m H => m = n - i ∧ i ≤ n ∧ Pv i H, ⟨n, by simp, Nat.zero_le _, h0⟩, fun i m H hW => ?_⟩
  obtain ⟨rfl, hi, p⟩ := hW
  have gh := hG i H hi p
  rcases Nat.lt_or_ge i n with hlt | hge
  · exact .inr ⟨w.goes i H hlt gh, Pv (i + 1), fun H' p' => ⟨n - (i + 1), by omega, rfl, hlt, p'⟩, fun x H' y => hs i x H H' hlt p (w.yields i H x H' hlt gh y)⟩
  · have e : i = n := by omega
    subst e
    exact .inl ⟨w.stops H gh, hd H p⟩
section
variable {X : Cx}
theorem swD_true {kx vx : Expr} {gs : List Comprehension} {scope : Scope} {pos py : Pos} {y : Str} {l : Nat} {env : Env} (hk : env.scope.kind = .function) (hy : env.scope.names.lookup y = some .local) (hl : (py.line == pos.line) = true)
    (ha : (scope.names.any fun (n, k) => n == y && (k == .local || k == .cell)) = false) : swapsWith (.DictComp kx vx gs scope pos) (some (.Name y py)) l env = pure true := by
  have h1 : env.kindOf y = some .local := hy
  have h2 : env.blockKind = .function := by
    unfold Env.blockKind
    rw [hk]
    rfl
  unfold swapsWith
  simp only [h2, h1, ha, Expr.pos, hl]
  rfl
/-- name = {..} on one line, the name a local -/
theorem ps_setDc {i : Nat} {y : Str} {py : Pos} {kx vx tg iter : Expr} {ifs : List Expr} {scope : Scope} {own : List (Str × Nat)} {pos spos : Pos} {wi : TI} {g : TG} {tt : TT} {tk tv : TE} (hc : X.calm = true) (hN : X.N.Nodup) (hy : X.N[i]? = some y) (hyl : X.env.scope.names.lookup y = some .local)
    (hsw : swapsWith (.DictComp kx vx [⟨tg, iter, ifs, 0⟩] scope pos) (some (.Name y py)) spos.line X.env = pure true) (hi : PI X tg iter wi) (ok : BlkOk X.N X.env.scope scope own)
    (hg : ∀ (s : Shared) (H : Hp) (C : Addr) (cl : List (Str × Addr)) (fp : List Addr), PG (X.blk s H scope (compEnvC scope cl C X.env) fp) tg g) (ht : ∀ (s : Shared) (H : Hp) (C : Addr) (cl : List (Str × Addr)) (fp : List Addr), PTs (X.blk s H scope (compEnvC scope cl C X.env) fp) ifs tt)
    (hk : ∀ (s : Shared) (H : Hp) (C : Addr) (cl : List (Str × Addr)) (fp : List Addr), PE (X.blk s H scope (compEnvC scope cl C X.env) fp) kx tk) (hv : ∀ (s : Shared) (H : Hp) (C : Addr) (cl : List (Str × Addr)) (fp : List Addr), PE (X.blk s H scope (compEnvC scope cl C X.env) fp) vx tv)
    (hs : ∀ x, foldedSetIterable iter X.env x = pure x := by intro _; rfl) : PS X (.Assign [.Name y py] (.DictComp kx vx [⟨tg, iter, ifs, 0⟩] scope pos) spos) (tAsg (tDc wi g tt tk tv (own.map (·.2))) (gName i)) := by
  refine ⟨fun pins s σ H D I h => ?_⟩
  rw [exec_Assign_Name_used _ _ _ _ hsw]
  refine wpAny_bind (wpAny_standAt (wpAny_bind ?_))
  show wpAny _ X.A (do let _ ← comprehension (.DictComp kx vx [⟨tg, iter, ifs, 0⟩] scope pos) scope X.env (firstIterPos [⟨tg, iter, ifs, 0⟩] pos) newDict false (eval iter X.env) (some (assign (.Name y py) X.env))) _ _ s
  have h : tDc wi g tt tk tv (own.map (·.2)) σ H (fun x H1 => gName i x σ H1 D.nx) := h
  refine wpAny_bind (thn (dc_core (Qf := fun _ s' => SP X pins D .next s') hc hN I hi ok hg ht hk hv hs h fun L C s' m H' I' q hn f => ?_) fun _ s' hq => wpAny_pure (wpAny_pure hq))
  show wpAny _ _ (assign (.Name y py) X.env (.ref L)) _ _ _
  obtain ⟨f0, f1, f2, f3, f4, f5⟩ := f
  refine wpAny_assign_Name (store_ok2 (v := V.ref L) I' hN hy (.inl hyl) rfl (fun s2 I2 ⟨a, sb, ha⟩ => ?_) (.inr hyl))
  have hCa : C ≠ a := ha.elim (fun z => by rw [z]; exact f1) fun z e => f4 y a z e.symm
  exact ⟨m, hn.sameBut sb hCa, fun h3 sb3 => ⟨_, H', I2.turned (t' := s2.toks) (fun b o hb e => (sb3.2 b hb).trans e) f0 f1 f3 f4 f5, q⟩⟩
end
end
end DO

namespace DO
open PySem PySem.Spec PyProof.Rows L2
/-! ### raised where nothing is handled: the context of what is raised is None -/
section
variable {X : Cx}
/-- an own class with a text of its own for __init__, made and told with its context -/
theorem pmk_oexN {CX : CXT} {x : Str} {e : Expr} {es : List Expr} {ta : TA} {p pos : Pos} {C fI : Addr} {k : Nat} {fd : FuncData} {ps : List Str} {sp : Sp} {ds : List Value} {dvs : List V} (T : OexC X.K C) (iC : PySem.W.findIn X.K (.ref C) "__init__" = some (some (.ref fI)))
    (tI : PySem.W.typeIn X.K (.ref fI) = some (.type "function")) (F1 : FnOk X.prog X.w X.K X.mg X.base CX k fI fd ps sp) (hr : Room (k + 1) X.A) (hb : Binds X.K fd ps ds) (hd : Vals dvs ds) (hx : Passes CX X (fun _ _ _ => False)) (hg : Gl X x)
    (hm : X.mg x = some (.ref C)) (ha : PA X (e :: es) ta) (hdb : (x == ("__debug__" : Str)) = false := by decide) (he : starEach (e :: es) X.env = (false, eval e X.env) :: starEach es X.env := by rfl)
    (hpl : (backTo pos (starEach es X.env)).any (·.1) = false := by rfl) : L2N.PMk X (.Call (.Name x p) (e :: es) [] pos) (tMkO C sp dvs ta) := by
  intro pins s σ H Q I h
  obtain ⟨nm, q, N, bs, bm, sn, sub, ab, col, dd, k0, k1, k2, k3, k5, hC, hbm⟩ := T.cls
  refine wpAny_Call_Name_kw (ld_glob I hg hm ?_ hdb)
  refine PySem.W.callWith_K (h₀ := X.base) I.ok.mod.kin T.kC (wpAny_mono (ha.run pos pins s σ H _ I h) (fun us s1 z => ?_) fun _ _ z => z) he hpl
  obtain ⟨vs, H1, I1, r1, hz, q1⟩ := z
  refine ⟨I1.kIn, ?_⟩
  show wpAny _ _ (call (.ref C) us) _ _ _
  obtain ⟨hp, g, dr, tk, os⟩ := s1
  generalize ea : hp.objs.size + 1 = a
  have sz : hp.objs.size ≤ a := by omega
  have old : ∀ b o, hp.get? b = some o → ((hp.push (PySem.W.kdv_tup us)).push (PySem.HandSPX.excO C hp.objs.size)).get? b = some o := fun b o z => Heap.get?_push_of_some _ (Heap.get?_push_of_some _ z)
  have new : ((hp.push (PySem.W.kdv_tup us)).push (PySem.HandSPX.excO C hp.objs.size)).get? a = some (PySem.HandSPX.excO C hp.objs.size) := by
    subst ea
    heap_get
  have J : Inv X pins σ (upd H1 a (exo a C none)) ⟨(hp.push (PySem.W.kdv_tup us)).push (PySem.HandSPX.excO C hp.objs.size), g, dr, tk, os⟩ := I1.laid old sz (exo_ok new)
  have hq := q1 a (I1.hok.fresh sz)
  have rs : Vals (V.ref a :: (vs ++ dvs)) (Value.ref a :: (us ++ ds)) := .cons rfl (r1.append hd)
  have ln : (Value.ref a :: us ++ ds).length = ps.length := by
    have z := rs.length
    rw [F1.len _ _ _ _ hq] at z
    exact z.symm
  have lu : us.length ≤ sizeLine := by
    rw [← Paired.length r1, sizeLine_eq]
    omega
  have bd := hb _ (Value.ref a :: us) J.kIn ln
  have go := F1.run _ X.stack _ _ ⟨Value.ref a :: us, []⟩ (Value.ref a :: (us ++ ds)) _ _ (fun _ _ _ => False) (hr.make C us []) (J.env0.make C us []) bd rs hq
  subst ea
  refine wpAny_call (PySem.HandSPX.call_own F.excBase_ValueError (fun Y => PySem.HandSPX.refsVE_contains Y bm hbm) (I1.kIn _ _ hC) (PySem.W.looks_findIn I1.kIn iC) (fun self => PySem.W.bind_fn I1.kIn self tI) lu (codeAny_mono go fun r s' z => ?_))
  rcases r with er | fl
  · exact hx pins σ _ _ er s' J z
  cases fl with
  | next => exact False.elim z
  | brk => exact False.elim z
  | cont => exact False.elim z
  | ret u =>
    obtain ⟨v, H2, o2, b2, u2, h2, rv, ev, d, fs, xa, xd, nd, q2⟩ := z
    subst ev
    obtain ⟨hp2, g2, dr2, tk2, os2⟩ := s'
    obtain ⟨t0, G, J2, kG, nG, oG, na⟩ := mk_end0 (d2 := dr2) (t2 := tk2) I1 sz old u2 h2 o2 b2 xa xd nd
    refine ⟨rv, _, _, _, ⟨G, g2, dr2, tk2, os2⟩, _, .ref C, some d, rfl, J2, kG, nG, oG, ⟨rfl, rfl, fun ws hw => ?_⟩, rfl, rfl, na, rfl, b2, raises_own T.exC T.tyC, q2⟩
    cases hw
    rfl
end
section
variable {P : Program} {w : World} {K : PySem.W.Frag} {mg : Str → Option Value} {base : Heap}
/-- a def that may raise, what it raises having no context -/
theorem okN {x qual : Str} {st : Stmt} {f : Addr} {fd : FuncData} {N ps : List Str} {k : Nat} {sp : Sp} (F : Fun K x qual st f fd) (S : FnScope N ps (defScope st)) (len : ∀ vs H Q E, sp vs H Q E → vs.length = ps.length)
    (hbody : ∀ (cdv : Value) (A : Around) (outer : List Env) (s : Shared) (H : Hp) (vs : List V) (Q : VK) (E : XK), Room k (A.deeper (envOfC qual (defScope st) s.heap.objs.size f cdv)) → sp vs H Q E →
      ∃ t, PSs (cxOf (L2N.CX P w) P w K mg base N qual (defScope st) f cdv A outer s H E) (defBody st) t ∧ t { nx := fun _ H' => Q .non H', rt := Q } (L2.start N vs) H) : FnOk P w K mg base (L2N.CX P w) (k + 1) f fd ps sp := by
  obtain ⟨oc, od, kV, doc, pm, an, cdv, ct, osl, rfl, lk, hcd⟩ := F.ex
  exact fn_of lk hcd S len fun A outer s H vs Q E hr hsp => hbody cdv A outer s H vs Q E hr hsp
/-- a def that is called in an except suite -/
theorem okH {x qual : Str} {st : Stmt} {f : Addr} {fd : FuncData} {N ps : List Str} {k : Nat} {sp : Sp} (F : Fun K x qual st f fd) (S : FnScope N ps (defScope st)) (len : ∀ vs H Q E, sp vs H Q E → vs.length = ps.length)
    (hbody : ∀ (cdv : Value) (A : Around) (outer : List Env) (s : Shared) (H : Hp) (vs : List V) (Q : VK) (E : XK) (p : Addr × Obj), L2H.Hot1 A p → L2H.RoomH k (A.deeper (envOfC qual (defScope st) s.heap.objs.size f cdv)) → sp vs H Q E →
      ∃ t, PSs (L2H.cxH CX0 P w K mg base N qual (defScope st) f cdv A outer s H E p) (defBody st) t ∧ t { nx := fun _ H' => Q .non H', rt := Q } (L2.start N vs) H) : L2H.FnH P w K mg base CX0 (k + 1) f fd ps sp := by
  obtain ⟨oc, od, kV, doc, pm, an, cdv, ct, osl, rfl, lk, hcd⟩ := F.ex
  exact L2H.fn_ofH lk hcd S len fun A outer s H vs Q E p hot hr hsp => hbody cdv A outer s H vs Q E p hot hr hsp
end
end DO

namespace DO
open PySem PySem.Spec PyProof.Rows L2
section
variable {P : Program} {w : World} {K : PySem.W.Frag} {mg : Str → Option Value} {base : Heap}
/-! ### the errors: their __init__ -/
/-- an error that keeps one thing -/
def spX1 (K : PySem.W.Frag) (f : Str) : Sp := fun vs H Q _ => ∃ (a C : Addr) (y : V), vs = [.ref a, y] ∧ OexC K C ∧ PySem.W.findIn K (.ref C) f = some none ∧ H a = some (exo a C none) ∧ ∀ dx, H dx = none → dx ≠ a → Q .non (upd (upd H dx (exd dx [(f, y)])) a (exo a C (some dx)))
abbrev sXBadName : Stmt := inClass (top 2) 0
theorem scXBadName : FnScope ["self", "name"] ["self", "name"] (defScope sXBadName) := ⟨rfl, rfl, rfl, by decide +kernel, rfl, by decide +kernel, by decide +kernel⟩
theorem okX_BadName {f : Addr} {fd : FuncData} (F : Fun K "__init__" "BadName.__init__" sXBadName f fd) : FnOk P w K mg base CX0 1 f fd ["self", "name"] (spX1 K "name") := by
  refine F.ok scXBadName (fun vs H Q E h => ?_) (fun cdv A outer s H vs Q E hr h => ?_)
  · obtain ⟨a, C, y, rfl, _⟩ := h
    rfl
  · obtain ⟨a, C, y, rfl, T, hno, ha, k⟩ := h
    refine ⟨_, pss_one (ps_ost (pv 0) (pv 1)), ?_⟩
    exact ⟨_, rfl, _, rfl, a, C, rfl, T, hno, .inl ⟨ha, fun dx n ne => k dx n ne⟩⟩
abbrev sXUnknownName : Stmt := inClass (top 3) 0
theorem scXUnknownName : FnScope ["self", "name"] ["self", "name"] (defScope sXUnknownName) := ⟨rfl, rfl, rfl, by decide +kernel, rfl, by decide +kernel, by decide +kernel⟩
theorem okX_UnknownName {f : Addr} {fd : FuncData} (F : Fun K "__init__" "UnknownName.__init__" sXUnknownName f fd) : FnOk P w K mg base CX0 1 f fd ["self", "name"] (spX1 K "name") := by
  refine F.ok scXUnknownName (fun vs H Q E h => ?_) (fun cdv A outer s H vs Q E hr h => ?_)
  · obtain ⟨a, C, y, rfl, _⟩ := h
    rfl
  · obtain ⟨a, C, y, rfl, T, hno, ha, k⟩ := h
    refine ⟨_, pss_one (ps_ost (pv 0) (pv 1)), ?_⟩
    exact ⟨_, rfl, _, rfl, a, C, rfl, T, hno, .inl ⟨ha, fun dx n ne => k dx n ne⟩⟩
abbrev sXUnlikeEnds : Stmt := inClass (top 4) 0
theorem scXUnlikeEnds : FnScope ["self", "name"] ["self", "name"] (defScope sXUnlikeEnds) := ⟨rfl, rfl, rfl, by decide +kernel, rfl, by decide +kernel, by decide +kernel⟩
theorem okX_UnlikeEnds {f : Addr} {fd : FuncData} (F : Fun K "__init__" "UnlikeEnds.__init__" sXUnlikeEnds f fd) : FnOk P w K mg base CX0 1 f fd ["self", "name"] (spX1 K "name") := by
  refine F.ok scXUnlikeEnds (fun vs H Q E h => ?_) (fun cdv A outer s H vs Q E hr h => ?_)
  · obtain ⟨a, C, y, rfl, _⟩ := h
    rfl
  · obtain ⟨a, C, y, rfl, T, hno, ha, k⟩ := h
    refine ⟨_, pss_one (ps_ost (pv 0) (pv 1)), ?_⟩
    exact ⟨_, rfl, _, rfl, a, C, rfl, T, hno, .inl ⟨ha, fun dx n ne => k dx n ne⟩⟩
def spX2 (K : PySem.W.Frag) (f g : Str) : Sp := fun vs H Q _ => ∃ (a C : Addr) (y z : V), vs = [.ref a, y, z] ∧ OexC K C ∧ PySem.W.findIn K (.ref C) f = some none ∧ PySem.W.findIn K (.ref C) g = some none ∧ H a = some (exo a C none) ∧
  ∀ dx, H dx = none → dx ≠ a → Q .non (upd (upd (upd H dx (exd dx [(f, y)])) a (exo a C (some dx))) dx (exd dx [(g, z), (f, y)]))
abbrev sXBadEnds : Stmt := inClass (top 5) 0
theorem scXBadEnds : FnScope ["self", "low", "high"] ["self", "low", "high"] (defScope sXBadEnds) := ⟨rfl, rfl, rfl, by decide +kernel, rfl, by decide +kernel, by decide +kernel⟩
theorem okX_BadEnds {f : Addr} {fd : FuncData} (F : Fun K "__init__" "BadEnds.__init__" sXBadEnds f fd) : FnOk P w K mg base CX0 1 f fd ["self", "low", "high"] (spX2 K "low" "high") := by
  refine F.ok scXBadEnds (fun vs H Q E h => ?_) (fun cdv A outer s H vs Q E hr h => ?_)
  · obtain ⟨a, C, y, z, rfl, _⟩ := h
    rfl
  · obtain ⟨a, C, y, z, rfl, T, h1, h2, ha, k⟩ := h
    refine ⟨_, pss_cons (ps_ost (pv 0) (pv 1)) (pss_one (ps_ost (pv 0) (pv 2))), ?_⟩
    exact ⟨_, rfl, _, rfl, a, C, rfl, T, h1, .inl ⟨ha, fun dx n ne => ⟨_, rfl, _, rfl, a, C, rfl, T, h2, .inr ⟨dx, _, upd_same, (by rw [upd_ne ne]; exact upd_same), (by show 1 ≤ 900; decide), k dx n ne⟩⟩⟩⟩
/-- an error class of the text -/
structure Xc (K : PySem.W.Frag) (mg : Str → Option Value) (x qual : Str) (st : Stmt) (fs : List Str) (ps : List Str) where
  C : Addr
  f : Addr
  fd : FuncData
  gC : mg x = some (.ref C)
  ox : OexC K C
  iC : PySem.W.findIn K (.ref C) "__init__" = some (some (.ref f))
  tI : PySem.W.typeIn K (.ref f) = some (.type "function")
  fn : Fun K "__init__" qual st f fd
  bd : Binds K fd ps []
  no : ∀ g ∈ fs, PySem.W.findIn K (.ref C) g = some none
/-- what a raised error leaves: its dict at d -/
def Thrown (E : XK) (C : Addr) (H : Hp) (fs : List (Str × V)) : Prop := ∀ d H', H d = none → Same H H' → H' d = some (.xd fs) → E (.ref C) (some d) H'
theorem thrown_at {E : XK} {C : Addr} {H : Hp} {fs : List (Str × V)} (t : Thrown E C H fs) {a d : Addr} {H2 : Hp} (na : H a = none) (nd : H d = none) (k : ∀ b o, H b = some o → H2 b = some o) : E (.ref C) (some d) (upd (del H2 a) d (.xd fs)) :=
  t d _ nd (fun b o e => by rw [upd_ne (ne_of_none e nd), del_ne (ne_of_none e na)]; exact k b o e) upd_same
theorem Thrown.same {E : XK} {C : Addr} {H H' : Hp} {fs : List (Str × V)} (t : Thrown E C H fs) (k : Same H H') : Thrown E C H' fs := fun d H2 nd s e => t d H2 (k.free nd) (k.trans s) e
theorem read1 {C : Addr} {f : Str} {y : V} {H1 : Hp} {E : XK} (T : OexC K C) (no : PySem.W.findIn K (.ref C) f = some none) (t : Thrown E C H1 [(f, y)]) : [y].length ≤ 1000 ∧ ∀ a, H1 a = none → spX1 K f (.ref a :: ([y] ++ [])) (upd H1 a (exo a C none))
    (fun v H2 => v = .non ∧ ∃ (d : Addr) (fs : List (Str × V)), H2 a = some (exo a C (some d)) ∧ H2 d = some (exd d fs) ∧ H1 d = none ∧ E (.ref C) (some d) (upd (del H2 a) d (.xd fs))) (fun _ _ _ => False) := by
  refine ⟨(by show 1 ≤ 1000; decide), fun a na => ⟨a, C, y, rfl, T, no, upd_same, fun dx nd ne => ⟨rfl, dx, [(f, y)], upd_same, ?_, ?_, ?_⟩⟩⟩
  · rw [upd_ne ne, upd_same]
  · rw [upd_ne ne] at nd
    exact nd
  · rw [upd_ne ne] at nd
    refine thrown_at t na nd fun b o e => ?_
    rw [upd_ne (ne_of_none e na), upd_ne (ne_of_none e nd), upd_ne (ne_of_none e na)]
    exact e
theorem read2 {C : Addr} {f g : Str} {y z : V} {H1 : Hp} {E : XK} (T : OexC K C) (no : PySem.W.findIn K (.ref C) f = some none) (no2 : PySem.W.findIn K (.ref C) g = some none) (t : Thrown E C H1 [(g, z), (f, y)]) : [y, z].length ≤ 1000 ∧ ∀ a, H1 a = none → spX2 K f g (.ref a :: ([y, z] ++ [])) (upd H1 a (exo a C none))
    (fun v H2 => v = .non ∧ ∃ (d : Addr) (fs : List (Str × V)), H2 a = some (exo a C (some d)) ∧ H2 d = some (exd d fs) ∧ H1 d = none ∧ E (.ref C) (some d) (upd (del H2 a) d (.xd fs))) (fun _ _ _ => False) := by
  refine ⟨(by show 2 ≤ 1000; decide), fun a na => ⟨a, C, y, z, rfl, T, no, no2, upd_same, fun dx nd ne => ⟨rfl, dx, [(g, z), (f, y)], ?_, upd_same, ?_, ?_⟩⟩⟩
  · rw [upd_ne ne.symm, upd_same]
  · rw [upd_ne ne] at nd
    exact nd
  · rw [upd_ne ne] at nd
    refine thrown_at t na nd fun b o e => ?_
    rw [upd_ne (ne_of_none e nd), upd_ne (ne_of_none e na), upd_ne (ne_of_none e nd), upd_ne (ne_of_none e na)]
    exact e
/-! ### the ends of two forms -/
abbrev sChk : Stmt := top 18
theorem scChk : FnScope ["first", "second", "ends", "name", "times", "low", "high"] ["first", "second"] (defScope sChk) := ⟨rfl, rfl, rfl, by decide +kernel, rfl, by decide +kernel, by decide +kernel⟩
/-- a dict of ends: what the last of a name's terms says -/
def ER (H : Hp) (kvs : List (Key × V)) (M : List Tm) : Prop := kvs.length = M.length ∧ ∀ w, (getT M w = none ∧ valV kvs (Sum.inr w : Key) = none) ∨ ∃ x q, getT M w = some x ∧ valV kvs (Sum.inr w : Key) = some (.ref q) ∧ H q = some (.tup [.int x.lo, .int x.hi])
theorem ER.any {H : Hp} {kvs : List (Key × V)} {M : List Tm} (h : ER H kvs M) (w : Str) : (kvs.any fun kv => decide (kv.1 = (Sum.inr w : Key))) = M.any fun y => decide (y.nm = w) := by
  rw [valV_any, Bool.eq_iff_iff, anyT]
  obtain ⟨h1, h2⟩ | ⟨x, q, h1, h2, _⟩ := h.2 w
  · rw [h2]
    exact ⟨fun z => (by cases z), fun z => absurd z (getT_none.mp h1)⟩
  · rw [h2]
    refine ⟨fun _ => ?_, fun _ => rfl⟩
    refine Classical.byContradiction fun z => ?_
    rw [getT_none.mpr z] at h1
    cases h1
theorem ER.put {H : Hp} {kvs : List (Key × V)} {M : List Tm} (h : ER H kvs M) {x : Tm} {q : Addr} (hq : H q = some (.tup [.int x.lo, .int x.hi])) : ER H (putK kvs (Sum.inr x.nm) (.ref q)) (putT M x) := by
  refine ⟨?_, fun w => ?_⟩
  · unfold putK putT
    rw [h.any]
    split
    · rw [List.length_map, List.length_map, h.1]
    · rw [List.length_append, List.length_append, h.1]
      rfl
  · rw [valV_put, getT_put]
    by_cases e : w = x.nm
    · rw [if_pos e, if_pos (congrArg Sum.inr e)]
      exact .inr ⟨x, q, rfl, rfl, hq⟩
    · rw [if_neg e, if_neg fun z => e (Sum.inr.inj z)]
      exact h.2 w
theorem ER.mono {H H' : Hp} {kvs : List (Key × V)} {M : List Tm} (h : ER H kvs M) (k : ∀ t xs, H t = some (.tup xs) → H' t = some (.tup xs)) : ER H' kvs M :=
  ⟨h.1, fun w => (h.2 w).imp id fun ⟨x, q, h1, h2, h3⟩ => ⟨x, q, h1, h2, k _ _ h3⟩⟩
theorem ER.nil {H : Hp} : ER H [] [] := ⟨rfl, fun _ => .inl ⟨rfl, rfl⟩⟩
def foldT (ts : List Tm) : List Tm := ts.foldl putT []
theorem foldT_snoc (ts : List Tm) (x : Tm) : foldT (ts ++ [x]) = putT (foldT ts) x := by
  unfold foldT
  rw [List.foldl_append]
  rfl
theorem foldT_len (ts : List Tm) : (foldT ts).length ≤ ts.length := by
  have h : ∀ (l M : List Tm), (l.foldl putT M).length ≤ M.length + l.length := fun l => by
    induction l with
    | nil => intro M; simp
    | cons x r ih =>
      intro M
      have := ih (putT M x)
      have := @putT_len M x
      rw [List.foldl_cons, List.length_cons]
      omega
  have := h ts []
  simpa [foldT] using this
theorem foldT_self {ts : List Tm} (h : (nms ts).Nodup) : foldT ts = ts := by
  have key : ∀ l M : List Tm, (nms (M ++ l)).Nodup → l.foldl putT M = M ++ l := fun l => by
    induction l with
    | nil => intro M _; simp
    | cons x r ih =>
      intro M hn
      have hx : ¬ x.nm ∈ nms M := fun hm => by
        unfold nms at hn hm
        rw [List.map_append, List.nodup_append] at hn
        exact hn.2.2 _ hm _ (by rw [List.map_cons]; exact List.mem_cons_self) rfl
      have e : putT M x = M ++ [x] := by
        unfold putT
        rw [if_neg fun z => hx (anyT.mp z)]
      rw [List.foldl_cons, e, ih (M ++ [x]) (by rw [List.append_assoc]; exact hn), List.append_assoc]
      rfl
  exact key ts [] h
def enD (lo hi : Int) : PyData := .tuple [.int lo, .int hi]
theorem dp_en {H : Hp} {q : Addr} {lo hi : Int} (h : H q = some (.tup [.int lo, .int hi])) : Dp K H (.ref q) (enD lo hi) := .tup (sql_ofT h) (.cons (.int _) (.cons (.int _) .nil))
theorem sh_en (lo hi : Int) : SeqAt.shaped (enD lo hi) = true := by
  unfold SeqAt.shaped enD
  simp [PyData.canLay0, PyData.canLayAll0, PyData.depth, PyData.depthAll]
theorem eqv_en (a b c d : Int) : PyData.eqv (enD a b) (enD c d) = decide ((a, b) = (c, d)) := by
  unfold enD
  rw [PyData.eqv, PyData.eqvAll, PyData.eqvAll, PyData.eqvAll, PyData.eqv, PyData.eqv, Bool.eq_iff_iff]
  simp
theorem find_take {α : Type} {p : α → Bool} : ∀ {l : List α} {i : Nat} {x : α}, l[i]? = some x → (l.take i).find? p = none → p x = true → l.find? p = some x
  | [], i, x, h, _, _ => by simp at h
  | y :: r, 0, x, h, _, hp => by
    obtain rfl : y = x := Option.some.inj h
    rw [List.find?_cons, hp]
  | y :: r, i + 1, x, h, hn, hp => by
    rw [List.take_succ_cons, List.find?_cons] at hn
    cases e : p y with
    | true =>
      rw [e] at hn
      cases hn
    | false =>
      rw [e] at hn
      rw [List.find?_cons, e]
      exact find_take (by simpa using h) hn hp
theorem find_snoc {α : Type} {p : α → Bool} {l : List α} {i : Nat} {x : α} (h : l[i]? = some x) (hn : (l.take i).find? p = none) (hp : p x = false) : (l.take (i + 1)).find? p = none := by
  rw [List.take_add_one, h, Option.toList_some, List.find?_append, hn]
  simp [hp]
/-- the first name, in the order of us, whose ends differ -/
def unl (ts us : List Tm) : Option Str := (us.find? fun u => (getT ts u.nm).any fun t => decide ((t.lo, t.hi) ≠ (u.lo, u.hi))).map (·.nm)
def spChk (CU : Addr) : Sp := fun vs H Q E => ∃ (a b : Addr) (us ws : List V) (ts vs' : List Tm), vs = [.ref a, .ref b] ∧ H a = some (.tup us) ∧ TAll H us ts ∧ H b = some (.tup ws) ∧ TAll H ws vs' ∧ ts.length ≤ 900 ∧ (nms ts).Nodup ∧ NmsOk ts ∧ NmsOk vs' ∧
  (∀ w, unl ts vs' = some w → Thrown E CU H [("name", .str w)]) ∧ (unl ts vs' = none → ∀ H', Same H H' → Q .non H')
theorem ok_chk (D : Df K mg "_check_ends" sChk ["first", "second"]) (XU : Xc K mg "UnlikeEnds" "UnlikeEnds.__init__" sXUnlikeEnds ["name"] ["self", "name"]) : FnOk P w K mg base (L2N.CX P w) 4 D.f D.fd ["first", "second"] (spChk XU.C) := by
  have F1 : FnOk P w K mg base CX0 1 XU.f XU.fd ["self", "name"] (spX1 K "name") := okX_UnlikeEnds XU.fn
  refine okN D.fn scChk (fun vs H Q E h => ?_) (fun cdv A outer s H vs Q E hr h => ?_)
  · obtain ⟨a, b, us, ws, ts, vs', rfl, _⟩ := h
    rfl
  · obtain ⟨a, b, us, ws, ts, vs', rfl, ha, hA, hb, hB, hsz, hnd, ho1, ho2, kx, k⟩ := h
    have hu := hu_of hr
    have hr2 : Room (1 + 1) _ := hr.mono (by decide)
    refine ⟨_, (pss_cons (ps_setDc (i := 2) (own := [("name", 3), ("times", 4), ("low", 5), ("high", 6)]) (g := (gTup K 4 (gCons (gName 3) (gCons (gName 4) (gCons (gName 5) (gCons (gName 6) gNil)))))) (tt := tYes) rfl scChk.nd rfl rfl (swD_true rfl rfl rfl (by decide +kernel)) (pi_tup (pv 0)) (blkOk_by (N := ["first", "second", "ends", "name", "times", "low", "high"]) (sc := defScope sChk) (by decide +kernel)) (fun _ _ _ _ _ => (pg_tup rfl (pgs_cons (pg_name (i := 3) scChk.nd rfl (Or.inl rfl)) (pgs_cons (pg_name (i := 4) scChk.nd rfl (Or.inl rfl)) (pgs_cons (pg_name (i := 5) scChk.nd rfl (Or.inl rfl)) (pgs_cons (pg_name (i := 6) scChk.nd rfl (Or.inl rfl)) pgs_nil)))))) (fun _ _ _ _ _ => pts_nil) (fun _ _ _ _ _ => (pv 3)) (fun _ _ _ _ _ => (pe_tup (pa_cons (pv 5) (pa_cons (pv 6) pa_nil)))))
      (pss_one (ps_for (passes_of rfl) rfl (pi_tup (pv 1)) (pg_tup rfl (pgs_cons (pg_name (i := 3) scChk.nd rfl (Or.inl rfl)) (pgs_cons (pg_name (i := 4) scChk.nd rfl (Or.inl rfl)) (pgs_cons (pg_name (i := 5) scChk.nd rfl (Or.inl rfl)) (pgs_cons (pg_name (i := 6) scChk.nd rfl (Or.inl rfl)) pgs_nil)))))
      (pss_one (ps_if (PW.pt (pw_and (pt_cmp (pc_din hu (pv 3) (pv 2))) (pw_and1 (pt_cmpR (op_neD hr.units) (pe_dget hu (pv 2) (pv 3) (fun _ _ => rfl)) (pe_tup (pa_cons (pv 5) (pa_cons (pv 6) pa_nil))) (nomark _)))))
      (pss_one (L2N.ps_raise rfl (L2N.takes_of rfl rfl rfl rfl) (pmk_oexN (CX := CX0) XU.ox XU.iC XU.tI F1 hr2 XU.bd .nil (fun _ _ _ _ _ _ _ h => h.elim) (by rfl) XU.gC (pa_cons (pv 3) pa_nil))))
      pss_nil))))), ?_⟩
    have hAl := hA.len
    have hBl := hB.len
    refine ⟨_, rfl, a, rfl, ⟨us, sql_ofT ha⟩, fun D nD => dc_it (walk_tup (K := K) (a := a) (xs := us)) (fun i H2 => ∃ kvs, H2 D = some (.dK kvs) ∧ ER H2 kvs (foldT (ts.take i)) ∧ Same H H2) ⟨[], upd_same, .nil, same_upd nD⟩ (fun i H2 _ ⟨_, _, _, z⟩ => sql_ofT (z _ _ ha)) ?_ ?_⟩
    · rintro i y H2 H3 hi ⟨kvs, hD, hE, sm⟩ ⟨rfl, hy⟩
      obtain ⟨x, q, hx, rfl, hq⟩ := hA.at_ hy
      refine ⟨q, _, rfl, sql_ofT (sm _ _ hq), rfl, _, _, rfl, _, _, rfl, _, _, rfl, _, _, rfl, rfl, rfl, ?_⟩
      refine ⟨_, rfl, _, rfl, _, rfl, (by show 2 ≤ sizeLine; decide), fun z nz => ?_⟩
      have sz := same_upd (o := .tup [V.int x.lo, V.int x.hi]) nz
      have hDz := sz _ _ hD
      have nzD : z ≠ D := (ne_of_none hD nz).symm
      refine ⟨kvs, Sum.inr x.nm, rfl, hDz, ?_, _, upd_same, ?_, ?_⟩
      · rw [hE.1]
        refine small1000 (Nat.le_trans (foldT_len _) ?_)
        rw [List.length_take]
        omega
      · rw [List.take_add_one, hx, Option.toList_some, foldT_snoc]
        refine ((hE.mono fun t xs w => sz _ _ w).put (x := x) (q := z) upd_same).mono fun t xs w => ?_
        rw [upd_ne (ne_of w hDz fun v => nomatch v)]
        exact w
      · intro b' o eb
        rw [upd_ne (ne_of_none eb nD)]
        exact sz _ _ (sm _ _ eb)
    rintro H2 ⟨kvs, hD, hE, sm⟩
    rw [List.take_of_length_le (by omega), foldT_self hnd] at hE
    refine ⟨_, rfl, b, rfl, ⟨ws, sql_ofT (sm _ _ hb)⟩, for_tup (K := K) (a := b) (xs := ws) (fun i σ H3 => ∃ x3 x4 x5 x6, σ = [some (.ref a), some (.ref b), some (.ref D), x3, x4, x5, x6] ∧ Same H2 H3 ∧ (vs'.take i).find? (fun u => (getT ts u.nm).any fun t => decide ((t.lo, t.hi) ≠ (u.lo, u.hi))) = none) ⟨none, none, none, none, rfl, fun _ _ e => e, rfl⟩ (fun i σ H3 _ ⟨_, _, _, _, _, z, _⟩ => sql_ofT (z _ _ (sm _ _ hb))) ?_ ?_⟩
    · rintro i y σ H3 hi ⟨x3, x4, x5, x6, rfl, sm3, hf⟩
      obtain ⟨u, q, hu', rfl, hq⟩ := hB.at_ hi
      refine ⟨q, _, rfl, sql_ofT (sm3 _ _ (sm _ _ hq)), rfl, _, _, rfl, _, _, rfl, _, _, rfl, _, _, rfl, rfl, ?_⟩
      have hE3 := hE.mono (H' := H3) fun t xs w => sm3 _ _ w
      have hD3 := sm3 _ _ hD
      obtain ⟨e1, e2⟩ | ⟨t, qq, e1, e2, e3⟩ := hE3.2 u.nm
      · refine ⟨_, rfl, _, rfl, D, none, rfl, by rw [← e2]; exact DGet.k (k := Sum.inr u.nm) hD3, false, rfl, ?_⟩
        refine iteF' rfl ?_
        exact ⟨_, _, _, _, rfl, sm3, find_snoc hu' hf (by rw [e1]; rfl)⟩
      · refine ⟨_, rfl, _, rfl, D, some (.ref qq), rfl, by rw [← e2]; exact DGet.k (k := Sum.inr u.nm) hD3, true, rfl, ?_⟩
        refine iteT' rfl ?_
        refine ⟨_, rfl, _, rfl, D, .ref qq, rfl, by rw [← e2]; exact DGet.k (k := Sum.inr u.nm) hD3, _, rfl, _, rfl, (by show 2 ≤ sizeLine; decide), fun z nz => ?_⟩
        have sz := same_upd (o := .tup [V.int u.lo, V.int u.hi]) nz
        refine ⟨enD t.lo t.hi, enD u.lo u.hi, dp_en (sz _ _ e3), dp_en upd_same, sh_en _ _, sh_en _ _, _, rfl, ?_⟩
        rw [eqv_en]
        have hp : ((getT ts u.nm).any fun t => decide ((t.lo, t.hi) ≠ (u.lo, u.hi))) = !decide ((t.lo, t.hi) = (u.lo, u.hi)) := by
          rw [e1]
          simp
        refine ite2 (fun e => ?_) (fun e => ?_)
        · have hun : unl ts vs' = some u.nm := by
            unfold unl
            rw [find_take hu' hf (by rw [hp]; exact e)]
            rfl
          exact ⟨_, rfl, read1 XU.ox (XU.no "name" List.mem_cons_self) (((kx _ hun).same sm).same (sm3.trans sz))⟩
        · exact ⟨_, _, _, _, rfl, sm3.trans sz, find_snoc hu' hf (by rw [hp]; simpa using e)⟩
    · rintro σ H3 ⟨x3, x4, x5, x6, rfl, sm3, hf⟩
      rw [List.take_of_length_le (by omega)] at hf
      refine k ?_ H3 (sm.trans sm3)
      unfold unl
      rw [hf]
      rfl
end
end DO

namespace DO
open PySem PySem.Spec PyProof.Rows L2
section
variable {P : Program} {w : World} {K : PySem.W.Frag} {mg : Str → Option Value} {base : Heap}
/-! ### the terms of two forms together -/
def kOf (M : List Tm) (w : Str) : Int := match getT M w with
  | some x => x.k
  | none => 0
def addP (M : List Tm) (x : Tm) : List Tm := putT M ⟨x.nm, kOf M x.nm + x.k, x.lo, x.hi⟩
def addF (all : List Tm) : List Tm := all.foldl addP []
def addS (ts us : List Tm) : List Tm := (srt (addF (ts ++ us))).filter fun x => decide (x.k ≠ 0)
theorem addF_snoc (l : List Tm) (x : Tm) : addF (l ++ [x]) = addP (addF l) x := by
  unfold addF
  rw [List.foldl_append]
  rfl
theorem addF_inv (l : List Tm) : (nms (addF l)).Nodup ∧ (addF l).length ≤ l.length := by
  have h : ∀ (l M : List Tm), (nms M).Nodup → (nms (l.foldl addP M)).Nodup ∧ (l.foldl addP M).length ≤ M.length + l.length := fun l => by
    induction l with
    | nil => intro M h; exact ⟨h, by simp⟩
    | cons x r ih =>
      intro M h
      obtain ⟨h1, h2⟩ := ih (addP M x) (putT_nd h)
      have := @putT_len M ⟨x.nm, kOf M x.nm + x.k, x.lo, x.hi⟩
      refine ⟨h1, ?_⟩
      rw [List.foldl_cons, List.length_cons]
      unfold addP at h2 ⊢
      omega
  have := h l [] List.nodup_nil
  simpa [addF] using this
/-- the dict of the sums -/
def SD (M : List Tm) : List (Key × V) := M.map fun x => ((Sum.inr x.nm : Key), V.int x.k)
theorem SD_any (M : List Tm) (w : Str) : ((SD M).any fun kv => decide (kv.1 = (Sum.inr w : Key))) = M.any fun y => decide (y.nm = w) := by
  unfold SD
  rw [List.any_map]
  congr 1
  funext x
  show decide ((Sum.inr x.nm : Key) = Sum.inr w) = _
  by_cases e : x.nm = w
  · rw [decide_eq_true e, decide_eq_true (congrArg Sum.inr e)]
  · rw [decide_eq_false e, decide_eq_false fun z => e (Sum.inr.inj z)]
theorem SD_put (M : List Tm) (x : Tm) : putK (SD M) (Sum.inr x.nm) (.int x.k) = SD (putT M x) := by
  unfold putK putT
  rw [SD_any]
  split
  · unfold SD
    rw [List.map_map, List.map_map]
    apply List.map_congr_left
    intro y _
    show (if (Sum.inr y.nm : Key) = Sum.inr x.nm then _ else _) = _
    by_cases e : y.nm = x.nm
    · simp [e]
    · have h : ¬ (Sum.inr y.nm : Key) = Sum.inr x.nm := fun z => e (Sum.inr.inj z)
      simp [e, h]
  · unfold SD
    rw [List.map_append]
    rfl
theorem SD_get (M : List Tm) (w : Str) : valV (SD M) (Sum.inr w : Key) = (getT M w).map fun x => V.int x.k := by
  unfold valV SD getT
  rw [List.find?_map]
  have e : ((fun kv : Key × V => decide (kv.1 = Sum.inr w)) ∘ fun x : Tm => ((Sum.inr x.nm : Key), V.int x.k)) = fun x => decide (x.nm = w) := by
    funext x
    show decide ((Sum.inr x.nm : Key) = Sum.inr w) = _
    by_cases e : x.nm = w
    · rw [decide_eq_true e, decide_eq_true (congrArg Sum.inr e)]
    · rw [decide_eq_false e, decide_eq_false fun z => e (Sum.inr.inj z)]
  rw [e, Option.map_map]
  rfl
theorem SD_kOf (M : List Tm) (w : Str) : (valV (SD M) (Sum.inr w : Key)).getD (.int 0) = .int (kOf M w) := by
  rw [SD_get]
  unfold kOf
  cases getT M w <;> rfl
theorem SD_len (M : List Tm) : (SD M).length = M.length := by
  unfold SD
  rw [List.length_map]
theorem SD_at {M : List Tm} {i : Nat} {kk : Key} {vv : V} (h : (SD M)[i]? = some (kk, vv)) : ∃ x, M[i]? = some x ∧ kk = Sum.inr x.nm := by
  unfold SD at h
  rw [List.getElem?_map] at h
  cases e : M[i]? with
  | none =>
    rw [e] at h
    cases h
  | some x =>
    rw [e] at h
    exact ⟨x, rfl, (congrArg Prod.fst (Option.some.inj h)).symm⟩
abbrev sAdded : Stmt := top 19
theorem scAdded : FnScope ["first", "second", "sums", "ends", "name", "times", "low", "high", "names", "key"] ["first", "second"] (defScope sAdded) := ⟨rfl, rfl, rfl, by decide +kernel, rfl, by decide +kernel, by decide +kernel⟩
def spAdded : Sp := fun vs H Q _ => ∃ (a b : Addr) (us ws : List V) (ts vs' : List Tm), vs = [.ref a, .ref b] ∧ H a = some (.tup us) ∧ TAll H us ts ∧ H b = some (.tup ws) ∧ TAll H ws vs' ∧ ts.length + vs'.length ≤ 900 ∧
  ∀ l xs H', Same H H' → H l = none → H' l = some (.lst xs) → TAll H' xs (addS ts vs') → Q (.ref l) H'
theorem ok_added (D : Df K mg "_added" sAdded ["first", "second"]) (mso : mg "sorted" = none) (mst : mg "str" = none) : FnOk P w K mg base CX0 1 D.f D.fd ["first", "second"] spAdded := by
  refine D.fn.ok scAdded (fun vs H Q E h => ?_) (fun cdv A outer s H vs Q E hr h => ?_)
  · obtain ⟨a, b, us, ws, ts, vs', rfl, _⟩ := h
    rfl
  · obtain ⟨a, b, us, ws, ts, vs', rfl, ha, hA, hb, hB, hsz, k⟩ := h
    have hu := hu_of hr
    have hu2 : (A.deeper (envOfC "_added" (defScope sAdded) s.heap.objs.size D.f cdv)).units + 2 < cLine := Nat.lt_of_le_of_lt (Nat.add_le_add_left (by decide : 2 ≤ 64) _) hr.units
    refine ⟨_, (pss_cons (ps_set (i := 2) scAdded.nd rfl (.inr rfl) pe_dnewK)
      (pss_cons (ps_set (i := 3) scAdded.nd rfl (.inr rfl) pe_dnewK)
      (pss_cons (ps_for PassesOwn.never rfl (pi_tup (pe_op (show OpR _ _ (rCatA K) from op_catA) (pv 0) (pv 1))) (pg_tup rfl (pgs_cons (pg_name (i := 4) scAdded.nd rfl (Or.inl rfl)) (pgs_cons (pg_name (i := 5) scAdded.nd rfl (Or.inl rfl)) (pgs_cons (pg_name (i := 6) scAdded.nd rfl (Or.inl rfl)) (pgs_cons (pg_name (i := 7) scAdded.nd rfl (Or.inl rfl)) pgs_nil)))))
      (pss_cons (ps_dput hu (pv 2) (pv 4) (pe_op op_addL (pe_dget2 hu (pv 2) (pv 4) pe_int ⟨rfl, rfl, rfl, rfl⟩) (pv 5)) rfl)
      (pss_one (ps_dput hu (pv 3) (pv 4) (pe_tup (pa_cons (pv 6) (pa_cons (pv 7) pa_nil))) rfl))))
      (pss_cons (ps_set (i := 8) scAdded.nd rfl (.inl rfl) (pe_callB (cr_sortedT hu2) (by rfl) mso (by decide +kernel) (pa_cons (pe_lock (pe_lc (own := [("key", 9)]) (g := gName 9) (tt := tYes) rfl scAdded.nd (pi_keys (pv 2)) (blkOk_by (N := ["first", "second", "sums", "ends", "name", "times", "low", "high", "names", "key"]) (sc := defScope sAdded) (by decide +kernel)) (fun _ _ _ _ _ => pg_name (i := 9) scAdded.nd rfl (Or.inl rfl)) (fun _ _ _ _ _ => pts_nil) (fun _ _ _ _ _ => (pe_callTy SkE.call_str_str (by rfl) mst (by decide +kernel) (pa_cons (pv 9) pa_nil))))) pa_nil)))
      (pss_one (ps_ret (pe_lc (own := [("key", 9)]) (g := gName 9) (tt := _) rfl scAdded.nd (pi_list (pv 8)) (blkOk_by (N := ["first", "second", "sums", "ends", "name", "times", "low", "high", "names", "key"]) (sc := defScope sAdded) (by decide +kernel)) (fun _ _ _ _ _ => pg_name (i := 9) scAdded.nd rfl (Or.inl rfl)) (fun _ _ _ _ _ => pts_one (pt_cmpR op_ne (pe_dget hu (pv 2) (pv 9) (fun _ _ => rfl)) pe_int (nomark _))) (fun _ _ _ _ _ => (pe_op (show OpR _ _ (rCatT K) from op_catT) (pe_tup (pa_cons (pv 9) (pa_cons (pe_dget hu (pv 2) (pv 9) (fun _ _ => rfl)) pa_nil))) (pe_dget hu (pv 3) (pv 9) (fun _ _ => rfl))))))))))), ?_⟩
    intro S nS E2 nE
    have s1 := same_upd (o := .dK []) nS
    have s2 := same_upd (o := .dK []) nE
    have nSE : S ≠ E2 := ne_of_none upd_same nE
    have nE0 : H E2 = none := s1.free nE
    have hS0 : (upd (upd H S (.dK [])) E2 (.dK [])) S = some (.dK []) := by rw [upd_ne nSE, upd_same]
    have hE0 : (upd (upd H S (.dK [])) E2 (.dK [])) E2 = some (.dK []) := upd_same
    have s12 := s1.trans s2
    generalize (upd (upd H S (.dK [])) E2 (.dK [])) = H2 at hS0 hE0 s12
    have hAl := hA.len
    unfold addS at k
    have hBl := hB.len
    have hA2 := hA.mono (H' := H2) fun t xs w => s12 _ _ w
    have hB2 := hB.mono (H' := H2) fun t xs w => s12 _ _ w
    have hall : (us ++ ws).length = (ts ++ vs').length := by rw [List.length_append, List.length_append, hAl, hBl]
    have hal9 : (ts ++ vs').length ≤ 900 := by rw [List.length_append]; exact hsz
    refine ⟨_, rfl, _, rfl, a, b, us, ws, rfl, rfl, sql_ofT (s12 _ _ ha), sql_ofT (s12 _ _ hb), sz16 (by omega), fun e => ?_, fun e1 e2 => ?_, fun _ _ c nc => ?_⟩
    · have hc3 : H2 b = some (.tup (us ++ ws)) := by rw [e]; exact s12 _ _ hb
      have hT3 : TAll H2 (us ++ ws) (ts ++ vs') := hA2.app hB2
      have hS3 := hS0
      have hE3 := hE0
      have s23 : Same H2 H2 := fun _ _ e => e
      have hSc : b ≠ S := ne_of hc3 hS3 fun z => nomatch z
      have hEc : b ≠ E2 := ne_of hc3 hE3 fun z => nomatch z
      generalize us ++ ws = aus at hc3 hT3 hall
      generalize ts ++ vs' = all at hT3 hall hal9 k
      refine ⟨b, rfl, ⟨_, sql_ofT hc3⟩, for_tup (K := K) (a := b) (xs := aus) (fun i σ H4 => ∃ x4 x5 x6 x7 kvs, σ = [some (.ref a), some (.ref b), some (.ref S), some (.ref E2), x4, x5, x6, x7, none, none] ∧ H4 S = some (.dK (SD (addF (all.take i)))) ∧ H4 E2 = some (.dK kvs) ∧ ER H4 kvs (addF (all.take i)) ∧ (∀ b o, H2 b = some o → b ≠ S → b ≠ E2 → H4 b = some o))
        ⟨none, none, none, none, [], rfl, hS3, hE3, .nil, fun _ _ e _ _ => e⟩ (fun i σ H4 _ ⟨_, _, _, _, _, _, _, _, _, z⟩ => sql_ofT (z _ _ hc3 hSc hEc)) ?_ ?_⟩
      · rintro i y σ H4 hi ⟨x4, x5, x6, x7, kvs, rfl, hS, hE, hR, kp⟩
        have hil : i < aus.length := (List.getElem?_eq_some_iff.mp hi).1
        obtain ⟨x, q, hx, rfl, hq⟩ := hT3.at_ hi
        have hq4 := kp _ _ hq (ne_of hq hS3 fun z => nomatch z) (ne_of hq hE3 fun z => nomatch z)
        obtain ⟨inv1, inv2⟩ := addF_inv (all.take i)
        rw [List.length_take] at inv2
        refine ⟨q, _, rfl, sql_ofT hq4, rfl, _, _, rfl, _, _, rfl, _, _, rfl, _, _, rfl, rfl, ?_⟩
        refine ⟨_, rfl, S, rfl, .inl ⟨_, .inl hS⟩, _, rfl, _, DGet.k (k := Sum.inr x.nm) hS, ?_⟩
        rw [SD_kOf]
        refine ⟨_, rfl, _, _, rfl, rfl, fun r er => ⟨_, rfl, _, rfl, S, _, rfl, DPut.k (k := Sum.inr x.nm) hS (by rw [SD_len]; exact small1000 (by omega)), ?_⟩⟩
        have hS5 : (upd H4 S (.dK (putK (SD (addF (all.take i))) (Sum.inr x.nm) (.int r)))) S = some (.dK (SD (addF (all.take (i + 1))))) := by
          rw [upd_same, List.take_add_one, hx, Option.toList_some, addF_snoc, addP, ← er]
          exact congrArg (fun z => some (HO.dK z)) (SD_put (addF (all.take i)) ⟨x.nm, r, x.lo, x.hi⟩)
        have hE5 : (upd H4 S (.dK (putK (SD (addF (all.take i))) (Sum.inr x.nm) (.int r)))) E2 = some (.dK kvs) := by rw [upd_ne nSE.symm]; exact hE
        have t5 : ∀ t xs, H4 t = some (.tup xs) → (upd H4 S (.dK (putK (SD (addF (all.take i))) (Sum.inr x.nm) (.int r)))) t = some (.tup xs) := fun t xs w => by
          rw [upd_ne (ne_of w hS fun z => nomatch z)]
          exact w
        have k5 : ∀ b o, H4 b = some o → b ≠ S → (upd H4 S (.dK (putK (SD (addF (all.take i))) (Sum.inr x.nm) (.int r)))) b = some o := fun b o w nb => by
          rw [upd_ne nb]
          exact w
        generalize (upd H4 S (.dK (putK (SD (addF (all.take i))) (Sum.inr x.nm) (.int r)))) = H5 at hS5 hE5 t5 k5
        refine ⟨_, rfl, _, rfl, (by show 2 ≤ sizeLine; decide), fun z nz => ?_⟩
        have sz := same_upd (o := .tup [V.int x.lo, V.int x.hi]) nz
        have hEz := sz _ _ hE5
        refine ⟨_, rfl, _, rfl, E2, _, rfl, DPut.k (k := Sum.inr x.nm) hEz (by rw [hR.1]; exact small1000 (by omega)), ?_⟩
        refine ⟨_, _, _, _, _, rfl, ?_, upd_same, ?_, fun b' o eb n1 n2 => ?_⟩
        · rw [upd_ne nSE]
          exact sz _ _ hS5
        · rw [List.take_add_one, hx, Option.toList_some, addF_snoc, addP]
          refine ((hR.mono fun t xs w => sz _ _ (t5 _ _ w)).put (x := ⟨x.nm, kOf (addF (all.take i)) x.nm + x.k, x.lo, x.hi⟩) (q := z) upd_same).mono fun t xs w => ?_
          rw [upd_ne (ne_of w hEz fun v => nomatch v)]
          exact w
        · rw [upd_ne n2]
          exact sz _ _ (k5 _ _ (kp _ _ eb n1 n2) n1)
      · rintro σ H4 ⟨x4, x5, x6, x7, kvs, rfl, hS, hE, hR, kp⟩
        rw [List.take_of_length_le (by omega)] at hS hR
        obtain ⟨nd, inv2⟩ := addF_inv all
        have s4 : Same H H4 := fun b' o eb => kp _ _ (s23 _ _ (s12 _ _ eb)) (ne_of_none eb nS) (ne_of_none eb nE0)
        clear hS3 hE3 hT3 hc3 kp s23 hSc hEc
        generalize addF all = M at hS hR nd inv2 k
        -- the names in order
        refine ⟨S, .dK (SD M), hS, trivial, fun od => ?_⟩
        have hfz : (upd H4 S (.frz od (.dK (SD M)))) S = some (.frz od (.dK (SD M))) := upd_same
        refine ⟨_, rfl, S, od, rfl, .inl ⟨SD M, hfz, fun B nB => ?_⟩⟩
        have hBd : S ≠ B := ne_of_none hfz nB
        refine lc_it walk_keys (fun i H5 => H5 = upd (upd H4 S (.frz od (.dK (SD M)))) B (.lst ((KeyL M).take i))) rfl (fun i H5 _ e => by rw [e, upd_ne hBd]; exact hfz) ?_ ?_
        · rintro i x H5 H6 hi rfl ⟨rfl, kk, vv, hk, rfl⟩
          obtain ⟨y, hy, rfl⟩ := SD_at hk
          have hc' : (KeyL M)[i]? = some (.str y.nm) := by
            unfold KeyL nms
            rw [List.getElem?_map, List.getElem?_map, hy]
            rfl
          refine ⟨rfl, ?_⟩
          refine ⟨_, rfl, y.nm, rfl, _, upd_same, ?_, ?_⟩
          · rw [List.length_take]
            have lk : (KeyL M).length = M.length := by
              unfold KeyL nms
              rw [List.length_map, List.length_map]
            exact small1000 (by omega)
          · rw [upd_upd, List.take_add_one, hc']
            rfl
        rintro H5 rfl
        have nB' : H4 B = none := by
          rw [upd_ne hBd.symm] at nB
          exact nB
        have lk : (KeyL M).length = M.length := by
          unfold KeyL nms
          rw [List.length_map, List.length_map]
        have ls := SD_len M
        rw [List.take_of_length_le (by omega)]
        refine ⟨by rw [upd_ne hBd]; exact hfz, ?_⟩
        have hB' : (upd (upd (upd H4 S (.frz od (.dK (SD M)))) B (.lst (KeyL M))) S (.dK (SD M))) B = some (.lst (KeyL M)) := by rw [upd_ne hBd.symm, upd_same]
        have sm : Same H4 (upd (upd (upd H4 S (.frz od (.dK (SD M)))) B (.lst (KeyL M))) S (.dK (SD M))) := fun b o e => by
          have h2 := ne_of_none e nB'
          by_cases h1 : b = S
          · subst h1
            rw [hS] at e
            rw [upd_same]
            exact e
          · rw [upd_ne h1, upd_ne h2, upd_ne h1]
            exact e
        generalize (upd (upd (upd H4 S (.frz od (.dK (SD M)))) B (.lst (KeyL M))) S (.dK (SD M))) = H5 at hB' sm
        refine ⟨B, nms M, rfl, sql_of hB', fun ol no => ?_⟩
        have s5 := same_upd (o := .lst (((nms M).mergeSort leT).map V.str)) no
        have hO : (upd H5 ol (.lst (((nms M).mergeSort leT).map V.str))) ol = some (.lst ((sortS (nms M)).map V.str)) := upd_same
        have sm5 := sm.trans s5
        generalize (upd H5 ol (.lst (((nms M).mergeSort leT).map V.str))) = H6 at hO sm5
        have ns : nms (srt M) = sortS (nms M) := srt_nms M
        have sl : (srt M).length = (sortS (nms M)).length := by
          rw [← ns]
          unfold nms
          rw [List.length_map]
        have sn : (sortS (nms M)).length = M.length := by
          rw [(sortS_perm _).length_eq]
          unfold nms
          rw [List.length_map]
        have hS6 := sm5 _ _ hS
        have hE6 := sm5 _ _ hE
        have hR6 := hR.mono (H' := H6) fun t xs w => sm5 _ _ w
        refine ⟨_, rfl, ol, rfl, ⟨_, sql_of hO⟩, fun D nD => lc_list (K := K) (a := ol) (xs := (sortS (nms M)).map V.str) (fun i H7 => ∃ xs, H7 D = some (.lst xs) ∧ TAll H7 xs (((srt M).take i).filter fun x => decide (x.k ≠ 0)) ∧ Same H6 H7) ⟨[], upd_same, .nil, same_upd nD⟩ (fun i H7 _ ⟨_, _, _, z⟩ => sql_of (z _ _ hO)) ?_ ?_⟩
        · rintro i y H7 hi ⟨xs, hD, hT, sm2⟩
          have hil : i < ((sortS (nms M)).map V.str).length := (List.getElem?_eq_some_iff.mp hi).1
          rw [List.length_map] at hil
          have hx : (srt M)[i]? = some (srt M)[i] := List.getElem?_eq_getElem (by omega)
          generalize (srt M)[i] = x at hx
          have hy : y = .str x.nm := by
            rw [← ns] at hi
            unfold nms at hi
            rw [List.getElem?_map, List.getElem?_map, hx] at hi
            exact (Option.some.inj hi).symm
          subst hy
          have hxM : getT M x.nm = some x := getT_mem nd ((mem_srt nd).mp (List.mem_of_getElem? hx))
          have hS7 := sm2 _ _ hS6
          have hE7 := sm2 _ _ hE6
          have gS : valV (SD M) (Sum.inr x.nm : Key) = some (.int x.k) := by
            rw [SD_get, hxM]
            rfl
          obtain ⟨e, _⟩ | ⟨x', q, e1, e2, e3⟩ := (hR6.mono (H' := H7) fun t xs w => sm2 _ _ w).2 x.nm
          · rw [e] at hxM
            cases hxM
          obtain rfl : x' = x := Option.some.inj (e1.symm.trans hxM)
          have tk : (srt M).take (i + 1) = (srt M).take i ++ [x'] := by rw [List.take_add_one, hx, Option.toList_some]
          refine ⟨rfl, ⟨_, rfl, _, rfl, S, .int x'.k, rfl, by rw [← gS]; exact DGet.k (k := Sum.inr x'.nm) hS7, rfl, _, rfl, ?_⟩⟩
          refine ite2 (fun e => ?_) (fun e => ?_)
          · have ek : x'.k ≠ 0 := fun z => by
              rw [z] at e
              simp at e
            refine ⟨_, rfl, _, rfl, _, rfl, S, .int x'.k, rfl, by rw [← gS]; exact DGet.k (k := Sum.inr x'.nm) hS7, (by show 2 ≤ sizeLine; decide), fun z nz => ?_⟩
            have sz := same_upd (o := .tup [V.str x'.nm, V.int x'.k]) nz
            refine ⟨_, rfl, _, rfl, E2, .ref q, rfl, by rw [← e2]; exact DGet.k (k := Sum.inr x'.nm) (sz _ _ hE7), z, q, _, _, rfl, rfl, sql_ofT upd_same, sql_ofT (sz _ _ e3), by simp, by show 2 + 2 ≤ sizeLine; decide, fun z => absurd z (by simp), fun _ p np => ?_⟩
            have sp := same_upd (o := .tup ([V.str x'.nm, V.int x'.k] ++ [V.int x'.lo, V.int x'.hi])) np
            have hDp := sp _ _ (sz _ _ hD)
            have npq : p ≠ D := (ne_of_none (sz _ _ hD) np).symm
            refine ⟨xs, hDp, ?_, xs ++ [.ref p], upd_same, ?_, ?_⟩
            · rw [hT.len]
              refine small1000 (Nat.le_trans (List.length_filter_le _ _) ?_)
              rw [List.length_take]
              omega
            · rw [tk, List.filter_append]
              have ef : [x'].filter (fun x => decide (x.k ≠ 0)) = [x'] := by simp [ek]
              rw [ef]
              refine TAll.app (hT.mono fun t xs w => ?_) (.cons x' p ?_ .nil)
              · have z2 := sp _ _ (sz _ _ w)
                rw [upd_ne (ne_of z2 hDp fun v => nomatch v)]
                exact z2
              · rw [upd_ne npq, upd_same]
                rfl
            · intro b' o eb
              rw [upd_ne (ne_of_none eb nD)]
              exact sp _ _ (sz _ _ (sm2 _ _ eb))
          · have ek : x'.k = 0 := by
              refine Classical.byContradiction fun z => e ?_
              have : ¬ (V.int x'.k = V.int 0) := fun w => z (V.int.inj w)
              simp [this]
            refine ⟨xs, hD, ?_, sm2⟩
            rw [tk, List.filter_append]
            have ef : [x'].filter (fun x => decide (x.k ≠ 0)) = [] := by simp [ek]
            rw [ef, List.append_nil]
            exact hT
        · rintro H7 ⟨xs, hD, hT, sm2⟩
          rw [List.length_map, List.take_of_length_le (by omega)] at hT
          have s7 : Same H H7 := s4.trans (sm5.trans sm2)
          refine k D xs H7 s7 ?_ hD hT
          exact (s4.trans sm5).free nD
    · have hc3 : H2 a = some (.tup (us ++ ws)) := by rw [e2, List.append_nil]; exact s12 _ _ ha
      have hT3 : TAll H2 (us ++ ws) (ts ++ vs') := hA2.app hB2
      have hS3 := hS0
      have hE3 := hE0
      have s23 : Same H2 H2 := fun _ _ e => e
      have hSc : a ≠ S := ne_of hc3 hS3 fun z => nomatch z
      have hEc : a ≠ E2 := ne_of hc3 hE3 fun z => nomatch z
      generalize us ++ ws = aus at hc3 hT3 hall
      generalize ts ++ vs' = all at hT3 hall hal9 k
      refine ⟨a, rfl, ⟨_, sql_ofT hc3⟩, for_tup (K := K) (a := a) (xs := aus) (fun i σ H4 => ∃ x4 x5 x6 x7 kvs, σ = [some (.ref a), some (.ref b), some (.ref S), some (.ref E2), x4, x5, x6, x7, none, none] ∧ H4 S = some (.dK (SD (addF (all.take i)))) ∧ H4 E2 = some (.dK kvs) ∧ ER H4 kvs (addF (all.take i)) ∧ (∀ b o, H2 b = some o → b ≠ S → b ≠ E2 → H4 b = some o))
        ⟨none, none, none, none, [], rfl, hS3, hE3, .nil, fun _ _ e _ _ => e⟩ (fun i σ H4 _ ⟨_, _, _, _, _, _, _, _, _, z⟩ => sql_ofT (z _ _ hc3 hSc hEc)) ?_ ?_⟩
      · rintro i y σ H4 hi ⟨x4, x5, x6, x7, kvs, rfl, hS, hE, hR, kp⟩
        have hil : i < aus.length := (List.getElem?_eq_some_iff.mp hi).1
        obtain ⟨x, q, hx, rfl, hq⟩ := hT3.at_ hi
        have hq4 := kp _ _ hq (ne_of hq hS3 fun z => nomatch z) (ne_of hq hE3 fun z => nomatch z)
        obtain ⟨inv1, inv2⟩ := addF_inv (all.take i)
        rw [List.length_take] at inv2
        refine ⟨q, _, rfl, sql_ofT hq4, rfl, _, _, rfl, _, _, rfl, _, _, rfl, _, _, rfl, rfl, ?_⟩
        refine ⟨_, rfl, S, rfl, .inl ⟨_, .inl hS⟩, _, rfl, _, DGet.k (k := Sum.inr x.nm) hS, ?_⟩
        rw [SD_kOf]
        refine ⟨_, rfl, _, _, rfl, rfl, fun r er => ⟨_, rfl, _, rfl, S, _, rfl, DPut.k (k := Sum.inr x.nm) hS (by rw [SD_len]; exact small1000 (by omega)), ?_⟩⟩
        have hS5 : (upd H4 S (.dK (putK (SD (addF (all.take i))) (Sum.inr x.nm) (.int r)))) S = some (.dK (SD (addF (all.take (i + 1))))) := by
          rw [upd_same, List.take_add_one, hx, Option.toList_some, addF_snoc, addP, ← er]
          exact congrArg (fun z => some (HO.dK z)) (SD_put (addF (all.take i)) ⟨x.nm, r, x.lo, x.hi⟩)
        have hE5 : (upd H4 S (.dK (putK (SD (addF (all.take i))) (Sum.inr x.nm) (.int r)))) E2 = some (.dK kvs) := by rw [upd_ne nSE.symm]; exact hE
        have t5 : ∀ t xs, H4 t = some (.tup xs) → (upd H4 S (.dK (putK (SD (addF (all.take i))) (Sum.inr x.nm) (.int r)))) t = some (.tup xs) := fun t xs w => by
          rw [upd_ne (ne_of w hS fun z => nomatch z)]
          exact w
        have k5 : ∀ b o, H4 b = some o → b ≠ S → (upd H4 S (.dK (putK (SD (addF (all.take i))) (Sum.inr x.nm) (.int r)))) b = some o := fun b o w nb => by
          rw [upd_ne nb]
          exact w
        generalize (upd H4 S (.dK (putK (SD (addF (all.take i))) (Sum.inr x.nm) (.int r)))) = H5 at hS5 hE5 t5 k5
        refine ⟨_, rfl, _, rfl, (by show 2 ≤ sizeLine; decide), fun z nz => ?_⟩
        have sz := same_upd (o := .tup [V.int x.lo, V.int x.hi]) nz
        have hEz := sz _ _ hE5
        refine ⟨_, rfl, _, rfl, E2, _, rfl, DPut.k (k := Sum.inr x.nm) hEz (by rw [hR.1]; exact small1000 (by omega)), ?_⟩
        refine ⟨_, _, _, _, _, rfl, ?_, upd_same, ?_, fun b' o eb n1 n2 => ?_⟩
        · rw [upd_ne nSE]
          exact sz _ _ hS5
        · rw [List.take_add_one, hx, Option.toList_some, addF_snoc, addP]
          refine ((hR.mono fun t xs w => sz _ _ (t5 _ _ w)).put (x := ⟨x.nm, kOf (addF (all.take i)) x.nm + x.k, x.lo, x.hi⟩) (q := z) upd_same).mono fun t xs w => ?_
          rw [upd_ne (ne_of w hEz fun v => nomatch v)]
          exact w
        · rw [upd_ne n2]
          exact sz _ _ (k5 _ _ (kp _ _ eb n1 n2) n1)
      · rintro σ H4 ⟨x4, x5, x6, x7, kvs, rfl, hS, hE, hR, kp⟩
        rw [List.take_of_length_le (by omega)] at hS hR
        obtain ⟨nd, inv2⟩ := addF_inv all
        have s4 : Same H H4 := fun b' o eb => kp _ _ (s23 _ _ (s12 _ _ eb)) (ne_of_none eb nS) (ne_of_none eb nE0)
        clear hS3 hE3 hT3 hc3 kp s23 hSc hEc
        generalize addF all = M at hS hR nd inv2 k
        -- the names in order
        refine ⟨S, .dK (SD M), hS, trivial, fun od => ?_⟩
        have hfz : (upd H4 S (.frz od (.dK (SD M)))) S = some (.frz od (.dK (SD M))) := upd_same
        refine ⟨_, rfl, S, od, rfl, .inl ⟨SD M, hfz, fun B nB => ?_⟩⟩
        have hBd : S ≠ B := ne_of_none hfz nB
        refine lc_it walk_keys (fun i H5 => H5 = upd (upd H4 S (.frz od (.dK (SD M)))) B (.lst ((KeyL M).take i))) rfl (fun i H5 _ e => by rw [e, upd_ne hBd]; exact hfz) ?_ ?_
        · rintro i x H5 H6 hi rfl ⟨rfl, kk, vv, hk, rfl⟩
          obtain ⟨y, hy, rfl⟩ := SD_at hk
          have hc' : (KeyL M)[i]? = some (.str y.nm) := by
            unfold KeyL nms
            rw [List.getElem?_map, List.getElem?_map, hy]
            rfl
          refine ⟨rfl, ?_⟩
          refine ⟨_, rfl, y.nm, rfl, _, upd_same, ?_, ?_⟩
          · rw [List.length_take]
            have lk : (KeyL M).length = M.length := by
              unfold KeyL nms
              rw [List.length_map, List.length_map]
            exact small1000 (by omega)
          · rw [upd_upd, List.take_add_one, hc']
            rfl
        rintro H5 rfl
        have nB' : H4 B = none := by
          rw [upd_ne hBd.symm] at nB
          exact nB
        have lk : (KeyL M).length = M.length := by
          unfold KeyL nms
          rw [List.length_map, List.length_map]
        have ls := SD_len M
        rw [List.take_of_length_le (by omega)]
        refine ⟨by rw [upd_ne hBd]; exact hfz, ?_⟩
        have hB' : (upd (upd (upd H4 S (.frz od (.dK (SD M)))) B (.lst (KeyL M))) S (.dK (SD M))) B = some (.lst (KeyL M)) := by rw [upd_ne hBd.symm, upd_same]
        have sm : Same H4 (upd (upd (upd H4 S (.frz od (.dK (SD M)))) B (.lst (KeyL M))) S (.dK (SD M))) := fun b o e => by
          have h2 := ne_of_none e nB'
          by_cases h1 : b = S
          · subst h1
            rw [hS] at e
            rw [upd_same]
            exact e
          · rw [upd_ne h1, upd_ne h2, upd_ne h1]
            exact e
        generalize (upd (upd (upd H4 S (.frz od (.dK (SD M)))) B (.lst (KeyL M))) S (.dK (SD M))) = H5 at hB' sm
        refine ⟨B, nms M, rfl, sql_of hB', fun ol no => ?_⟩
        have s5 := same_upd (o := .lst (((nms M).mergeSort leT).map V.str)) no
        have hO : (upd H5 ol (.lst (((nms M).mergeSort leT).map V.str))) ol = some (.lst ((sortS (nms M)).map V.str)) := upd_same
        have sm5 := sm.trans s5
        generalize (upd H5 ol (.lst (((nms M).mergeSort leT).map V.str))) = H6 at hO sm5
        have ns : nms (srt M) = sortS (nms M) := srt_nms M
        have sl : (srt M).length = (sortS (nms M)).length := by
          rw [← ns]
          unfold nms
          rw [List.length_map]
        have sn : (sortS (nms M)).length = M.length := by
          rw [(sortS_perm _).length_eq]
          unfold nms
          rw [List.length_map]
        have hS6 := sm5 _ _ hS
        have hE6 := sm5 _ _ hE
        have hR6 := hR.mono (H' := H6) fun t xs w => sm5 _ _ w
        refine ⟨_, rfl, ol, rfl, ⟨_, sql_of hO⟩, fun D nD => lc_list (K := K) (a := ol) (xs := (sortS (nms M)).map V.str) (fun i H7 => ∃ xs, H7 D = some (.lst xs) ∧ TAll H7 xs (((srt M).take i).filter fun x => decide (x.k ≠ 0)) ∧ Same H6 H7) ⟨[], upd_same, .nil, same_upd nD⟩ (fun i H7 _ ⟨_, _, _, z⟩ => sql_of (z _ _ hO)) ?_ ?_⟩
        · rintro i y H7 hi ⟨xs, hD, hT, sm2⟩
          have hil : i < ((sortS (nms M)).map V.str).length := (List.getElem?_eq_some_iff.mp hi).1
          rw [List.length_map] at hil
          have hx : (srt M)[i]? = some (srt M)[i] := List.getElem?_eq_getElem (by omega)
          generalize (srt M)[i] = x at hx
          have hy : y = .str x.nm := by
            rw [← ns] at hi
            unfold nms at hi
            rw [List.getElem?_map, List.getElem?_map, hx] at hi
            exact (Option.some.inj hi).symm
          subst hy
          have hxM : getT M x.nm = some x := getT_mem nd ((mem_srt nd).mp (List.mem_of_getElem? hx))
          have hS7 := sm2 _ _ hS6
          have hE7 := sm2 _ _ hE6
          have gS : valV (SD M) (Sum.inr x.nm : Key) = some (.int x.k) := by
            rw [SD_get, hxM]
            rfl
          obtain ⟨e, _⟩ | ⟨x', q, e1, e2, e3⟩ := (hR6.mono (H' := H7) fun t xs w => sm2 _ _ w).2 x.nm
          · rw [e] at hxM
            cases hxM
          obtain rfl : x' = x := Option.some.inj (e1.symm.trans hxM)
          have tk : (srt M).take (i + 1) = (srt M).take i ++ [x'] := by rw [List.take_add_one, hx, Option.toList_some]
          refine ⟨rfl, ⟨_, rfl, _, rfl, S, .int x'.k, rfl, by rw [← gS]; exact DGet.k (k := Sum.inr x'.nm) hS7, rfl, _, rfl, ?_⟩⟩
          refine ite2 (fun e => ?_) (fun e => ?_)
          · have ek : x'.k ≠ 0 := fun z => by
              rw [z] at e
              simp at e
            refine ⟨_, rfl, _, rfl, _, rfl, S, .int x'.k, rfl, by rw [← gS]; exact DGet.k (k := Sum.inr x'.nm) hS7, (by show 2 ≤ sizeLine; decide), fun z nz => ?_⟩
            have sz := same_upd (o := .tup [V.str x'.nm, V.int x'.k]) nz
            refine ⟨_, rfl, _, rfl, E2, .ref q, rfl, by rw [← e2]; exact DGet.k (k := Sum.inr x'.nm) (sz _ _ hE7), z, q, _, _, rfl, rfl, sql_ofT upd_same, sql_ofT (sz _ _ e3), by simp, by show 2 + 2 ≤ sizeLine; decide, fun z => absurd z (by simp), fun _ p np => ?_⟩
            have sp := same_upd (o := .tup ([V.str x'.nm, V.int x'.k] ++ [V.int x'.lo, V.int x'.hi])) np
            have hDp := sp _ _ (sz _ _ hD)
            have npq : p ≠ D := (ne_of_none (sz _ _ hD) np).symm
            refine ⟨xs, hDp, ?_, xs ++ [.ref p], upd_same, ?_, ?_⟩
            · rw [hT.len]
              refine small1000 (Nat.le_trans (List.length_filter_le _ _) ?_)
              rw [List.length_take]
              omega
            · rw [tk, List.filter_append]
              have ef : [x'].filter (fun x => decide (x.k ≠ 0)) = [x'] := by simp [ek]
              rw [ef]
              refine TAll.app (hT.mono fun t xs w => ?_) (.cons x' p ?_ .nil)
              · have z2 := sp _ _ (sz _ _ w)
                rw [upd_ne (ne_of z2 hDp fun v => nomatch v)]
                exact z2
              · rw [upd_ne npq, upd_same]
                rfl
            · intro b' o eb
              rw [upd_ne (ne_of_none eb nD)]
              exact sp _ _ (sz _ _ (sm2 _ _ eb))
          · have ek : x'.k = 0 := by
              refine Classical.byContradiction fun z => e ?_
              have : ¬ (V.int x'.k = V.int 0) := fun w => z (V.int.inj w)
              simp [this]
            refine ⟨xs, hD, ?_, sm2⟩
            rw [tk, List.filter_append]
            have ef : [x'].filter (fun x => decide (x.k ≠ 0)) = [] := by simp [ek]
            rw [ef, List.append_nil]
            exact hT
        · rintro H7 ⟨xs, hD, hT, sm2⟩
          rw [List.length_map, List.take_of_length_le (by omega)] at hT
          have s7 : Same H H7 := s4.trans (sm5.trans sm2)
          refine k D xs H7 s7 ?_ hD hT
          exact (s4.trans sm5).free nD
    · have s23 := same_upd (o := .tup (us ++ ws)) nc
      have hc3 : (upd H2 c (.tup (us ++ ws))) c = some (.tup (us ++ ws)) := upd_same
      have hT3 : TAll (upd H2 c (.tup (us ++ ws))) (us ++ ws) (ts ++ vs') := (hA2.app hB2).mono fun t xs w => s23 _ _ w
      have hS3 := s23 _ _ hS0
      have hE3 := s23 _ _ hE0
      generalize (upd H2 c (.tup (us ++ ws))) = H3 at hc3 hT3 hS3 hE3 s23
      have hSc : c ≠ S := ne_of hc3 hS3 fun z => nomatch z
      have hEc : c ≠ E2 := ne_of hc3 hE3 fun z => nomatch z
      generalize us ++ ws = aus at hc3 hT3 hall
      generalize ts ++ vs' = all at hT3 hall hal9 k
      refine ⟨c, rfl, ⟨_, sql_ofT hc3⟩, for_tup (K := K) (a := c) (xs := aus) (fun i σ H4 => ∃ x4 x5 x6 x7 kvs, σ = [some (.ref a), some (.ref b), some (.ref S), some (.ref E2), x4, x5, x6, x7, none, none] ∧ H4 S = some (.dK (SD (addF (all.take i)))) ∧ H4 E2 = some (.dK kvs) ∧ ER H4 kvs (addF (all.take i)) ∧ (∀ b o, H3 b = some o → b ≠ S → b ≠ E2 → H4 b = some o))
        ⟨none, none, none, none, [], rfl, hS3, hE3, .nil, fun _ _ e _ _ => e⟩ (fun i σ H4 _ ⟨_, _, _, _, _, _, _, _, _, z⟩ => sql_ofT (z _ _ hc3 hSc hEc)) ?_ ?_⟩
      · rintro i y σ H4 hi ⟨x4, x5, x6, x7, kvs, rfl, hS, hE, hR, kp⟩
        have hil : i < aus.length := (List.getElem?_eq_some_iff.mp hi).1
        obtain ⟨x, q, hx, rfl, hq⟩ := hT3.at_ hi
        have hq4 := kp _ _ hq (ne_of hq hS3 fun z => nomatch z) (ne_of hq hE3 fun z => nomatch z)
        obtain ⟨inv1, inv2⟩ := addF_inv (all.take i)
        rw [List.length_take] at inv2
        refine ⟨q, _, rfl, sql_ofT hq4, rfl, _, _, rfl, _, _, rfl, _, _, rfl, _, _, rfl, rfl, ?_⟩
        refine ⟨_, rfl, S, rfl, .inl ⟨_, .inl hS⟩, _, rfl, _, DGet.k (k := Sum.inr x.nm) hS, ?_⟩
        rw [SD_kOf]
        refine ⟨_, rfl, _, _, rfl, rfl, fun r er => ⟨_, rfl, _, rfl, S, _, rfl, DPut.k (k := Sum.inr x.nm) hS (by rw [SD_len]; exact small1000 (by omega)), ?_⟩⟩
        have hS5 : (upd H4 S (.dK (putK (SD (addF (all.take i))) (Sum.inr x.nm) (.int r)))) S = some (.dK (SD (addF (all.take (i + 1))))) := by
          rw [upd_same, List.take_add_one, hx, Option.toList_some, addF_snoc, addP, ← er]
          exact congrArg (fun z => some (HO.dK z)) (SD_put (addF (all.take i)) ⟨x.nm, r, x.lo, x.hi⟩)
        have hE5 : (upd H4 S (.dK (putK (SD (addF (all.take i))) (Sum.inr x.nm) (.int r)))) E2 = some (.dK kvs) := by rw [upd_ne nSE.symm]; exact hE
        have t5 : ∀ t xs, H4 t = some (.tup xs) → (upd H4 S (.dK (putK (SD (addF (all.take i))) (Sum.inr x.nm) (.int r)))) t = some (.tup xs) := fun t xs w => by
          rw [upd_ne (ne_of w hS fun z => nomatch z)]
          exact w
        have k5 : ∀ b o, H4 b = some o → b ≠ S → (upd H4 S (.dK (putK (SD (addF (all.take i))) (Sum.inr x.nm) (.int r)))) b = some o := fun b o w nb => by
          rw [upd_ne nb]
          exact w
        generalize (upd H4 S (.dK (putK (SD (addF (all.take i))) (Sum.inr x.nm) (.int r)))) = H5 at hS5 hE5 t5 k5
        refine ⟨_, rfl, _, rfl, (by show 2 ≤ sizeLine; decide), fun z nz => ?_⟩
        have sz := same_upd (o := .tup [V.int x.lo, V.int x.hi]) nz
        have hEz := sz _ _ hE5
        refine ⟨_, rfl, _, rfl, E2, _, rfl, DPut.k (k := Sum.inr x.nm) hEz (by rw [hR.1]; exact small1000 (by omega)), ?_⟩
        refine ⟨_, _, _, _, _, rfl, ?_, upd_same, ?_, fun b' o eb n1 n2 => ?_⟩
        · rw [upd_ne nSE]
          exact sz _ _ hS5
        · rw [List.take_add_one, hx, Option.toList_some, addF_snoc, addP]
          refine ((hR.mono fun t xs w => sz _ _ (t5 _ _ w)).put (x := ⟨x.nm, kOf (addF (all.take i)) x.nm + x.k, x.lo, x.hi⟩) (q := z) upd_same).mono fun t xs w => ?_
          rw [upd_ne (ne_of w hEz fun v => nomatch v)]
          exact w
        · rw [upd_ne n2]
          exact sz _ _ (k5 _ _ (kp _ _ eb n1 n2) n1)
      · rintro σ H4 ⟨x4, x5, x6, x7, kvs, rfl, hS, hE, hR, kp⟩
        rw [List.take_of_length_le (by omega)] at hS hR
        obtain ⟨nd, inv2⟩ := addF_inv all
        have s4 : Same H H4 := fun b' o eb => kp _ _ (s23 _ _ (s12 _ _ eb)) (ne_of_none eb nS) (ne_of_none eb nE0)
        clear hS3 hE3 hT3 hc3 kp s23 hSc hEc
        generalize addF all = M at hS hR nd inv2 k
        -- the names in order
        refine ⟨S, .dK (SD M), hS, trivial, fun od => ?_⟩
        have hfz : (upd H4 S (.frz od (.dK (SD M)))) S = some (.frz od (.dK (SD M))) := upd_same
        refine ⟨_, rfl, S, od, rfl, .inl ⟨SD M, hfz, fun B nB => ?_⟩⟩
        have hBd : S ≠ B := ne_of_none hfz nB
        refine lc_it walk_keys (fun i H5 => H5 = upd (upd H4 S (.frz od (.dK (SD M)))) B (.lst ((KeyL M).take i))) rfl (fun i H5 _ e => by rw [e, upd_ne hBd]; exact hfz) ?_ ?_
        · rintro i x H5 H6 hi rfl ⟨rfl, kk, vv, hk, rfl⟩
          obtain ⟨y, hy, rfl⟩ := SD_at hk
          have hc' : (KeyL M)[i]? = some (.str y.nm) := by
            unfold KeyL nms
            rw [List.getElem?_map, List.getElem?_map, hy]
            rfl
          refine ⟨rfl, ?_⟩
          refine ⟨_, rfl, y.nm, rfl, _, upd_same, ?_, ?_⟩
          · rw [List.length_take]
            have lk : (KeyL M).length = M.length := by
              unfold KeyL nms
              rw [List.length_map, List.length_map]
            exact small1000 (by omega)
          · rw [upd_upd, List.take_add_one, hc']
            rfl
        rintro H5 rfl
        have nB' : H4 B = none := by
          rw [upd_ne hBd.symm] at nB
          exact nB
        have lk : (KeyL M).length = M.length := by
          unfold KeyL nms
          rw [List.length_map, List.length_map]
        have ls := SD_len M
        rw [List.take_of_length_le (by omega)]
        refine ⟨by rw [upd_ne hBd]; exact hfz, ?_⟩
        have hB' : (upd (upd (upd H4 S (.frz od (.dK (SD M)))) B (.lst (KeyL M))) S (.dK (SD M))) B = some (.lst (KeyL M)) := by rw [upd_ne hBd.symm, upd_same]
        have sm : Same H4 (upd (upd (upd H4 S (.frz od (.dK (SD M)))) B (.lst (KeyL M))) S (.dK (SD M))) := fun b o e => by
          have h2 := ne_of_none e nB'
          by_cases h1 : b = S
          · subst h1
            rw [hS] at e
            rw [upd_same]
            exact e
          · rw [upd_ne h1, upd_ne h2, upd_ne h1]
            exact e
        generalize (upd (upd (upd H4 S (.frz od (.dK (SD M)))) B (.lst (KeyL M))) S (.dK (SD M))) = H5 at hB' sm
        refine ⟨B, nms M, rfl, sql_of hB', fun ol no => ?_⟩
        have s5 := same_upd (o := .lst (((nms M).mergeSort leT).map V.str)) no
        have hO : (upd H5 ol (.lst (((nms M).mergeSort leT).map V.str))) ol = some (.lst ((sortS (nms M)).map V.str)) := upd_same
        have sm5 := sm.trans s5
        generalize (upd H5 ol (.lst (((nms M).mergeSort leT).map V.str))) = H6 at hO sm5
        have ns : nms (srt M) = sortS (nms M) := srt_nms M
        have sl : (srt M).length = (sortS (nms M)).length := by
          rw [← ns]
          unfold nms
          rw [List.length_map]
        have sn : (sortS (nms M)).length = M.length := by
          rw [(sortS_perm _).length_eq]
          unfold nms
          rw [List.length_map]
        have hS6 := sm5 _ _ hS
        have hE6 := sm5 _ _ hE
        have hR6 := hR.mono (H' := H6) fun t xs w => sm5 _ _ w
        refine ⟨_, rfl, ol, rfl, ⟨_, sql_of hO⟩, fun D nD => lc_list (K := K) (a := ol) (xs := (sortS (nms M)).map V.str) (fun i H7 => ∃ xs, H7 D = some (.lst xs) ∧ TAll H7 xs (((srt M).take i).filter fun x => decide (x.k ≠ 0)) ∧ Same H6 H7) ⟨[], upd_same, .nil, same_upd nD⟩ (fun i H7 _ ⟨_, _, _, z⟩ => sql_of (z _ _ hO)) ?_ ?_⟩
        · rintro i y H7 hi ⟨xs, hD, hT, sm2⟩
          have hil : i < ((sortS (nms M)).map V.str).length := (List.getElem?_eq_some_iff.mp hi).1
          rw [List.length_map] at hil
          have hx : (srt M)[i]? = some (srt M)[i] := List.getElem?_eq_getElem (by omega)
          generalize (srt M)[i] = x at hx
          have hy : y = .str x.nm := by
            rw [← ns] at hi
            unfold nms at hi
            rw [List.getElem?_map, List.getElem?_map, hx] at hi
            exact (Option.some.inj hi).symm
          subst hy
          have hxM : getT M x.nm = some x := getT_mem nd ((mem_srt nd).mp (List.mem_of_getElem? hx))
          have hS7 := sm2 _ _ hS6
          have hE7 := sm2 _ _ hE6
          have gS : valV (SD M) (Sum.inr x.nm : Key) = some (.int x.k) := by
            rw [SD_get, hxM]
            rfl
          obtain ⟨e, _⟩ | ⟨x', q, e1, e2, e3⟩ := (hR6.mono (H' := H7) fun t xs w => sm2 _ _ w).2 x.nm
          · rw [e] at hxM
            cases hxM
          obtain rfl : x' = x := Option.some.inj (e1.symm.trans hxM)
          have tk : (srt M).take (i + 1) = (srt M).take i ++ [x'] := by rw [List.take_add_one, hx, Option.toList_some]
          refine ⟨rfl, ⟨_, rfl, _, rfl, S, .int x'.k, rfl, by rw [← gS]; exact DGet.k (k := Sum.inr x'.nm) hS7, rfl, _, rfl, ?_⟩⟩
          refine ite2 (fun e => ?_) (fun e => ?_)
          · have ek : x'.k ≠ 0 := fun z => by
              rw [z] at e
              simp at e
            refine ⟨_, rfl, _, rfl, _, rfl, S, .int x'.k, rfl, by rw [← gS]; exact DGet.k (k := Sum.inr x'.nm) hS7, (by show 2 ≤ sizeLine; decide), fun z nz => ?_⟩
            have sz := same_upd (o := .tup [V.str x'.nm, V.int x'.k]) nz
            refine ⟨_, rfl, _, rfl, E2, .ref q, rfl, by rw [← e2]; exact DGet.k (k := Sum.inr x'.nm) (sz _ _ hE7), z, q, _, _, rfl, rfl, sql_ofT upd_same, sql_ofT (sz _ _ e3), by simp, by show 2 + 2 ≤ sizeLine; decide, fun z => absurd z (by simp), fun _ p np => ?_⟩
            have sp := same_upd (o := .tup ([V.str x'.nm, V.int x'.k] ++ [V.int x'.lo, V.int x'.hi])) np
            have hDp := sp _ _ (sz _ _ hD)
            have npq : p ≠ D := (ne_of_none (sz _ _ hD) np).symm
            refine ⟨xs, hDp, ?_, xs ++ [.ref p], upd_same, ?_, ?_⟩
            · rw [hT.len]
              refine small1000 (Nat.le_trans (List.length_filter_le _ _) ?_)
              rw [List.length_take]
              omega
            · rw [tk, List.filter_append]
              have ef : [x'].filter (fun x => decide (x.k ≠ 0)) = [x'] := by simp [ek]
              rw [ef]
              refine TAll.app (hT.mono fun t xs w => ?_) (.cons x' p ?_ .nil)
              · have z2 := sp _ _ (sz _ _ w)
                rw [upd_ne (ne_of z2 hDp fun v => nomatch v)]
                exact z2
              · rw [upd_ne npq, upd_same]
                rfl
            · intro b' o eb
              rw [upd_ne (ne_of_none eb nD)]
              exact sp _ _ (sz _ _ (sm2 _ _ eb))
          · have ek : x'.k = 0 := by
              refine Classical.byContradiction fun z => e ?_
              have : ¬ (V.int x'.k = V.int 0) := fun w => z (V.int.inj w)
              simp [this]
            refine ⟨xs, hD, ?_, sm2⟩
            rw [tk, List.filter_append]
            have ef : [x'].filter (fun x => decide (x.k ≠ 0)) = [] := by simp [ek]
            rw [ef, List.append_nil]
            exact hT
        · rintro H7 ⟨xs, hD, hT, sm2⟩
          rw [List.length_map, List.take_of_length_le (by omega)] at hT
          have s7 : Same H H7 := s4.trans (sm5.trans sm2)
          refine k D xs H7 s7 ?_ hD hT
          exact (s4.trans sm5).free nD
end
end DO

namespace DO
open PySem PySem.Spec PyProof.Rows L2
section
variable {P : Program} {w : World} {K : PySem.W.Frag} {mg : Str → Option Value} {base : Heap}
abbrev sAdd : Stmt := inClass sCls 1
theorem scAdd : FnScope ["self", "other"] ["self", "other"] (defScope sAdd) := ⟨rfl, rfl, rfl, by decide +kernel, rfl, by decide +kernel, by decide +kernel⟩
structure TsOk (ts : List Tm) : Prop where
  nd : (nms ts).Nodup
  ok : NmsOk ts
  sz : ts.length ≤ 400
def spAdd (K : PySem.W.Frag) (C CU : Addr) : Sp := fun vs H Q E => ∃ (p : Addr) (n : Int) (ts : List Tm) (y : V), vs = [.ref p, y] ∧ FormAt C H p n ts ∧ TsOk ts ∧
  ((∃ i : Int, y = .int i ∧ ∀ r H', H r = none → Same H H' → FormAt C H' r (n + i) ts → Q (.ref r) H') ∨
   ∃ (q : Addr) (m : Int) (us : List Tm), y = .ref q ∧ FormAt C H q m us ∧ TsOk us ∧ (∀ w, unl ts us = some w → Thrown E CU H [("name", .str w)]) ∧ (unl ts us = none → ∀ r H', H r = none → Same H H' → FormAt C H' r (n + m) (addS ts us) → Q (.ref r) H'))
theorem ok_add {C CU : Addr} (T : Frm K mg C) (M : Mf K C "__add__" "Form.__add__" sAdd ["self", "other"]) (DF : Df K mg "form_of" sFof ["constant", "terms"]) (GF : FnOk P w K mg base CX0 3 DF.f DF.fd ["constant", "terms"] (spFof K C))
    (DK : Df K mg "_check_ends" sChk ["first", "second"]) (GK : FnOk P w K mg base (L2N.CX P w) 4 DK.f DK.fd ["first", "second"] (spChk CU)) (DA : Df K mg "_added" sAdded ["first", "second"]) (GA : FnOk P w K mg base CX0 1 DA.f DA.fd ["first", "second"] spAdded)
    (mis : mg "isinstance" = none) (mint : mg "int" = none) : FnOk P w K mg base (L2N.CX P w) 5 M.f M.fd ["self", "other"] (spAdd K C CU) := by
  refine okN M.fn scAdd (fun vs H Q E h => ?_) (fun cdv A outer s H vs Q E hr h => ?_)
  · obtain ⟨p, n, ts, y, rfl, _⟩ := h
    rfl
  · obtain ⟨p, n, ts, y, rfl, hp, ho, hy⟩ := h
    refine ⟨_, (pss_cons (ps_if (pt_val (pe_callB call_isi (by rfl) mis (by decide +kernel) (pa_cons (pv 1) (pa_cons (pe_bltn (v := .ty "int") (by rfl) mint (by decide +kernel) rfl) pa_nil))))
      (pss_one (ps_ret (pe_call GF (hr.mono (by decide)) (by rfl) DF.mgf DF.fn.kp DF.bd .nil pass0 (pa_cons (pe_op op_addL (pe_fld (pv 0) rfl) (pv 1)) (pa_cons (pe_fld (pv 0) rfl) pa_nil)))))
      pss_nil)
      (pss_cons (ps_if (pt_not (pt_val (pe_callB call_isi (by rfl) mis (by decide +kernel) (pa_cons (pv 1) (pa_cons (pe_glob (v := .ref C) (by rfl) T.mgC rfl) pa_nil)))))
      (pss_one (ps_never))
      pss_nil)
      (pss_cons (ps_expr (pe_callS GK hr (by rfl) DK.mgf DK.fn.kp DK.bd (L2N.passAt (L2N.takes_of rfl rfl rfl rfl)) (pa_cons (pe_fld (pv 0) rfl) (pa_cons (pe_fld (pv 1) rfl) pa_nil))))
      (pss_one (ps_ret (pe_call GF (hr.mono (by decide)) (by rfl) DF.mgf DF.fn.kp DF.bd .nil pass0 (pa_cons (pe_op op_addL (pe_fld (pv 0) rfl) (pe_fld (pv 1) rfl)) (pa_cons (pe_call GA (hr.mono (by decide)) (by rfl) DA.mgf DA.fn.kp DA.bd .nil pass0 (pa_cons (pe_fld (pv 0) rfl) (pa_cons (pe_fld (pv 1) rfl) pa_nil))) pa_nil)))))))), ?_⟩
    obtain ⟨dx, t, us, h1, h2, h3⟩ := id hp
    rcases hy with ⟨i, rfl, k⟩ | ⟨q, m, vs', rfl, hq, hv, kx, k⟩
    · refine ⟨_, rfl, _, _, _, _, true, rfl, .ty "int", .base (.int i), kit_ty (by decide +kernel), true, rfl, ?_⟩
      refine iteT' rfl ?_
      exact ⟨_, rfl, p, C, dx, _, _, rfl, h1, T.cl, T.nC, ff_c _ _, _, rfl, n, i, rfl, rfl, fun r er => ⟨_, rfl, p, C, dx, _, _, rfl, h1, T.cl, T.nT, ff_t _ _, r, t, us, ts, rfl, .inr h2, h3, fun p' H' np s1 hf => k p' H' np s1 (er ▸ hf)⟩⟩
    · obtain ⟨dx', t', us', h1', h2', h3'⟩ := id hq
      refine ⟨_, rfl, _, _, _, _, false, rfl, .ty "int", TyX_frm T hq, T.kJ, false, rfl, ?_⟩
      refine iteF' rfl ?_
      refine ⟨_, rfl, _, _, _, _, true, rfl, .own C, TyX_frm T hq, T.kC, true, rfl, ?_⟩
      refine iteF' rfl ?_
      refine ⟨_, rfl, p, C, dx, _, _, rfl, h1, T.cl, T.nT, ff_t _ _, _, rfl, q, C, dx', _, _, rfl, h1', T.cl, T.nT, ff_t _ _, t, t', us, us', ts, vs', rfl, h2, h3, h2', h3', Nat.le_trans ho.sz (by decide), ho.nd, ho.ok, hv.ok, kx, fun e H1 s1 => ?_⟩
      have g1 := s1 _ _ h1
      have g1' := s1 _ _ h1'
      refine ⟨_, rfl, p, C, dx, _, _, rfl, g1, T.cl, T.nC, ff_c _ _, _, rfl, q, C, dx', _, _, rfl, g1', T.cl, T.nC, ff_c _ _, n, m, rfl, rfl, fun r er => ?_⟩
      refine ⟨_, rfl, p, C, dx, _, _, rfl, g1, T.cl, T.nT, ff_t _ _, _, rfl, q, C, dx', _, _, rfl, g1', T.cl, T.nT, ff_t _ _, t, t', us, us', ts, vs', rfl, s1 _ _ h2, h3.mono fun t xs w => s1 _ _ w, s1 _ _ h2', h3'.mono fun t xs w => s1 _ _ w, ?_, fun l xs H2 s2 nl hl hT => ?_⟩
      · have := ho.sz
        have := hv.sz
        omega
      · exact ⟨r, l, xs, _, rfl, .inl hl, hT, fun p' H' np s3 hf => k e p' H' ((s1.trans s2).free np) ((s1.trans s2).trans s3) (er ▸ hf)⟩
end
end DO

namespace DO
open PySem PySem.Spec PyProof.Rows L2
open AutoSeq1 (wpAny_loadPart')
/-! ### operators whose way out may hang on the slots -/
def OpS (X : Cx) (f : Value → Value → Sem Value) (r : L2.St → R2) : Prop :=
  ∀ (pins : List (Addr × Obj)) (s : Shared) (σ : L2.St) (H : Hp) (x y : V) (v u : Value) (Q : VK), L2.Inv X pins σ H s → RelV x v → RelV y u → r σ x y H Q → wpAny (model X.prog X.w) X.A (f v u) (EP X pins σ Q) X.xe s
def tOpS (r : L2.St → R2) (ta tb : TE) : TE := fun σ H Q => ta σ H fun x H1 => tb σ H1 fun y H2 => r σ x y H2 Q
section
variable {X : Cx} {a b : Expr} {ta tb : TE} {pos : Pos}
theorem pe_opS {op : Operator} {r : L2.St → R2} (ho : OpS X (binaryOp op) r) (ha : PE X a ta) (hb : PE X b tb) : PE X (.BinOp a op b pos) (tOpS r ta tb) := by
  refine ⟨fun pins s σ H Q I h => ?_⟩
  exact wpAny_BinOp (binT ha hb I h fun v u s2 x y H2 I2 rx ry q => ho pins s2 σ H2 x y v u Q I2 rx ry q)
theorem pe_cmpS {op : CmpOp} {r : L2.St → R2} (ho : OpS X (compareOp op) r) (ha : PE X a ta) (hb : PE X b tb) (hm : behindInMarks op b = false) : PE X (.Compare a [op] [b] pos) (tOpS r ta tb) := by
  refine ⟨fun pins s σ H Q I h => ?_⟩
  exact wpAny_Compare1 (binT ha hb I h fun v u s2 x y H2 I2 rx ry q => ho pins s2 σ H2 x y v u Q I2 rx ry q) hm
theorem OpS.or {f : Value → Value → Sem Value} {r r' : L2.St → R2} (h : OpS X f r) (h' : OpS X f r') : OpS X f (fun σ x y H Q => r σ x y H Q ∨ r' σ x y H Q) := by
  intro pins s σ H x y v u Q I rx ry q
  rcases q with q | q
  · exact h pins s σ H x y v u Q I rx ry q
  · exact h' pins s σ H x y v u Q I rx ry q
theorem OpS.of {f : Value → Value → Sem Value} {r : R2} (h : OpR X f r) : OpS X f (fun _ => r) := fun pins s σ H x y v u Q I rx ry q => h pins s σ H x y v u Q I rx ry q
end
section
variable {prog : Program} {w : World} {A : Around} {E : Value → Shared → Prop} {s : Shared} {a C : Addr} {dd : Option Addr} {sl : Array (Option Value)}
theorem dec_add {Q : Value → Shared → Prop} {x : Int} {t : Tok} (ha : s.heap.get? a = some { cls := .ref C, dict := dd, data := .plain, slots := sl }) (h : Q .notImplemented s) : wpAny (model prog w) A (call (.builtin "int.__add__") [.int x t, .ref a]) Q E s := by
  have h1 : s.TypeIs (.int x t) "int" := rfl
  have h2 := PySem.F.entry_int_add
  have h3 := PySem.F.args_int_add_2 (.int x t) (.ref a)
  have h4 := @PySem.F.slot_int_add
  refine GQ.call_here (name := PySem.dunder "add") h4 h1 h2 h3 ?_
  obtain ⟨hp, g, d, tk, os⟩ := s
  wp_walk using wpAny_loadPart' ha, wpAny_load ha
  exact h
open PySem.W in
theorem add_back {K : Frag} {h₀ : Heap} {L f g : Addr} {m : Str → Option Value} {n : Int} {t : Tok} {ox : Obj} {od : Option Obj} {fo ro : Option Value} {Q : Value → Shared → Prop} (F : Fr h₀ L s.heap m) (X₀ : K.In h₀) (I : InstAt s.heap a ox C od) (hc : selfFirst K C = true)
    (ha : s.heap.get? a = some { cls := .ref C, dict := dd, data := .plain, slots := sl })
    (hs : findIn K (.ref C) (PySem.dunder "add") = some (some (.ref g))) (hr : findIn K (.ref C) (dunderR "add") = some (some (.ref f))) (hf : isFn K (.ref f) = true)
    (h1 : findIn K (.type "int") (PySem.dunder "add") = some fo) (h2 : findIn K (.type "int") (dunderR "add") = some ro) (hb : ((fo.isSome && !isSeqSlot fo) || (ro.isSome && !isSeqSlot ro)) = true) (hsub : subIn K (.ref C) (.type "int") = some false)
    (h : wpAny (model prog w) A (call (.ref f) [.ref a, .int n t]) (PySem.W.CmpBack Q) E s) : wpAny (model prog w) A (binaryOp .Add (.int n t) (.ref a)) Q E s := by
  have X := X₀.keeps F.keep
  obtain ⟨cd, rest, hcd, hm⟩ := ksp_first hc
  have one := ksp_try X I hr hf h
  have dec : wpAny (model prog w) A (tryMethod (.int n t) (PySem.dunder "add") (.ref a)) (fun r s' => r = none ∧ s' = s) E s := by
    unfold tryMethod
    have h1 : s.TypeIs (.int n t) "int" := rfl
    have h4 := @PySem.F.slot_int_add
    refine wpAny_bind (wpAny_callSpecial?_slot (name := PySem.dunder "add") h1 h4 (dec_add ha ?_))
    exact wpAny_pure ⟨rfl, rfl⟩
  obtain ⟨hh, g', d, tt, os⟩ := s
  have L1 : Looks (model prog w) hh (typeOf (.ref a)) (.ref C) := I.type
  have L2 : Looks (model prog w) hh (typeOf (.int n t)) (.type "int") := Looks.of_pure rfl
  have L3 : Looks (model prog w) hh (fillsNumberSlot (.ref C) "add") true := fills_K X hcd hm hs
  have L4 : Looks (model prog w) hh (fillsNumberSlot (.type "int") "add") true := by
    have z := ksp_fillsT (M := model prog w) X h1 h2
    rw [hb] at z
    exact z
  have L5 : Looks (model prog w) hh (isSubtype (.ref C) (.type "int")) false := looks_subIn X hsub
  have L7 : Looks (model prog w) hh (numberSlotInPython (.type "int") "add") false := Looks.of_pure rfl
  have hne : (Value.type "int" == Value.ref C) = false := Bool.eq_false_iff.mpr fun q => by cases beq_iff_eq.mp q
  show wpAny _ _ (holding _ _) _ _ _
  refine wpAny_holding (wpAny_bind ?_)
  show wpAny _ _ (binaryOp1 "add" (.int n t) (.ref a)) _ _ _
  unfold binaryOp1
  refine wpAny_bind (L2.at (wpAny_bind (L1.at (wpAny_bind (L4.at ?_)))))
  simp only [hne, Bool.false_eq_true, if_false]
  refine wpAny_bind (L3.at ?_)
  simp only [if_true, Bool.and_self]
  refine wpAny_bind (L5.at ?_)
  simp only [Bool.false_eq_true, if_false, Bool.not_false, Bool.and_self, if_true]
  refine wpAny_bind (L7.at ?_)
  simp only [Bool.false_eq_true, if_false]
  refine wpAny_bind (wpAny_mono dec (fun r s' z => ?_) fun _ _ e => e)
  obtain ⟨rfl, rfl⟩ := z
  dsimp only
  refine wpAny_bind (wpAny_mono one (fun r s' z => ?_) fun _ _ e => e)
  obtain ⟨v, rfl, hq⟩ := z
  exact wpAny_bind (wpAny_rule (wpAny_pure (wpAny_pure hq)))
theorem dec_sub {Q : Value → Shared → Prop} {x : Int} {t : Tok} (ha : s.heap.get? a = some { cls := .ref C, dict := dd, data := .plain, slots := sl }) (h : Q .notImplemented s) : wpAny (model prog w) A (call (.builtin "int.__sub__") [.int x t, .ref a]) Q E s := by
  have h1 : s.TypeIs (.int x t) "int" := rfl
  have h2 := PySem.F.entry_int_sub
  have h3 := PySem.F.args_int_sub_2 (.int x t) (.ref a)
  have h4 := @PySem.F.slot_int_sub
  refine GQ.call_here (name := PySem.dunder "sub") h4 h1 h2 h3 ?_
  obtain ⟨hp, g, d, tk, os⟩ := s
  wp_walk using wpAny_loadPart' ha, wpAny_load ha
  exact h
open PySem.W in
theorem sub_back {K : Frag} {h₀ : Heap} {L f g : Addr} {m : Str → Option Value} {n : Int} {t : Tok} {ox : Obj} {od : Option Obj} {fo ro : Option Value} {Q : Value → Shared → Prop} (F : Fr h₀ L s.heap m) (X₀ : K.In h₀) (I : InstAt s.heap a ox C od) (hc : selfFirst K C = true)
    (ha : s.heap.get? a = some { cls := .ref C, dict := dd, data := .plain, slots := sl })
    (hs : findIn K (.ref C) (PySem.dunder "sub") = some (some (.ref g))) (hr : findIn K (.ref C) (dunderR "sub") = some (some (.ref f))) (hf : isFn K (.ref f) = true)
    (h1 : findIn K (.type "int") (PySem.dunder "sub") = some fo) (h2 : findIn K (.type "int") (dunderR "sub") = some ro) (hb : ((fo.isSome && !isSeqSlot fo) || (ro.isSome && !isSeqSlot ro)) = true) (hsub : subIn K (.ref C) (.type "int") = some false)
    (h : wpAny (model prog w) A (call (.ref f) [.ref a, .int n t]) (PySem.W.CmpBack Q) E s) : wpAny (model prog w) A (binaryOp .Sub (.int n t) (.ref a)) Q E s := by
  have X := X₀.keeps F.keep
  obtain ⟨cd, rest, hcd, hm⟩ := ksp_first hc
  have one := ksp_try X I hr hf h
  have dec : wpAny (model prog w) A (tryMethod (.int n t) (PySem.dunder "sub") (.ref a)) (fun r s' => r = none ∧ s' = s) E s := by
    unfold tryMethod
    have h1 : s.TypeIs (.int n t) "int" := rfl
    have h4 := @PySem.F.slot_int_sub
    refine wpAny_bind (wpAny_callSpecial?_slot (name := PySem.dunder "sub") h1 h4 (dec_sub ha ?_))
    exact wpAny_pure ⟨rfl, rfl⟩
  obtain ⟨hh, g', d, tt, os⟩ := s
  have L1 : Looks (model prog w) hh (typeOf (.ref a)) (.ref C) := I.type
  have L2 : Looks (model prog w) hh (typeOf (.int n t)) (.type "int") := Looks.of_pure rfl
  have L3 : Looks (model prog w) hh (fillsNumberSlot (.ref C) "sub") true := fills_K X hcd hm hs
  have L4 : Looks (model prog w) hh (fillsNumberSlot (.type "int") "sub") true := by
    have z := ksp_fillsT (M := model prog w) X h1 h2
    rw [hb] at z
    exact z
  have L5 : Looks (model prog w) hh (isSubtype (.ref C) (.type "int")) false := looks_subIn X hsub
  have L7 : Looks (model prog w) hh (numberSlotInPython (.type "int") "sub") false := Looks.of_pure rfl
  have hne : (Value.type "int" == Value.ref C) = false := Bool.eq_false_iff.mpr fun q => by cases beq_iff_eq.mp q
  show wpAny _ _ (holding _ _) _ _ _
  refine wpAny_holding (wpAny_bind ?_)
  show wpAny _ _ (binaryOp1 "sub" (.int n t) (.ref a)) _ _ _
  unfold binaryOp1
  refine wpAny_bind (L2.at (wpAny_bind (L1.at (wpAny_bind (L4.at ?_)))))
  simp only [hne, Bool.false_eq_true, if_false]
  refine wpAny_bind (L3.at ?_)
  simp only [if_true, Bool.and_self]
  refine wpAny_bind (L5.at ?_)
  simp only [Bool.false_eq_true, if_false, Bool.not_false, Bool.and_self, if_true]
  refine wpAny_bind (L7.at ?_)
  simp only [Bool.false_eq_true, if_false]
  refine wpAny_bind (wpAny_mono dec (fun r s' z => ?_) fun _ _ e => e)
  obtain ⟨rfl, rfl⟩ := z
  dsimp only
  refine wpAny_bind (wpAny_mono one (fun r s' z => ?_) fun _ _ e => e)
  obtain ⟨v, rfl, hq⟩ := z
  exact wpAny_bind (wpAny_rule (wpAny_pure (wpAny_pure hq)))
theorem dec_mul {Q : Value → Shared → Prop} {x : Int} {t : Tok} (ha : s.heap.get? a = some { cls := .ref C, dict := dd, data := .plain, slots := sl }) (h : Q .notImplemented s) : wpAny (model prog w) A (call (.builtin "int.__mul__") [.int x t, .ref a]) Q E s := by
  have h1 : s.TypeIs (.int x t) "int" := rfl
  have h2 := PySem.F.entry_int_mul
  have h3 := PySem.F.args_int_mul_2 (.int x t) (.ref a)
  have h4 := @PySem.F.slot_int_mul
  refine GQ.call_here (name := PySem.dunder "mul") h4 h1 h2 h3 ?_
  obtain ⟨hp, g, d, tk, os⟩ := s
  wp_walk using wpAny_loadPart' ha, wpAny_load ha
  exact h
open PySem.W in
theorem mul_back {K : Frag} {h₀ : Heap} {L f g : Addr} {m : Str → Option Value} {n : Int} {t : Tok} {ox : Obj} {od : Option Obj} {fo ro : Option Value} {Q : Value → Shared → Prop} (F : Fr h₀ L s.heap m) (X₀ : K.In h₀) (I : InstAt s.heap a ox C od) (hc : selfFirst K C = true)
    (ha : s.heap.get? a = some { cls := .ref C, dict := dd, data := .plain, slots := sl })
    (hs : findIn K (.ref C) (PySem.dunder "mul") = some (some (.ref g))) (hr : findIn K (.ref C) (dunderR "mul") = some (some (.ref f))) (hf : isFn K (.ref f) = true)
    (h1 : findIn K (.type "int") (PySem.dunder "mul") = some fo) (h2 : findIn K (.type "int") (dunderR "mul") = some ro) (hb : ((fo.isSome && !isSeqSlot fo) || (ro.isSome && !isSeqSlot ro)) = true) (hsub : subIn K (.ref C) (.type "int") = some false)
    (h : wpAny (model prog w) A (call (.ref f) [.ref a, .int n t]) (PySem.W.CmpBack Q) E s) : wpAny (model prog w) A (binaryOp .Mult (.int n t) (.ref a)) Q E s := by
  have X := X₀.keeps F.keep
  obtain ⟨cd, rest, hcd, hm⟩ := ksp_first hc
  have one := ksp_try X I hr hf h
  have dec : wpAny (model prog w) A (tryMethod (.int n t) (PySem.dunder "mul") (.ref a)) (fun r s' => r = none ∧ s' = s) E s := by
    unfold tryMethod
    have h1 : s.TypeIs (.int n t) "int" := rfl
    have h4 := @PySem.F.slot_int_mul
    refine wpAny_bind (wpAny_callSpecial?_slot (name := PySem.dunder "mul") h1 h4 (dec_mul ha ?_))
    exact wpAny_pure ⟨rfl, rfl⟩
  obtain ⟨hh, g', d, tt, os⟩ := s
  have L1 : Looks (model prog w) hh (typeOf (.ref a)) (.ref C) := I.type
  have L2 : Looks (model prog w) hh (typeOf (.int n t)) (.type "int") := Looks.of_pure rfl
  have L3 : Looks (model prog w) hh (fillsNumberSlot (.ref C) "mul") true := fills_K X hcd hm hs
  have L4 : Looks (model prog w) hh (fillsNumberSlot (.type "int") "mul") true := by
    have z := ksp_fillsT (M := model prog w) X h1 h2
    rw [hb] at z
    exact z
  have L5 : Looks (model prog w) hh (isSubtype (.ref C) (.type "int")) false := looks_subIn X hsub
  have L7 : Looks (model prog w) hh (numberSlotInPython (.type "int") "mul") false := Looks.of_pure rfl
  have hne : (Value.type "int" == Value.ref C) = false := Bool.eq_false_iff.mpr fun q => by cases beq_iff_eq.mp q
  show wpAny _ _ (holding _ _) _ _ _
  refine wpAny_holding (wpAny_bind ?_)
  show wpAny _ _ (binaryOp1 "mul" (.int n t) (.ref a)) _ _ _
  unfold binaryOp1
  refine wpAny_bind (L2.at (wpAny_bind (L1.at (wpAny_bind (L4.at ?_)))))
  simp only [hne, Bool.false_eq_true, if_false]
  refine wpAny_bind (L3.at ?_)
  simp only [if_true, Bool.and_self]
  refine wpAny_bind (L5.at ?_)
  simp only [Bool.false_eq_true, if_false, Bool.not_false, Bool.and_self, if_true]
  refine wpAny_bind (L7.at ?_)
  simp only [Bool.false_eq_true, if_false]
  refine wpAny_bind (wpAny_mono dec (fun r s' z => ?_) fun _ _ e => e)
  obtain ⟨rfl, rfl⟩ := z
  dsimp only
  refine wpAny_bind (wpAny_mono one (fun r s' z => ?_) fun _ _ e => e)
  obtain ⟨v, rfl, hq⟩ := z
  exact wpAny_bind (wpAny_rule (wpAny_pure (wpAny_pure hq)))
end
section
variable {prog : Program} {w : World} {A : Around} {R : Result → Shared → Prop} {E : Value → Shared → Prop} {s : Shared} {a l C : Addr} {dd : Option Addr} {dt : Data} {sl : Array (Option Value)} {Q : Value → Shared → Prop}
theorem dec_int_eq {x : Int} {t : Tok} (ha : s.heap.get? a = some { cls := .ref C, dict := dd, data := .plain, slots := sl }) (h : Q .notImplemented s) : wpAny (model prog w) A (call (.builtin "int.__eq__") [.int x t, .ref a]) Q E s := by
  refine GQ.call_here F.slot_int_eq (show s.TypeIs (.int x t) "int" from rfl) F.entry_int_eq (F.args_int_eq_2 _ _) ?_
  obtain ⟨hp, g, d, tk, os⟩ := s
  wp_walk using wpAny_loadPart' ha, wpAny_load ha
  exact h
/-- y == o, y of a built-in type whose own == declines -/
theorem rc_back_eq {K : PySem.W.Frag} {u : Value} {T id : String} {f : Addr} {ox : Obj} {od : Option Obj} (X : K.In s.heap) (hu : A.units < cLine) (ht : s.TypeIs u T) (slot : Slot T (cmpInfo .Eq).2.1 id)
    (dec : ∀ Q' : Value → Shared → Prop, Q' .notImplemented s → wpAny (model prog w) A (call (.builtin id) [u, .ref a]) Q' E s) (J : PySem.W.InstAt s.heap a ox C od) (hsub : PySem.W.subIn K (.ref C) (.type T) = some false)
    (hs : PySem.W.findIn K (.ref C) (cmpInfo .Eq).2.2 = some (some (.ref f))) (hf : PySem.W.isFn K (.ref f) = true) (h : wpAny (model prog w) A (call (.ref f) [.ref a, u]) (PySem.W.CmpBack Q) E s) :
    wpAny (model prog w) A (richCompare .Eq u (.ref a)) Q E s := by
  have one : wpAny (model prog w) A (tryCompare (.ref a) (cmpInfo .Eq).2.2 u) (fun r s' => ∃ v, r = some v ∧ Q v s') E s := by
    unfold tryCompare
    refine wpAny_bind (PySem.W.ifBound_K X J hs hf (wpAny_mono h (fun v s' hv => ?_) fun _ _ e => e))
    cases v <;> first | exact hv.elim | exact wpAny_pure ⟨_, rfl, hv⟩
  unfold richCompare
  simp only [ht.oneThing_none]
  refine wpAny_holding (wpAny_bind (wpAny_cRoomFor hu ?_))
  refine wpAny_bind (wpAny_typeOf ht (wpAny_bind (J.type.here ?_)))
  have hne : (Value.type T != Value.ref C) = true := by simp
  simp only [hne, if_true]
  refine wpAny_bind ((PySem.W.looks_subIn X hsub).here ?_)
  simp only [Bool.false_eq_true, if_false]
  refine wpAny_bind (m := tryCompare u _ (.ref a)) (wpAny_tryCompare_declines ht slot (dec _ ⟨rfl, ?_⟩))
  simp only [Bool.not_false, if_true]
  refine wpAny_bind (wpAny_mono one (fun r s' z => ?_) fun _ _ e => e)
  obtain ⟨v, rfl, hq⟩ := z
  exact wpAny_pure hq
theorem dec_int_le {x : Int} {t : Tok} (ha : s.heap.get? a = some { cls := .ref C, dict := dd, data := .plain, slots := sl }) (h : Q .notImplemented s) : wpAny (model prog w) A (call (.builtin "int.__le__") [.int x t, .ref a]) Q E s := by
  refine GQ.call_here F.slot_int_le (show s.TypeIs (.int x t) "int" from rfl) F.entry_int_le (F.args_int_le_2 _ _) ?_
  obtain ⟨hp, g, d, tk, os⟩ := s
  wp_walk using wpAny_loadPart' ha, wpAny_load ha
  exact h
/-- y == o, y of a built-in type whose own == declines -/
theorem rc_back_le {K : PySem.W.Frag} {u : Value} {T id : String} {f : Addr} {ox : Obj} {od : Option Obj} (X : K.In s.heap) (hu : A.units < cLine) (ht : s.TypeIs u T) (slot : Slot T (cmpInfo .LtE).2.1 id)
    (dec : ∀ Q' : Value → Shared → Prop, Q' .notImplemented s → wpAny (model prog w) A (call (.builtin id) [u, .ref a]) Q' E s) (J : PySem.W.InstAt s.heap a ox C od) (hsub : PySem.W.subIn K (.ref C) (.type T) = some false)
    (hs : PySem.W.findIn K (.ref C) (cmpInfo .LtE).2.2 = some (some (.ref f))) (hf : PySem.W.isFn K (.ref f) = true) (h : wpAny (model prog w) A (call (.ref f) [.ref a, u]) (PySem.W.CmpBack Q) E s) :
    wpAny (model prog w) A (richCompare .LtE u (.ref a)) Q E s := by
  have one : wpAny (model prog w) A (tryCompare (.ref a) (cmpInfo .LtE).2.2 u) (fun r s' => ∃ v, r = some v ∧ Q v s') E s := by
    unfold tryCompare
    refine wpAny_bind (PySem.W.ifBound_K X J hs hf (wpAny_mono h (fun v s' hv => ?_) fun _ _ e => e))
    cases v <;> first | exact hv.elim | exact wpAny_pure ⟨_, rfl, hv⟩
  unfold richCompare
  simp only [ht.oneThing_none]
  refine wpAny_holding (wpAny_bind (wpAny_cRoomFor hu ?_))
  refine wpAny_bind (wpAny_typeOf ht (wpAny_bind (J.type.here ?_)))
  have hne : (Value.type T != Value.ref C) = true := by simp
  simp only [hne, if_true]
  refine wpAny_bind ((PySem.W.looks_subIn X hsub).here ?_)
  simp only [Bool.false_eq_true, if_false]
  refine wpAny_bind (m := tryCompare u _ (.ref a)) (wpAny_tryCompare_declines ht slot (dec _ ⟨rfl, ?_⟩))
  simp only [Bool.not_false, if_true]
  refine wpAny_bind (wpAny_mono one (fun r s' z => ?_) fun _ _ e => e)
  obtain ⟨v, rfl, hq⟩ := z
  exact wpAny_pure hq
theorem dec_int_ge {x : Int} {t : Tok} (ha : s.heap.get? a = some { cls := .ref C, dict := dd, data := .plain, slots := sl }) (h : Q .notImplemented s) : wpAny (model prog w) A (call (.builtin "int.__ge__") [.int x t, .ref a]) Q E s := by
  refine GQ.call_here F.slot_int_ge (show s.TypeIs (.int x t) "int" from rfl) F.entry_int_ge (F.args_int_ge_2 _ _) ?_
  obtain ⟨hp, g, d, tk, os⟩ := s
  wp_walk using wpAny_loadPart' ha, wpAny_load ha
  exact h
/-- y == o, y of a built-in type whose own == declines -/
theorem rc_back_ge {K : PySem.W.Frag} {u : Value} {T id : String} {f : Addr} {ox : Obj} {od : Option Obj} (X : K.In s.heap) (hu : A.units < cLine) (ht : s.TypeIs u T) (slot : Slot T (cmpInfo .GtE).2.1 id)
    (dec : ∀ Q' : Value → Shared → Prop, Q' .notImplemented s → wpAny (model prog w) A (call (.builtin id) [u, .ref a]) Q' E s) (J : PySem.W.InstAt s.heap a ox C od) (hsub : PySem.W.subIn K (.ref C) (.type T) = some false)
    (hs : PySem.W.findIn K (.ref C) (cmpInfo .GtE).2.2 = some (some (.ref f))) (hf : PySem.W.isFn K (.ref f) = true) (h : wpAny (model prog w) A (call (.ref f) [.ref a, u]) (PySem.W.CmpBack Q) E s) :
    wpAny (model prog w) A (richCompare .GtE u (.ref a)) Q E s := by
  have one : wpAny (model prog w) A (tryCompare (.ref a) (cmpInfo .GtE).2.2 u) (fun r s' => ∃ v, r = some v ∧ Q v s') E s := by
    unfold tryCompare
    refine wpAny_bind (PySem.W.ifBound_K X J hs hf (wpAny_mono h (fun v s' hv => ?_) fun _ _ e => e))
    cases v <;> first | exact hv.elim | exact wpAny_pure ⟨_, rfl, hv⟩
  unfold richCompare
  simp only [ht.oneThing_none]
  refine wpAny_holding (wpAny_bind (wpAny_cRoomFor hu ?_))
  refine wpAny_bind (wpAny_typeOf ht (wpAny_bind (J.type.here ?_)))
  have hne : (Value.type T != Value.ref C) = true := by simp
  simp only [hne, if_true]
  refine wpAny_bind ((PySem.W.looks_subIn X hsub).here ?_)
  simp only [Bool.false_eq_true, if_false]
  refine wpAny_bind (m := tryCompare u _ (.ref a)) (wpAny_tryCompare_declines ht slot (dec _ ⟨rfl, ?_⟩))
  simp only [Bool.not_false, if_true]
  refine wpAny_bind (wpAny_mono one (fun r s' z => ?_) fun _ _ e => e)
  obtain ⟨v, rfl, hq⟩ := z
  exact wpAny_pure hq
end
section
variable {X : Cx} {CX : CXT} {k : Nat} {C f g : Addr} {fd : FuncData} {ps : List Str} {sp : Sp} {E : L2.St → XK}
theorem run_back {pins : List (Addr × Obj)} {σ : L2.St} {H : Hp} {s : Shared} {Q : VK} {us : List Value} {vs : List V} (F : FnOk X.prog X.w X.K X.mg X.base CX k f fd ps sp) (hr : Room k X.A) (hb : Binds X.K fd ps []) (hx : PassesAt CX X σ (E σ)) (I : L2.Inv X pins σ H s) (r : Vals vs us) (q : sp vs H Q (E σ)) :
    wpAny (model X.prog X.w) X.A (call (.ref f) us) (PySem.W.CmpBack (EP X pins σ Q)) X.xe s :=
  wpAny_mono (run_fnS F hr hb hx I r q) (fun r s' z => by
    obtain ⟨v', H', I', rz, q'⟩ := z
    exact SlX.cmpback rz ⟨v', H', I', rz, q'⟩) fun _ _ x => x
/-- o op o' -/
def rBinOS (C : Addr) (sp : Sp) (E : L2.St → XK) : L2.St → R2 := fun σ x y H Q => ∃ a dx fs b dy gs, x = .ref a ∧ y = .ref b ∧ H a = some (.ins C dx fs) ∧ H b = some (.ins C dy gs) ∧ sp [x, y] H Q (E σ)
theorem op_binOS {op : Operator} {nm : Str} (hn : PySem.dunder op.info.2 = nm) (M : Meth X.K C nm f) (hc : PySem.W.selfFirst X.K C = true) (F : FnOk X.prog X.w X.K X.mg X.base CX k f fd ps sp) (hr : Room k X.A) (hb : Binds X.K fd ps []) (hx : ∀ σ, PassesAt CX X σ (E σ)) : OpS X (binaryOp op) (rBinOS C sp E) := by
  intro pins s σ H x y v u Q I rx ry h
  obtain ⟨a, dx, fs, b, dy, gs, rfl, rfl, ha, hb', q⟩ := h
  obtain rfl : v = Value.ref a := rx
  obtain rfl : u = Value.ref b := ry
  obtain ⟨ox, od, J⟩ := inst_of I ha
  obtain ⟨oy, od', J'⟩ := inst_of I hb'
  obtain ⟨m, hF⟩ := I.fr
  subst hn
  exact PySem.W.binop_K hF I.ok.mod.kin J J'.type hc M.at_ M.fn (run_back (us := [.ref a, .ref b]) (vs := [.ref a, .ref b]) F hr hb (hx σ) I (.cons rfl (.cons rfl .nil)) q)
/-- o op n -/
def rBinIS (C : Addr) (sp : Sp) (E : L2.St → XK) : L2.St → R2 := fun σ x y H Q => ∃ a dx fs, ∃ n : Int, x = .ref a ∧ y = .int n ∧ H a = some (.ins C dx fs) ∧ sp [x, y] H Q (E σ)
theorem op_binIS {op : Operator} {nm nr : Str} {fo ro rc : Option Value} (hn : PySem.dunder op.info.2 = nm) (hn' : dunderR op.info.2 = nr) (M : Meth X.K C nm f) (hc : PySem.W.selfFirst X.K C = true)
    (hrr : PySem.W.findIn X.K (.ref C) nr = some rc) (hp : rc = none ∨ ∃ g : Addr, rc = some (.ref g)) (h1 : PySem.W.findIn X.K (.type "int") nm = some fo) (h2 : PySem.W.findIn X.K (.type "int") nr = some ro) (hsub : PySem.W.subIn X.K (.type "int") (.ref C) = some false)
    (F : FnOk X.prog X.w X.K X.mg X.base CX k f fd ps sp) (hr : Room k X.A) (hb : Binds X.K fd ps []) (hx : ∀ σ, PassesAt CX X σ (E σ)) : OpS X (binaryOp op) (rBinIS C sp E) := by
  intro pins s σ H x y v u Q I rx ry h
  obtain ⟨a, dx, fs, n, rfl, rfl, ha, q⟩ := h
  obtain rfl : v = Value.ref a := rx
  obtain ⟨t, rfl⟩ := ry
  obtain ⟨ox, od, J⟩ := inst_of I ha
  obtain ⟨m, hF⟩ := I.fr
  subst hn
  subst hn'
  exact PySem.W.ksp_binT hF I.ok.mod.kin J (T := "int") rfl hc M.at_ M.fn hrr hp h1 h2 hsub (run_back (us := [.ref a, .int n t]) (vs := [.ref a, .int n]) F hr hb (hx σ) I (.cons rfl (.cons ⟨t, rfl⟩ .nil)) q)
/-- n op o -/
def rIntOS (C : Addr) (sp : Sp) (E : L2.St → XK) : L2.St → R2 := fun σ x y H Q => ∃ a dx fs, ∃ n : Int, x = .int n ∧ y = .ref a ∧ H a = some (.ins C dx fs) ∧ sp [y, x] H Q (E σ)
theorem op_intOS_add {fo ro : Option Value} (MM : Meth X.K C "__add__" g) (M : Meth X.K C "__radd__" f) (hc : PySem.W.selfFirst X.K C = true) (h1 : PySem.W.findIn X.K (.type "int") "__add__" = some fo) (h2 : PySem.W.findIn X.K (.type "int") "__radd__" = some ro)
    (hb' : ((fo.isSome && !isSeqSlot fo) || (ro.isSome && !isSeqSlot ro)) = true) (hsub : PySem.W.subIn X.K (.ref C) (.type "int") = some false)
    (F : FnOk X.prog X.w X.K X.mg X.base CX k f fd ps sp) (hr : Room k X.A) (hb : Binds X.K fd ps []) (hx : ∀ σ, PassesAt CX X σ (E σ)) : OpS X (binaryOp .Add) (rIntOS C sp E) := by
  intro pins s σ H x y v u Q I rx ry h
  obtain ⟨a, dx, fs, n, rfl, rfl, ha, q⟩ := h
  obtain rfl : u = Value.ref a := ry
  obtain ⟨t, rfl⟩ := rx
  obtain ⟨ox, od, J⟩ := inst_of I ha
  obtain ⟨m, hF⟩ := I.fr
  obtain ⟨_, _, _, hob, _⟩ := I.hok _ _ ha
  have d1 : PySem.dunder "add" = ("__add__" : Str) := by decide +kernel
  have d2 : dunderR "add" = ("__radd__" : Str) := by decide +kernel
  exact add_back hF I.ok.mod.kin J hc hob (by rw [d1]; exact MM.at_) (by rw [d2]; exact M.at_) M.fn (by rw [d1]; exact h1) (by rw [d2]; exact h2) hb' hsub (run_back (us := [.ref a, .int n t]) (vs := [.ref a, .int n]) F hr hb (hx σ) I (.cons rfl (.cons ⟨t, rfl⟩ .nil)) q)
theorem op_intOS_sub {fo ro : Option Value} (MM : Meth X.K C "__sub__" g) (M : Meth X.K C "__rsub__" f) (hc : PySem.W.selfFirst X.K C = true) (h1 : PySem.W.findIn X.K (.type "int") "__sub__" = some fo) (h2 : PySem.W.findIn X.K (.type "int") "__rsub__" = some ro)
    (hb' : ((fo.isSome && !isSeqSlot fo) || (ro.isSome && !isSeqSlot ro)) = true) (hsub : PySem.W.subIn X.K (.ref C) (.type "int") = some false)
    (F : FnOk X.prog X.w X.K X.mg X.base CX k f fd ps sp) (hr : Room k X.A) (hb : Binds X.K fd ps []) (hx : ∀ σ, PassesAt CX X σ (E σ)) : OpS X (binaryOp .Sub) (rIntOS C sp E) := by
  intro pins s σ H x y v u Q I rx ry h
  obtain ⟨a, dx, fs, n, rfl, rfl, ha, q⟩ := h
  obtain rfl : u = Value.ref a := ry
  obtain ⟨t, rfl⟩ := rx
  obtain ⟨ox, od, J⟩ := inst_of I ha
  obtain ⟨m, hF⟩ := I.fr
  obtain ⟨_, _, _, hob, _⟩ := I.hok _ _ ha
  have d1 : PySem.dunder "sub" = ("__sub__" : Str) := by decide +kernel
  have d2 : dunderR "sub" = ("__rsub__" : Str) := by decide +kernel
  exact sub_back hF I.ok.mod.kin J hc hob (by rw [d1]; exact MM.at_) (by rw [d2]; exact M.at_) M.fn (by rw [d1]; exact h1) (by rw [d2]; exact h2) hb' hsub (run_back (us := [.ref a, .int n t]) (vs := [.ref a, .int n]) F hr hb (hx σ) I (.cons rfl (.cons ⟨t, rfl⟩ .nil)) q)
theorem op_intOS_mul {fo ro : Option Value} (MM : Meth X.K C "__mul__" g) (M : Meth X.K C "__rmul__" f) (hc : PySem.W.selfFirst X.K C = true) (h1 : PySem.W.findIn X.K (.type "int") "__mul__" = some fo) (h2 : PySem.W.findIn X.K (.type "int") "__rmul__" = some ro)
    (hb' : ((fo.isSome && !isSeqSlot fo) || (ro.isSome && !isSeqSlot ro)) = true) (hsub : PySem.W.subIn X.K (.ref C) (.type "int") = some false)
    (F : FnOk X.prog X.w X.K X.mg X.base CX k f fd ps sp) (hr : Room k X.A) (hb : Binds X.K fd ps []) (hx : ∀ σ, PassesAt CX X σ (E σ)) : OpS X (binaryOp .Mult) (rIntOS C sp E) := by
  intro pins s σ H x y v u Q I rx ry h
  obtain ⟨a, dx, fs, n, rfl, rfl, ha, q⟩ := h
  obtain rfl : u = Value.ref a := ry
  obtain ⟨t, rfl⟩ := rx
  obtain ⟨ox, od, J⟩ := inst_of I ha
  obtain ⟨m, hF⟩ := I.fr
  obtain ⟨_, _, _, hob, _⟩ := I.hok _ _ ha
  have d1 : PySem.dunder "mul" = ("__mul__" : Str) := by decide +kernel
  have d2 : dunderR "mul" = ("__rmul__" : Str) := by decide +kernel
  exact mul_back hF I.ok.mod.kin J hc hob (by rw [d1]; exact MM.at_) (by rw [d2]; exact M.at_) M.fn (by rw [d1]; exact h1) (by rw [d2]; exact h2) hb' hsub (run_back (us := [.ref a, .int n t]) (vs := [.ref a, .int n]) F hr hb (hx σ) I (.cons rfl (.cons ⟨t, rfl⟩ .nil)) q)
/-- o cmp y: y of the class, or an int -/
def rCmpOS (C : Addr) (sp : Sp) (E : L2.St → XK) : L2.St → R2 := fun σ x y H Q => ∃ a dx fs, x = .ref a ∧ H a = some (.ins C dx fs) ∧ ((∃ b dy gs, y = .ref b ∧ H b = some (.ins C dy gs)) ∨ ∃ n : Int, y = .int n) ∧ sp [x, y] H Q (E σ)
/-- n cmp o -/
def rCmpIS (C : Addr) (sp : Sp) (E : L2.St → XK) : L2.St → R2 := fun σ x y H Q => ∃ a dx fs, ∃ n : Int, x = .int n ∧ y = .ref a ∧ H a = some (.ins C dx fs) ∧ sp [y, x] H Q (E σ)
theorem op_cmpOS_eq (M : Meth X.K C "__eq__" f) (hnf : PySem.W.notFirst X.K C (.type "int") = true) (F : FnOk X.prog X.w X.K X.mg X.base CX k f fd ps sp) (hr : Room k X.A) (hb : Binds X.K fd ps []) (hx : ∀ σ, PassesAt CX X σ (E σ)) : OpS X (compareOp .Eq) (rCmpOS C sp E) := by
  intro pins s σ H x y v u Q I rx ry h
  obtain ⟨a, dx, fs, rfl, ha, hy, q⟩ := h
  obtain rfl : v = Value.ref a := rx
  obtain ⟨ox, od, J⟩ := inst_of I ha
  obtain ⟨m, hF⟩ := I.fr
  have hc := run_back (us := [.ref a, u]) (vs := [.ref a, y]) F hr hb (hx σ) I (.cons rfl (.cons ry .nil)) q
  show wpAny (model X.prog X.w) X.A (richCompare .Eq (.ref a) u) (EP X pins σ Q) X.xe s
  rcases hy with ⟨b, dy, gs, rfl, hb'⟩ | ⟨n, rfl⟩
  · obtain rfl : u = Value.ref b := ry
    obtain ⟨oy, od', J'⟩ := inst_of I hb'
    exact PySem.W.cmp_K (op := .Eq) (tb := .ref C) hr.units0 hF I.ok.mod.kin J J'.type (by simp [PySem.W.notFirst]) M.at_ M.fn hc
  · obtain ⟨t, rfl⟩ := ry
    exact PySem.W.cmp_K (op := .Eq) (tb := .type "int") hr.units0 hF I.ok.mod.kin J (PySem.W.Looks.of_pure rfl) hnf M.at_ M.fn hc
theorem op_cmpIS_eq (M : Meth X.K C "__eq__" f) (hsub : PySem.W.subIn X.K (.ref C) (.type "int") = some false) (F : FnOk X.prog X.w X.K X.mg X.base CX k f fd ps sp) (hr : Room k X.A) (hb : Binds X.K fd ps []) (hx : ∀ σ, PassesAt CX X σ (E σ)) : OpS X (compareOp .Eq) (rCmpIS C sp E) := by
  intro pins s σ H x y v u Q I rx ry h
  obtain ⟨a, dx, fs, n, rfl, rfl, ha, q⟩ := h
  obtain rfl : u = Value.ref a := ry
  obtain ⟨t, rfl⟩ := rx
  obtain ⟨ox, od, J⟩ := inst_of I ha
  obtain ⟨_, _, _, hob, _⟩ := I.hok _ _ ha
  have hc := run_back (us := [.ref a, .int n t]) (vs := [.ref a, .int n]) F hr hb (hx σ) I (.cons rfl (.cons ⟨t, rfl⟩ .nil)) q
  show wpAny (model X.prog X.w) X.A (richCompare .Eq (.int n t) (.ref a)) (EP X pins σ Q) X.xe s
  exact rc_back_eq I.kIn hr.units0 (T := "int") rfl PySem.F.slot_int_eq (fun Q' h' => dec_int_eq hob h') J hsub M.at_ M.fn hc
theorem op_cmpOS_le (M : Meth X.K C "__le__" f) (hnf : PySem.W.notFirst X.K C (.type "int") = true) (F : FnOk X.prog X.w X.K X.mg X.base CX k f fd ps sp) (hr : Room k X.A) (hb : Binds X.K fd ps []) (hx : ∀ σ, PassesAt CX X σ (E σ)) : OpS X (compareOp .LtE) (rCmpOS C sp E) := by
  intro pins s σ H x y v u Q I rx ry h
  obtain ⟨a, dx, fs, rfl, ha, hy, q⟩ := h
  obtain rfl : v = Value.ref a := rx
  obtain ⟨ox, od, J⟩ := inst_of I ha
  obtain ⟨m, hF⟩ := I.fr
  have hc := run_back (us := [.ref a, u]) (vs := [.ref a, y]) F hr hb (hx σ) I (.cons rfl (.cons ry .nil)) q
  show wpAny (model X.prog X.w) X.A (richCompare .LtE (.ref a) u) (EP X pins σ Q) X.xe s
  rcases hy with ⟨b, dy, gs, rfl, hb'⟩ | ⟨n, rfl⟩
  · obtain rfl : u = Value.ref b := ry
    obtain ⟨oy, od', J'⟩ := inst_of I hb'
    exact PySem.W.cmp_K (op := .LtE) (tb := .ref C) hr.units0 hF I.ok.mod.kin J J'.type (by simp [PySem.W.notFirst]) M.at_ M.fn hc
  · obtain ⟨t, rfl⟩ := ry
    exact PySem.W.cmp_K (op := .LtE) (tb := .type "int") hr.units0 hF I.ok.mod.kin J (PySem.W.Looks.of_pure rfl) hnf M.at_ M.fn hc
theorem op_cmpIS_le (M : Meth X.K C "__ge__" f) (hsub : PySem.W.subIn X.K (.ref C) (.type "int") = some false) (F : FnOk X.prog X.w X.K X.mg X.base CX k f fd ps sp) (hr : Room k X.A) (hb : Binds X.K fd ps []) (hx : ∀ σ, PassesAt CX X σ (E σ)) : OpS X (compareOp .LtE) (rCmpIS C sp E) := by
  intro pins s σ H x y v u Q I rx ry h
  obtain ⟨a, dx, fs, n, rfl, rfl, ha, q⟩ := h
  obtain rfl : u = Value.ref a := ry
  obtain ⟨t, rfl⟩ := rx
  obtain ⟨ox, od, J⟩ := inst_of I ha
  obtain ⟨_, _, _, hob, _⟩ := I.hok _ _ ha
  have hc := run_back (us := [.ref a, .int n t]) (vs := [.ref a, .int n]) F hr hb (hx σ) I (.cons rfl (.cons ⟨t, rfl⟩ .nil)) q
  show wpAny (model X.prog X.w) X.A (richCompare .LtE (.int n t) (.ref a)) (EP X pins σ Q) X.xe s
  exact rc_back_le I.kIn hr.units0 (T := "int") rfl PySem.F.slot_int_le (fun Q' h' => dec_int_le hob h') J hsub M.at_ M.fn hc
theorem op_cmpOS_ge (M : Meth X.K C "__ge__" f) (hnf : PySem.W.notFirst X.K C (.type "int") = true) (F : FnOk X.prog X.w X.K X.mg X.base CX k f fd ps sp) (hr : Room k X.A) (hb : Binds X.K fd ps []) (hx : ∀ σ, PassesAt CX X σ (E σ)) : OpS X (compareOp .GtE) (rCmpOS C sp E) := by
  intro pins s σ H x y v u Q I rx ry h
  obtain ⟨a, dx, fs, rfl, ha, hy, q⟩ := h
  obtain rfl : v = Value.ref a := rx
  obtain ⟨ox, od, J⟩ := inst_of I ha
  obtain ⟨m, hF⟩ := I.fr
  have hc := run_back (us := [.ref a, u]) (vs := [.ref a, y]) F hr hb (hx σ) I (.cons rfl (.cons ry .nil)) q
  show wpAny (model X.prog X.w) X.A (richCompare .GtE (.ref a) u) (EP X pins σ Q) X.xe s
  rcases hy with ⟨b, dy, gs, rfl, hb'⟩ | ⟨n, rfl⟩
  · obtain rfl : u = Value.ref b := ry
    obtain ⟨oy, od', J'⟩ := inst_of I hb'
    exact PySem.W.cmp_K (op := .GtE) (tb := .ref C) hr.units0 hF I.ok.mod.kin J J'.type (by simp [PySem.W.notFirst]) M.at_ M.fn hc
  · obtain ⟨t, rfl⟩ := ry
    exact PySem.W.cmp_K (op := .GtE) (tb := .type "int") hr.units0 hF I.ok.mod.kin J (PySem.W.Looks.of_pure rfl) hnf M.at_ M.fn hc
theorem op_cmpIS_ge (M : Meth X.K C "__le__" f) (hsub : PySem.W.subIn X.K (.ref C) (.type "int") = some false) (F : FnOk X.prog X.w X.K X.mg X.base CX k f fd ps sp) (hr : Room k X.A) (hb : Binds X.K fd ps []) (hx : ∀ σ, PassesAt CX X σ (E σ)) : OpS X (compareOp .GtE) (rCmpIS C sp E) := by
  intro pins s σ H x y v u Q I rx ry h
  obtain ⟨a, dx, fs, n, rfl, rfl, ha, q⟩ := h
  obtain rfl : u = Value.ref a := ry
  obtain ⟨t, rfl⟩ := rx
  obtain ⟨ox, od, J⟩ := inst_of I ha
  obtain ⟨_, _, _, hob, _⟩ := I.hok _ _ ha
  have hc := run_back (us := [.ref a, .int n t]) (vs := [.ref a, .int n]) F hr hb (hx σ) I (.cons rfl (.cons ⟨t, rfl⟩ .nil)) q
  show wpAny (model X.prog X.w) X.A (richCompare .GtE (.int n t) (.ref a)) (EP X pins σ Q) X.xe s
  exact rc_back_ge I.kIn hr.units0 (T := "int") rfl PySem.F.slot_int_ge (fun Q' h' => dec_int_ge hob h') J hsub M.at_ M.fn hc
end
end DO

namespace DO
open PySem PySem.Spec PyProof.Rows L2
section
variable {P : Program} {w : World} {K : PySem.W.Frag} {mg : Str → Option Value} {base : Heap}
/-- what the built-in int says of + and - -/
structure FrmA (K : PySem.W.Frag) : Prop where
  ia : PySem.W.findIn K (.type "int") "__add__" = some (some (.builtin "int.__add__"))
  ira : PySem.W.findIn K (.type "int") "__radd__" = some (some (.builtin "int.__radd__"))
  is_ : PySem.W.findIn K (.type "int") "__sub__" = some (some (.builtin "int.__sub__"))
  irs : PySem.W.findIn K (.type "int") "__rsub__" = some (some (.builtin "int.__rsub__"))
theorem kit_int {K : PySem.W.Frag} {C : Addr} : PySem.W.kitAny K (.type "int") [.type "int", .ref C] = some true := kitAny_cons (b := true) (kit_ty (by decide +kernel)) (fun z => by cases z) (fun _ => rfl)
theorem kit_frm {C : Addr} (T : Frm K mg C) : PySem.W.kitAny K (.ref C) [.type "int", .ref C] = some true := kitAny_cons (b := false) T.kJ (fun _ => kitAny_cons (b := true) T.kC (fun z => by cases z) (fun _ => rfl)) (fun z => by cases z)
/-! ### scaled terms -/
theorem mulT_nms {t : Int} (h : t ≠ 0) (ts : List Tm) : nms (mulT t ts) = nms ts := by
  unfold mulT nms
  rw [if_neg h, List.map_map]
  rfl
theorem mulT_ok {t : Int} {ts : List Tm} (o : TsOk ts) : TsOk (mulT t ts) := by
  by_cases h : t = 0
  · unfold mulT
    rw [if_pos h]
    exact ⟨List.nodup_nil, fun x hx => (by simp at hx), Nat.zero_le _⟩
  · refine ⟨by rw [mulT_nms h]; exact o.nd, ?_, ?_⟩
    · unfold mulT
      rw [if_neg h]
      intro x hx
      obtain ⟨y, hy, rfl⟩ := List.mem_map.mp hx
      exact o.ok y hy
    · unfold mulT
      rw [if_neg h, List.length_map]
      exact o.sz
theorem unl_mul {t : Int} (h : t ≠ 0) (ts us : List Tm) : unl ts (mulT t us) = unl ts us := by
  unfold unl mulT
  rw [if_neg h, List.find?_map, Option.map_map]
  rfl
def subS (ts us : List Tm) : List Tm := addS ts (mulT (-1) us)
theorem bd_mul1 {B : Nat} {n : Int} {ts : List Tm} (h : Bd B n ts) : Bd B (n * -1) (mulT (-1) ts) := by
  refine ⟨by have := h.1; omega, fun x hx => ?_⟩
  unfold mulT at hx
  rw [if_neg (by decide)] at hx
  obtain ⟨y, hy, rfl⟩ := List.mem_map.mp hx
  obtain ⟨h1, h2, h3⟩ := h.2 y hy
  refine ⟨?_, h2, h3⟩
  show (y.k * -1).natAbs < 2 ^ B
  omega
abbrev sRadd : Stmt := inClass sCls 2
theorem scRadd : FnScope ["self", "other"] ["self", "other"] (defScope sRadd) := ⟨rfl, rfl, rfl, by decide +kernel, rfl, by decide +kernel, by decide +kernel⟩
def spAddI (C : Addr) : Sp := fun vs H Q _ => ∃ (p : Addr) (n i : Int) (ts : List Tm), vs = [.ref p, .int i] ∧ FormAt C H p n ts ∧ TsOk ts ∧ ∀ r H', H r = none → Same H H' → FormAt C H' r (n + i) ts → Q (.ref r) H'
theorem ok_radd {C CU : Addr} (T : Frm K mg C) (MA : Mf K C "__add__" "Form.__add__" sAdd ["self", "other"]) (GA : FnOk P w K mg base (L2N.CX P w) 5 MA.f MA.fd ["self", "other"] (spAdd K C CU)) (MRA : Mf K C "__radd__" "Form.__radd__" sRadd ["self", "other"]) (TA : FrmA K) : FnOk P w K mg base (L2N.CX P w) 6 MRA.f MRA.fd ["self", "other"] (spAddI C) := by
  refine okN MRA.fn scRadd (fun vs H Q E h => ?_) (fun cdv A outer s H vs Q E hr h => ?_)
  · obtain ⟨p, n, i, ts, rfl, _⟩ := h
    rfl
  · obtain ⟨p, n, i, ts, rfl, hp, ho, k⟩ := h
    refine ⟨_, (pss_one (ps_ret (pe_opS (op_binIS (op := .Add) rfl rfl MA.me T.sf MRA.me.at_ (.inr ⟨_, rfl⟩) TA.ia TA.ira T.sI GA hr MA.bd (L2N.passAt (L2N.takes_of rfl rfl rfl rfl))) (pv 0) (pv 1)))), ?_⟩
    obtain ⟨dx, t, us, h1, h2, h3⟩ := id hp
    exact ⟨_, rfl, _, rfl, p, dx, _, i, rfl, rfl, h1, p, n, ts, _, rfl, hp, ho, .inl ⟨i, rfl, k⟩⟩
abbrev sSub : Stmt := inClass sCls 3
theorem scSub : FnScope ["self", "other"] ["self", "other"] (defScope sSub) := ⟨rfl, rfl, rfl, by decide +kernel, rfl, by decide +kernel, by decide +kernel⟩
def spSub (C CU : Addr) : Sp := fun vs H Q E => ∃ (p : Addr) (n : Int) (ts : List Tm) (y : V), vs = [.ref p, y] ∧ FormAt C H p n ts ∧ TsOk ts ∧
  ((∃ i : Int, y = .int i ∧ ∀ r H', H r = none → Same H H' → FormAt C H' r (n - i) ts → Q (.ref r) H') ∨
   ∃ (q : Addr) (m : Int) (us : List Tm), y = .ref q ∧ FormAt C H q m us ∧ TsOk us ∧ Bd 9000 m us ∧ (∀ w, unl ts us = some w → Thrown E CU H [("name", .str w)]) ∧ (unl ts us = none → ∀ r H', H r = none → Same H H' → FormAt C H' r (n - m) (subS ts us) → Q (.ref r) H'))
theorem ok_sub {C CU : Addr} (T : Frm K mg C) (MS : Mf K C "__sub__" "Form.__sub__" sSub ["self", "other"]) (MA : Mf K C "__add__" "Form.__add__" sAdd ["self", "other"]) (GA : FnOk P w K mg base (L2N.CX P w) 5 MA.f MA.fd ["self", "other"] (spAdd K C CU)) (MRA : Mf K C "__radd__" "Form.__radd__" sRadd ["self", "other"]) (TA : FrmA K) (MM : Mf K C "__mul__" "Form.__mul__" sMul ["self", "other"]) (GM : FnOk P w K mg base CX0 4 MM.f MM.fd ["self", "other"] (spMul C)) (MR : Mf K C "__rmul__" "Form.__rmul__" sRmu ["self", "other"]) (TM : FrmM K C) (mis : mg "isinstance" = none) (mint : mg "int" = none) : FnOk P w K mg base (L2N.CX P w) 6 MS.f MS.fd ["self", "other"] (spSub C CU) := by
  refine okN MS.fn scSub (fun vs H Q E h => ?_) (fun cdv A outer s H vs Q E hr h => ?_)
  · obtain ⟨p, n, ts, y, rfl, _⟩ := h
    rfl
  · obtain ⟨p, n, ts, y, rfl, hp, ho, hy⟩ := h
    have hr4 : Room 4 _ := hr.mono (by decide)
    refine ⟨_, (pss_cons (ps_if (pt_not (pt_val (pe_callB call_isiT (by rfl) mis (by decide +kernel) (pa_cons (pv 1) (pa_cons (pe_tup (pa_cons (pe_bltn (v := .ty "int") (by rfl) mint (by decide +kernel) rfl) (pa_cons (pe_glob (v := .ref C) (by rfl) T.mgC rfl) pa_nil))) pa_nil)))))
      (pss_one (ps_never))
      pss_nil)
      (pss_one (ps_ret (pe_opS (OpS.or (op_binOS (op := .Add) rfl MA.me T.sf GA hr MA.bd (L2N.passAt (L2N.takes_of rfl rfl rfl rfl))) (op_binIS (op := .Add) rfl rfl MA.me T.sf MRA.me.at_ (.inr ⟨_, rfl⟩) TA.ia TA.ira T.sI GA hr MA.bd (L2N.passAt (L2N.takes_of rfl rfl rfl rfl)))) (pv 0) (pe_opS (OpS.or (OpS.of op_mulL) (OpS.of (op_binI (op := .Mult) rfl rfl MM.me T.sf MR.me.at_ (.inr ⟨_, rfl⟩) TM.im TM.ir T.sI GM hr4 MM.bd pass0))) (pv 1) (pe_un un_neg pe_int)))))), ?_⟩
    obtain ⟨dx, t, us, h1, h2, h3⟩ := id hp
    rcases hy with ⟨i, rfl, k⟩ | ⟨q, m, vs', rfl, hq, hv, hb, kx, k⟩
    · refine ⟨_, rfl, (by show 2 ≤ sizeLine; decide), fun tp ntp => ⟨_, tp, _, _, _, true, rfl, upd_same, .cons (.ty _) (.cons (.own _) .nil), .base (.int i), kit_int, true, rfl, ?_⟩⟩
      refine iteF' rfl ?_
      have s1 := same_upd (o := .tup [V.ty "int", V.ref C]) ntp
      refine ⟨_, rfl, _, rfl, 1, rfl, .inl ⟨i, -1, rfl, rfl, .inr ⟨by decide, by decide⟩, fun z ez => ?_⟩⟩
      refine .inr ⟨p, dx, _, z, rfl, rfl, s1 _ _ h1, p, n, ts, _, rfl, hp.keep s1, ho, .inl ⟨z, rfl, fun r H' nr s2 hf => k r H' (s1.free nr) (s1.trans s2) ?_⟩⟩
      have e : n + z = n - i := by omega
      exact e ▸ hf
    · obtain ⟨dx', t', us', h1', h2', h3'⟩ := id hq
      refine ⟨_, rfl, (by show 2 ≤ sizeLine; decide), fun tp ntp => ⟨_, tp, _, _, _, true, rfl, upd_same, .cons (.ty _) (.cons (.own _) .nil), TyX_frm T (hq.keep (same_upd ntp)), kit_frm T, true, rfl, ?_⟩⟩
      refine iteF' rfl ?_
      have s1 := same_upd (o := .tup [V.ty "int", V.ref C]) ntp
      refine ⟨_, rfl, _, rfl, 1, rfl, .inr ⟨q, dx', _, -1, rfl, rfl, s1 _ _ h1', q, m, -1, vs', rfl, hq.keep s1, Nat.le_trans hv.sz (by decide), hb.mono (by decide), by decide +kernel, fun g H2 ng s2 hg => ?_⟩⟩
      have s12 := s1.trans s2
      obtain ⟨dg', tg, ug, g1, g2, g3⟩ := id hg
      refine .inl ⟨p, dx, _, g, dg', _, rfl, rfl, s12 _ _ h1, g1, p, n, ts, _, rfl, hp.keep s12, ho, .inr ⟨g, _, _, rfl, hg, mulT_ok hv, ?_, ?_⟩⟩
      · rw [unl_mul (by decide)]
        exact fun w hw => (kx w hw).same s12
      · rw [unl_mul (by decide)]
        refine fun hn r H' nr s3 hf => k hn r H' (s12.free nr) (s12.trans s3) ?_
        have e : n + m * -1 = n - m := by omega
        exact e ▸ hf
abbrev sRsub : Stmt := inClass sCls 4
theorem scRsub : FnScope ["self", "other"] ["self", "other"] (defScope sRsub) := ⟨rfl, rfl, rfl, by decide +kernel, rfl, by decide +kernel, by decide +kernel⟩
def spRsub (C : Addr) : Sp := fun vs H Q _ => ∃ (p : Addr) (n i : Int) (ts : List Tm), vs = [.ref p, .int i] ∧ FormAt C H p n ts ∧ TsOk ts ∧ Bd 9000 n ts ∧ ∀ r H', H r = none → Same H H' → FormAt C H' r (i - n) (mulT (-1) ts) → Q (.ref r) H'
theorem ok_rsub {C CU : Addr} (T : Frm K mg C) (MRS : Mf K C "__rsub__" "Form.__rsub__" sRsub ["self", "other"]) (MA : Mf K C "__add__" "Form.__add__" sAdd ["self", "other"]) (GA : FnOk P w K mg base (L2N.CX P w) 5 MA.f MA.fd ["self", "other"] (spAdd K C CU)) (MRA : Mf K C "__radd__" "Form.__radd__" sRadd ["self", "other"]) (TA : FrmA K) (MM : Mf K C "__mul__" "Form.__mul__" sMul ["self", "other"]) (GM : FnOk P w K mg base CX0 4 MM.f MM.fd ["self", "other"] (spMul C)) (MR : Mf K C "__rmul__" "Form.__rmul__" sRmu ["self", "other"]) (TM : FrmM K C) : FnOk P w K mg base (L2N.CX P w) 6 MRS.f MRS.fd ["self", "other"] (spRsub C) := by
  refine okN MRS.fn scRsub (fun vs H Q E h => ?_) (fun cdv A outer s H vs Q E hr h => ?_)
  · obtain ⟨p, n, i, ts, rfl, _⟩ := h
    rfl
  · obtain ⟨p, n, i, ts, rfl, hp, ho, hb, k⟩ := h
    have hr4 : Room 4 _ := hr.mono (by decide)
    refine ⟨_, (pss_one (ps_ret (pe_opS (op_binIS (op := .Add) rfl rfl MA.me T.sf MRA.me.at_ (.inr ⟨_, rfl⟩) TA.ia TA.ira T.sI GA hr MA.bd (L2N.passAt (L2N.takes_of rfl rfl rfl rfl))) (pe_op (op_binI (op := .Mult) rfl rfl MM.me T.sf MR.me.at_ (.inr ⟨_, rfl⟩) TM.im TM.ir T.sI GM hr4 MM.bd pass0) (pv 0) (pe_un un_neg pe_int)) (pv 1)))), ?_⟩
    obtain ⟨dx, t, us, h1, h2, h3⟩ := id hp
    refine ⟨_, rfl, 1, rfl, p, dx, _, -1, rfl, rfl, h1, p, n, -1, ts, rfl, hp, Nat.le_trans ho.sz (by decide), hb.mono (by decide), by decide +kernel, fun g H2 ng s2 hg => ?_⟩
    obtain ⟨dg', tg, ug, g1, g2, g3⟩ := id hg
    refine ⟨_, rfl, g, dg', _, i, rfl, rfl, g1, g, n * -1, _, _, rfl, hg, mulT_ok ho, .inl ⟨i, rfl, fun r H' nr s3 hf => k r H' (s2.free nr) (s2.trans s3) ?_⟩⟩
    have e : n * -1 + i = i - n := by omega
    exact e ▸ hf
end
end DO

namespace DO
open PySem PySem.Spec PyProof.Rows L2
section
variable {P : Program} {w : World} {K : PySem.W.Frag} {mg : Str → Option Value} {base : Heap}
/-! ### what the terms of a sum say of a name -/
theorem kOf_none {M : List Tm} {w : Str} (h : getT M w = none) : kOf M w = 0 := by
  unfold kOf
  rw [h]
theorem kOf_some {M : List Tm} {w : Str} {x : Tm} (h : getT M w = some x) : kOf M w = x.k := by
  unfold kOf
  rw [h]
theorem addP_get (M : List Tm) (x : Tm) (w : Str) : getT (addP M x) w = if w = x.nm then some ⟨x.nm, kOf M x.nm + x.k, x.lo, x.hi⟩ else getT M w := getT_put M _ w
theorem getT_cons (x : Tm) (r : List Tm) (w : Str) : getT (x :: r) w = if w = x.nm then some x else getT r w := by
  unfold getT
  rw [List.find?_cons]
  by_cases e : w = x.nm
  · rw [if_pos e, decide_eq_true e.symm]
  · rw [if_neg e, decide_eq_false fun z => e z.symm]
theorem foldP_get (w : Str) : ∀ (us M : List Tm), (nms us).Nodup → getT (us.foldl addP M) w = (match getT us w with
    | none => getT M w
    | some u => some ⟨w, kOf M w + u.k, u.lo, u.hi⟩)
  | [], M, _ => rfl
  | x :: r, M, h => by
    obtain ⟨h1, h2⟩ := List.nodup_cons.mp (show (x.nm :: nms r).Nodup from h)
    rw [List.foldl_cons, foldP_get w r (addP M x) h2, getT_cons]
    by_cases e : w = x.nm
    · rw [if_pos e]
      have hr : getT r w = none := getT_none.mpr (e ▸ h1)
      rw [hr, addP_get, if_pos e]
      subst e
      rfl
    · rw [if_neg e, addP_get, if_neg e]
      have hk : kOf (addP M x) w = kOf M w := by
        unfold kOf
        rw [addP_get, if_neg e]
      rw [hk]
theorem addF_self_get {ts : List Tm} (h : (nms ts).Nodup) (w : Str) : getT (addF ts) w = getT ts w := by
  unfold addF
  rw [foldP_get w ts [] h]
  cases e : getT ts w with
  | none => rfl
  | some u =>
    have hn := getT_nm e
    show some (Tm.mk w (kOf [] w + u.k) u.lo u.hi) = some u
    have : kOf ([] : List Tm) w = 0 := rfl
    rw [this, Int.zero_add, ← hn]
theorem addF_get {ts us : List Tm} (h : (nms ts).Nodup) (h' : (nms us).Nodup) (w : Str) : getT (addF (ts ++ us)) w = (match getT us w with
    | none => getT ts w
    | some u => some ⟨w, kOf ts w + u.k, u.lo, u.hi⟩) := by
  unfold addF
  rw [List.foldl_append, foldP_get w us _ h']
  have e := addF_self_get h w
  unfold addF at e
  have ek : kOf (ts.foldl addP []) w = kOf ts w := by
    unfold kOf
    rw [e]
  rw [e, ek]
theorem getT_filter {M : List Tm} {p : Tm → Bool} (h : (nms M).Nodup) (w : Str) : getT (M.filter p) w = (getT M w).filter p := by
  induction M with
  | nil => rfl
  | cons x r ih =>
    obtain ⟨h1, h2⟩ := List.nodup_cons.mp (show (x.nm :: nms r).Nodup from h)
    rw [List.filter_cons, getT_cons]
    by_cases e : w = x.nm
    · have hr : getT r w = none := getT_none.mpr (e ▸ h1)
      rw [if_pos e]
      cases q : p x with
      | true =>
        rw [if_pos rfl, getT_cons, if_pos e]
        simp [Option.filter, q]
      | false =>
        rw [if_neg (by decide), ih h2, hr]
        simp [Option.filter, q]
    · rw [if_neg e]
      cases q : p x with
      | true => rw [if_pos rfl, getT_cons, if_neg e, ih h2]
      | false => rw [if_neg (by decide), ih h2]
theorem nms_filter {M : List Tm} {p : Tm → Bool} {R : Str → Str → Prop} (h : (nms M).Pairwise R) : (nms (M.filter p)).Pairwise R := by
  unfold nms at *
  rw [List.pairwise_map] at *
  exact h.filter p
theorem addS_up {ts us : List Tm} : Up (nms (addS ts us)) := nms_filter (srt_up (addF_inv _).1)
theorem addS_get {ts us : List Tm} (h : (nms ts).Nodup) (h' : (nms us).Nodup) (w : Str) : getT (addS ts us) w = (match getT us w with
    | none => getT ts w
    | some u => some ⟨w, kOf ts w + u.k, u.lo, u.hi⟩).filter fun x => decide (x.k ≠ 0) := by
  unfold addS
  rw [getT_filter (srt_up (addF_inv _).1).nd, get_srt (addF_inv _).1, addF_get h h']
/-- a term of a sum -/
theorem addS_mem {ts us : List Tm} (h : (nms ts).Nodup) (h' : (nms us).Nodup) {x : Tm} (hx : x ∈ addS ts us) : x.k ≠ 0 ∧ ((x ∈ ts ∧ getT us x.nm = none) ∨ ∃ u ∈ us, u.nm = x.nm ∧ x.lo = u.lo ∧ x.hi = u.hi ∧ x.k = kOf ts x.nm + u.k) := by
  have e := getT_mem addS_up.nd hx
  rw [addS_get h h'] at e
  cases q : getT us x.nm with
  | none =>
    rw [q] at e
    obtain ⟨e1, e2⟩ := Option.filter_eq_some_iff.mp e
    exact ⟨of_decide_eq_true e2, .inl ⟨getT_in e1, rfl⟩⟩
  | some u =>
    rw [q] at e
    obtain ⟨e1, e2⟩ := Option.filter_eq_some_iff.mp e
    have e3 := Option.some.inj e1
    refine ⟨of_decide_eq_true e2, .inr ⟨u, getT_in q, getT_nm q, ?_, ?_, ?_⟩⟩
    · exact (congrArg Tm.lo e3).symm
    · exact (congrArg Tm.hi e3).symm
    · exact (congrArg Tm.k e3).symm
theorem kOf_bd {B : Nat} {n : Int} {ts : List Tm} (h : Bd B n ts) (w : Str) : (kOf ts w).natAbs < 2 ^ B := by
  cases e : getT ts w with
  | none =>
    rw [kOf_none e]
    exact Nat.two_pow_pos B
  | some x =>
    rw [kOf_some e]
    exact (h.2 x (getT_in e)).1
theorem bd_add {B : Nat} {n m : Int} {ts us : List Tm} (o : (nms ts).Nodup) (o' : (nms us).Nodup) (h : Bd B n ts) (h' : Bd B m us) : Bd (B + 1) (n + m) (addS ts us) := by
  have e : 2 ^ (B + 1) = 2 ^ B + 2 ^ B := by rw [Nat.pow_succ]; omega
  refine ⟨by have := h.1; have := h'.1; omega, fun x hx => ?_⟩
  obtain ⟨_, ⟨h1, _⟩ | ⟨u, hu, e1, e2, e3, e4⟩⟩ := addS_mem o o' hx
  · obtain ⟨a, b, c⟩ := h.2 x h1
    omega
  · obtain ⟨a, b, c⟩ := h'.2 u hu
    have := kOf_bd h x.nm
    rw [e2, e3, e4]
    omega
theorem bd_sub {B : Nat} {n m : Int} {ts us : List Tm} (o : (nms ts).Nodup) (o' : TsOk us) (h : Bd B n ts) (h' : Bd B m us) : Bd (B + 1) (n - m) (subS ts us) := by
  have := bd_add o (mulT_ok (t := -1) o').nd h (bd_mul1 h')
  have e : n + m * -1 = n - m := by omega
  exact e ▸ this
theorem addS_len (ts us : List Tm) : (addS ts us).length ≤ ts.length + us.length := by
  unfold addS
  refine Nat.le_trans (List.length_filter_le _ _) ?_
  have h1 : (srt (addF (ts ++ us))).length = (addF (ts ++ us)).length := by
    have := congrArg List.length (srt_nms (addF (ts ++ us)))
    unfold nms at this
    rw [List.length_map, (sortS_perm _).length_eq, List.length_map] at this
    exact this
  have h2 := (addF_inv (ts ++ us)).2
  rw [List.length_append] at h2
  omega
theorem mulT_len (t : Int) (ts : List Tm) : (mulT t ts).length ≤ ts.length := by
  unfold mulT
  split
  · exact Nat.zero_le _
  · rw [List.length_map]
    exact Nat.le_refl _
theorem subS_len (ts us : List Tm) : (subS ts us).length ≤ ts.length + us.length := by
  have h1 := addS_len ts (mulT (-1) us)
  have h2 := mulT_len (-1) us
  unfold subS
  omega
abbrev sLe : Stmt := inClass sCls 9
theorem scLe : FnScope ["self", "other"] ["self", "other"] (defScope sLe) := ⟨rfl, rfl, rfl, by decide +kernel, rfl, by decide +kernel, by decide +kernel⟩
def spLe (C CU : Addr) : Sp := fun vs H Q E => ∃ (p : Addr) (n : Int) (ts : List Tm) (y : V), vs = [.ref p, y] ∧ FormAt C H p n ts ∧ TsOk ts ∧ Bd 9000 n ts ∧
  ((∃ i : Int, y = .int i ∧ i.natAbs < 2 ^ 9000 ∧ ∀ H', Same H H' → Q (.bl (decide ((n - i) + (ts.map mxT).sum ≤ 0))) H') ∨
   ∃ (q : Addr) (m : Int) (us : List Tm), y = .ref q ∧ FormAt C H q m us ∧ TsOk us ∧ Bd 9000 m us ∧ (∀ w, unl ts us = some w → Thrown E CU H [("name", .str w)]) ∧ (unl ts us = none → ∀ H', Same H H' → Q (.bl (decide ((n - m) + ((subS ts us).map mxT).sum ≤ 0))) H'))
theorem ok_le {C CU : Addr} (T : Frm K mg C) (ML : Mf K C "__le__" "Form.__le__" sLe ["self", "other"]) (MS : Mf K C "__sub__" "Form.__sub__" sSub ["self", "other"]) (GS : FnOk P w K mg base (L2N.CX P w) 6 MS.f MS.fd ["self", "other"] (spSub C CU)) (MRS : Mf K C "__rsub__" "Form.__rsub__" sRsub ["self", "other"]) (TA : FrmA K)
    {pA gA : Addr} {fdL : FuncData} (PO : PropOf K C "most" pA gA) (GL : FnOk P w K mg base CX0 1 gA fdL ["self"] (spEnd C mxT)) (bL : Binds K fdL ["self"] []) (mis : mg "isinstance" = none) (mint : mg "int" = none) : FnOk P w K mg base (L2N.CX P w) 7 ML.f ML.fd ["self", "other"] (spLe C CU) := by
  refine okN ML.fn scLe (fun vs H Q E h => ?_) (fun cdv A outer s H vs Q E hr h => ?_)
  · obtain ⟨p, n, ts, y, rfl, _⟩ := h
    rfl
  · obtain ⟨p, n, ts, y, rfl, hp, ho, hbd, hy⟩ := h
    have hr6 : Room 6 _ := hr
    have hr1 : Room (1 + 1) _ := hr.mono (by decide)
    refine ⟨_, (pss_cons (ps_if (pt_not (pt_val (pe_callB call_isiT (by rfl) mis (by decide +kernel) (pa_cons (pv 1) (pa_cons (pe_tup (pa_cons (pe_bltn (v := .ty "int") (by rfl) mint (by decide +kernel) rfl) (pa_cons (pe_glob (v := .ref C) (by rfl) T.mgC rfl) pa_nil))) pa_nil)))))
      (pss_one (ps_never))
      pss_nil)
      (pss_one (ps_ret (pe_cmpR op_le (pe_prop (pe_opS (OpS.or (op_binOS (op := .Sub) rfl MS.me T.sf GS hr6 MS.bd (L2N.passAt (L2N.takes_of rfl rfl rfl rfl))) (op_binIS (op := .Sub) rfl rfl MS.me T.sf MRS.me.at_ (.inr ⟨_, rfl⟩) TA.is_ TA.irs T.sI GS hr6 MS.bd (L2N.passAt (L2N.takes_of rfl rfl rfl rfl)))) (pv 0) (pv 1)) T.cl PO GL hr1 bL .nil pass0 rfl) pe_int (nomark _))))), ?_⟩
    obtain ⟨dx, t, us, h1, h2, h3⟩ := id hp
    rcases hy with ⟨i, rfl, hi, k⟩ | ⟨q, m, vs', rfl, hq, hv, hb, kx, k⟩
    · refine ⟨_, rfl, (by show 2 ≤ sizeLine; decide), fun tp ntp => ⟨_, tp, _, _, _, true, rfl, upd_same, .cons (.ty _) (.cons (.own _) .nil), .base (.int i), kit_int, true, rfl, ?_⟩⟩
      refine iteF' rfl ?_
      have s1 := same_upd (o := .tup [V.ty "int", V.ref C]) ntp
      refine ⟨_, rfl, _, rfl, .inr ⟨p, dx, _, i, rfl, rfl, s1 _ _ h1, p, n, ts, _, rfl, hp.keep s1, ho, .inl ⟨i, rfl, fun r H' nr s2 hf => ?_⟩⟩⟩
      obtain ⟨dg', tg, ug, g1, g2, g3⟩ := id hf
      refine ⟨r, dg', _, rfl, g1, r, n - i, ts, rfl, hf, Nat.le_trans ho.sz (by decide), ⟨?_, (hbd.mono (by decide)).2⟩, fun H3 s3 => ⟨_, _, rfl, rfl, k H3 ((s1.trans s2).trans s3)⟩⟩
      have e : (2 : Nat) ^ 9000 + 2 ^ 9000 ≤ 2 ^ 10000 := by decide +kernel
      have := hbd.1
      generalize (2 : Nat) ^ 9000 = z9 at e this hi
      generalize (2 : Nat) ^ 10000 = z10 at e ⊢
      omega
    · obtain ⟨dx', t', us', h1', h2', h3'⟩ := id hq
      refine ⟨_, rfl, (by show 2 ≤ sizeLine; decide), fun tp ntp => ⟨_, tp, _, _, _, true, rfl, upd_same, .cons (.ty _) (.cons (.own _) .nil), TyX_frm T (hq.keep (same_upd ntp)), kit_frm T, true, rfl, ?_⟩⟩
      refine iteF' rfl ?_
      have s1 := same_upd (o := .tup [V.ty "int", V.ref C]) ntp
      refine ⟨_, rfl, _, rfl, .inl ⟨p, dx, _, q, dx', _, rfl, rfl, s1 _ _ h1, s1 _ _ h1', p, n, ts, _, rfl, hp.keep s1, ho, .inr ⟨q, m, vs', rfl, hq.keep s1, hv, hb, fun w hw => (kx w hw).same s1, fun hn r H' nr s2 hf => ?_⟩⟩⟩
      obtain ⟨dg', tg, ug, g1, g2, g3⟩ := id hf
      refine ⟨r, dg', _, rfl, g1, r, n - m, _, rfl, hf, ?_, (bd_sub ho.nd hv hbd hb).mono (by decide), fun H3 s3 => ⟨_, _, rfl, rfl, k hn H3 ((s1.trans s2).trans s3)⟩⟩
      have h4 := subS_len ts vs'
      have h5 := ho.sz
      have h6 := hv.sz
      omega
abbrev sGe : Stmt := inClass sCls 10
theorem scGe : FnScope ["self", "other"] ["self", "other"] (defScope sGe) := ⟨rfl, rfl, rfl, by decide +kernel, rfl, by decide +kernel, by decide +kernel⟩
def spGe (C CU : Addr) : Sp := fun vs H Q E => ∃ (p : Addr) (n : Int) (ts : List Tm) (y : V), vs = [.ref p, y] ∧ FormAt C H p n ts ∧ TsOk ts ∧ Bd 9000 n ts ∧
  ((∃ i : Int, y = .int i ∧ i.natAbs < 2 ^ 9000 ∧ ∀ H', Same H H' → Q (.bl (decide ((n - i) + (ts.map mnT).sum ≥ 0))) H') ∨
   ∃ (q : Addr) (m : Int) (us : List Tm), y = .ref q ∧ FormAt C H q m us ∧ TsOk us ∧ Bd 9000 m us ∧ (∀ w, unl ts us = some w → Thrown E CU H [("name", .str w)]) ∧ (unl ts us = none → ∀ H', Same H H' → Q (.bl (decide ((n - m) + ((subS ts us).map mnT).sum ≥ 0))) H'))
theorem ok_ge {C CU : Addr} (T : Frm K mg C) (ML : Mf K C "__ge__" "Form.__ge__" sGe ["self", "other"]) (MS : Mf K C "__sub__" "Form.__sub__" sSub ["self", "other"]) (GS : FnOk P w K mg base (L2N.CX P w) 6 MS.f MS.fd ["self", "other"] (spSub C CU)) (MRS : Mf K C "__rsub__" "Form.__rsub__" sRsub ["self", "other"]) (TA : FrmA K)
    {pA gA : Addr} {fdL : FuncData} (PO : PropOf K C "least" pA gA) (GL : FnOk P w K mg base CX0 1 gA fdL ["self"] (spEnd C mnT)) (bL : Binds K fdL ["self"] []) (mis : mg "isinstance" = none) (mint : mg "int" = none) : FnOk P w K mg base (L2N.CX P w) 7 ML.f ML.fd ["self", "other"] (spGe C CU) := by
  refine okN ML.fn scGe (fun vs H Q E h => ?_) (fun cdv A outer s H vs Q E hr h => ?_)
  · obtain ⟨p, n, ts, y, rfl, _⟩ := h
    rfl
  · obtain ⟨p, n, ts, y, rfl, hp, ho, hbd, hy⟩ := h
    have hr6 : Room 6 _ := hr
    have hr1 : Room (1 + 1) _ := hr.mono (by decide)
    refine ⟨_, (pss_cons (ps_if (pt_not (pt_val (pe_callB call_isiT (by rfl) mis (by decide +kernel) (pa_cons (pv 1) (pa_cons (pe_tup (pa_cons (pe_bltn (v := .ty "int") (by rfl) mint (by decide +kernel) rfl) (pa_cons (pe_glob (v := .ref C) (by rfl) T.mgC rfl) pa_nil))) pa_nil)))))
      (pss_one (ps_never))
      pss_nil)
      (pss_one (ps_ret (pe_cmpR op_ge (pe_prop (pe_opS (OpS.or (op_binOS (op := .Sub) rfl MS.me T.sf GS hr6 MS.bd (L2N.passAt (L2N.takes_of rfl rfl rfl rfl))) (op_binIS (op := .Sub) rfl rfl MS.me T.sf MRS.me.at_ (.inr ⟨_, rfl⟩) TA.is_ TA.irs T.sI GS hr6 MS.bd (L2N.passAt (L2N.takes_of rfl rfl rfl rfl)))) (pv 0) (pv 1)) T.cl PO GL hr1 bL .nil pass0 rfl) pe_int (nomark _))))), ?_⟩
    obtain ⟨dx, t, us, h1, h2, h3⟩ := id hp
    rcases hy with ⟨i, rfl, hi, k⟩ | ⟨q, m, vs', rfl, hq, hv, hb, kx, k⟩
    · refine ⟨_, rfl, (by show 2 ≤ sizeLine; decide), fun tp ntp => ⟨_, tp, _, _, _, true, rfl, upd_same, .cons (.ty _) (.cons (.own _) .nil), .base (.int i), kit_int, true, rfl, ?_⟩⟩
      refine iteF' rfl ?_
      have s1 := same_upd (o := .tup [V.ty "int", V.ref C]) ntp
      refine ⟨_, rfl, _, rfl, .inr ⟨p, dx, _, i, rfl, rfl, s1 _ _ h1, p, n, ts, _, rfl, hp.keep s1, ho, .inl ⟨i, rfl, fun r H' nr s2 hf => ?_⟩⟩⟩
      obtain ⟨dg', tg, ug, g1, g2, g3⟩ := id hf
      refine ⟨r, dg', _, rfl, g1, r, n - i, ts, rfl, hf, Nat.le_trans ho.sz (by decide), ⟨?_, (hbd.mono (by decide)).2⟩, fun H3 s3 => ⟨_, _, rfl, rfl, k H3 ((s1.trans s2).trans s3)⟩⟩
      have e : (2 : Nat) ^ 9000 + 2 ^ 9000 ≤ 2 ^ 10000 := by decide +kernel
      have := hbd.1
      generalize (2 : Nat) ^ 9000 = z9 at e this hi
      generalize (2 : Nat) ^ 10000 = z10 at e ⊢
      omega
    · obtain ⟨dx', t', us', h1', h2', h3'⟩ := id hq
      refine ⟨_, rfl, (by show 2 ≤ sizeLine; decide), fun tp ntp => ⟨_, tp, _, _, _, true, rfl, upd_same, .cons (.ty _) (.cons (.own _) .nil), TyX_frm T (hq.keep (same_upd ntp)), kit_frm T, true, rfl, ?_⟩⟩
      refine iteF' rfl ?_
      have s1 := same_upd (o := .tup [V.ty "int", V.ref C]) ntp
      refine ⟨_, rfl, _, rfl, .inl ⟨p, dx, _, q, dx', _, rfl, rfl, s1 _ _ h1, s1 _ _ h1', p, n, ts, _, rfl, hp.keep s1, ho, .inr ⟨q, m, vs', rfl, hq.keep s1, hv, hb, fun w hw => (kx w hw).same s1, fun hn r H' nr s2 hf => ?_⟩⟩⟩
      obtain ⟨dg', tg, ug, g1, g2, g3⟩ := id hf
      refine ⟨r, dg', _, rfl, g1, r, n - m, _, rfl, hf, ?_, (bd_sub ho.nd hv hbd hb).mono (by decide), fun H3 s3 => ⟨_, _, rfl, rfl, k hn H3 ((s1.trans s2).trans s3)⟩⟩
      have h4 := subS_len ts vs'
      have h5 := ho.sz
      have h6 := hv.sz
      omega
end
end DO

namespace DO
open PySem PySem.Spec PyProof.Rows L2
section
variable {P : Program} {w : World} {K : PySem.W.Frag} {mg : Str → Option Value} {base : Heap}
/-- what the module names.py has written -/
structure Nam (mg : Str → Option Value) : Prop where
  fr : ∃ t, mg "FRAME" = some (.str "frame" t)
  fs : ∃ t, mg "FIRST_SIGNS" = some (.str az t)
  ls : ∃ t, mg "LATER_SIGNS" = some (.str azn t)
  ln : ∃ t, mg "LONGEST_NAME" = some (.int 12 t)
def isNm (ds : List Nat) : Bool := match ds with
  | [] => false
  | c :: r => decide ((c :: r).length ≤ 12) && decide (c ∈ az.cps.toList) && (c :: r).all fun x => decide (x ∈ azn.cps.toList)
theorem isNm_cons (c : Nat) (r : List Nat) : isNm (c :: r) = (decide ((c :: r).length ≤ 12) && decide (c ∈ az.cps.toList) && (c :: r).all fun x => decide (x ∈ azn.cps.toList)) := rfl
abbrev sIsNm : Stmt := top 12
theorem scIsNm : FnScope ["text", "char"] ["text"] (defScope sIsNm) := ⟨rfl, rfl, rfl, by decide +kernel, rfl, by decide +kernel, by decide +kernel⟩
def spIsNm : Sp := fun vs H Q _ => ∃ ds : List Nat, vs = [.str (tx ds)] ∧ ds.length ≤ 900 ∧ ∀ H', Same H H' → Q (.bl (isNm ds)) H'
theorem ok_isNm (D : Df K mg "is_name" sIsNm ["text"]) (N : Nam mg) (mln : mg "len" = none) (mal : mg "all" = none) : FnOk P w K mg base CX0 1 D.f D.fd ["text"] spIsNm := by
  obtain ⟨tls, hls⟩ := N.ls
  obtain ⟨tfs, hfs⟩ := N.fs
  obtain ⟨tln, hln⟩ := N.ln
  refine D.fn.ok scIsNm (fun vs H Q E h => ?_) (fun cdv A outer s H vs Q E hr h => ?_)
  · obtain ⟨ds, rfl, _⟩ := h
    rfl
  · obtain ⟨ds, rfl, hsz, k⟩ := h
    refine ⟨_, (pss_cons (ps_if (PW.pt (pw_or (pt_not (pt_chain op_le op_le pe_int (pe_callB call_len_str (by rfl) mln PySem.boot_len (pa_cons (pv 0) pa_nil)) (pe_glob (v := .int 12) (by rfl) hln ⟨_, rfl⟩))) (pw_or1 (pt_cmpR op_notIn_sign (pe_ix ix_str (pv 0) pe_int (fun _ _ => rfl)) (pe_glob (v := .str az) (by rfl) hfs ⟨_, rfl⟩) rfl))))
      (pss_one (ps_ret pe_bl))
      pss_nil)
      (pss_one (ps_ret (pe_callB (cr_all rfl) (by rfl) mal (by decide +kernel) (pa_cons (pe_lc (own := [("char", 1)]) (g := gName 1) (tt := tYes) rfl scIsNm.nd (pi_str (pv 0)) (blkOk_by (N := ["text", "char"]) (sc := defScope sIsNm) (by decide +kernel)) (fun _ _ _ _ _ => pg_name (i := 1) scIsNm.nd rfl (Or.inl rfl)) (fun _ _ _ _ _ => pts_nil) (fun _ _ _ _ _ => (pe_cmpR op_in_sign (pv 1) (pe_glob (v := .str azn) (by rfl) hls ⟨_, rfl⟩) rfl))) pa_nil))))), ?_⟩
    have hlen : (tx ds).length = ds.length := tx_len ds
    have fin : ∀ D, H D = none → ∀ b : Bool, (ds.all fun x => decide (x ∈ azn.cps.toList)) = b → ∃ (a : Addr) (bs : List Bool), [V.ref D] = [V.ref a] ∧ SqL K (upd H D (.lst ((ds.map fun x => decide (x ∈ azn.cps.toList)).map V.bl))) a (bs.map V.bl) ∧ (b = isNm ds → Q (.bl (bs.all id)) (upd H D (.lst ((ds.map fun x => decide (x ∈ azn.cps.toList)).map V.bl)))) := fun D nD b eb => by
      refine ⟨D, _, rfl, sql_of upd_same, fun e => ?_⟩
      have e2 : (ds.map fun x => decide (x ∈ azn.cps.toList)).all id = isNm ds := by
        rw [List.all_map, ← e, ← eb]
        rfl
      rw [e2]
      exact k _ (same_upd nD)
    have last : ((ds.all fun x => decide (x ∈ azn.cps.toList)) = isNm ds) → tRet (tCB (rAll K) (tCons (tLc (iStr (tVar 0)) (gName 1) tYes (tOp (fun x y H Q => ∃ (c : Nat) (z : Str), x = V.str ⟨#[c]⟩ ∧ y = V.str z ∧ Q (V.bl (decide (c ∈ z.cps.toList))) H) (tVar 1) (tC (V.str azn))) (List.map (fun x => x.2) [(("char" : Str), 1)])) tNil)) { nx := fun _ H' => Q .non H', rt := Q } (L2.start ["text", "char"] [.str (tx ds)]) H := fun e => by
      refine ⟨_, rfl, tx ds, rfl, fun D nD => lc_it walk_str (fun i H2 => H2 = upd H D (.lst (((ds.take i).map fun x => decide (x ∈ azn.cps.toList)).map V.bl))) rfl (fun _ _ _ _ => trivial) ?_ ?_⟩
      · rintro i x H2 H3 hi rfl ⟨rfl, c, hc, rfl⟩
        have hc' : ds[i]? = some c := by
          have z : (ds.toArray)[i]? = some c := hc
          rw [List.getElem?_toArray] at z
          exact z
        refine ⟨rfl, ?_⟩
        refine ⟨_, rfl, c, azn, rfl, rfl, _, upd_same, ?_, ?_⟩
        · rw [List.length_map, List.length_map, List.length_take]
          exact small1000 (by omega)
        · rw [upd_upd, List.take_add_one, hc', Option.toList_some, List.map_append, List.map_append]
          rfl
      · rintro H2 rfl
        have hsz2 : (tx ds).cps.size = ds.length := tx_len ds
        rw [hsz2, List.take_length]
        obtain ⟨a, bs, h1, h2, h3⟩ := fin D nD _ rfl
        exact ⟨a, bs, h1, h2, h3 e⟩
    have no : isNm ds = false → tRet (tC (V.bl false)) { nx := fun _ H' => Q .non H', rt := Q } (L2.start ["text", "char"] [.str (tx ds)]) H := fun e => by
      have := k H (fun _ _ e => e)
      rw [e] at this
      exact this
    refine ⟨_, rfl, tx ds, rfl, sz16 (by omega), 1, _, rfl, rfl, _, rfl, ite2 (fun e1 => ⟨_, 12, rfl, rfl, _, rfl, ?_⟩) (fun e1 => ⟨_, rfl, ?_⟩)⟩
    · have h1 : 1 ≤ ds.length := by
        have := of_decide_eq_true e1
        omega
      refine ite2 (fun e2 => ?_) (fun e2 => ?_)
      · refine no ?_
        have : ¬ ds.length ≤ 12 := fun z => by
          rw [hlen] at e2
          simp at e2
          omega
        cases ds with
        | nil => rfl
        | cons c r => rw [isNm_cons, decide_eq_false this]; rfl
      · have h12 : ds.length ≤ 12 := by
          rw [hlen] at e2
          simp at e2
          omega
        obtain ⟨c, r, rfl⟩ : ∃ c r, ds = c :: r := by
          cases ds with
          | nil => exact absurd h1 (by decide)
          | cons c r => exact ⟨c, r, rfl⟩
        refine ⟨_, rfl, tx (c :: r), 0, c, rfl, rfl, sz16 (by omega), by rw [tx_list]; exact atI_nat (j := 0) rfl, c, az, rfl, rfl, _, rfl, ite2 (fun e3 => ?_) (fun e3 => ?_)⟩
        · refine no ?_
          have e4 : decide (c ∈ az.cps.toList) = false := by simpa using e3
          unfold isNm
          simp only [e4]
          simp
        · refine last ?_
          have e4 : decide (c ∈ az.cps.toList) = true := by simpa using e3
          unfold isNm
          simp only [e4, decide_eq_true h12]
          simp
    · refine iteT' rfl (no ?_)
      have : ds.length = 0 := by
        have h : ¬ (1 : Int) ≤ ((tx ds).length : Int) := fun z => e1 (decide_eq_true z)
        omega
      cases ds with
      | nil => rfl
      | cons c r => exact absurd this (by simp)
end
end DO

namespace DO
open PySem PySem.Spec PyProof.Rows L2
section
variable {P : Program} {w : World} {K : PySem.W.Frag} {mg : Str → Option Value} {base : Heap}
abbrev sChn : Stmt := top 13
theorem scChn : FnScope ["text"] ["text"] (defScope sChn) := ⟨rfl, rfl, rfl, by decide +kernel, rfl, by decide +kernel, by decide +kernel⟩
/-- a name that a measure can have -/
def okNm (ds : List Nat) : Bool := isNm ds && !decide (tx ds = "frame")
def spChn (CB : Addr) : Sp := fun vs H Q E => ∃ ds : List Nat, vs = [.str (tx ds)] ∧ ds.length ≤ 900 ∧ (okNm ds = false → Thrown E CB H [("name", .str (tx ds))]) ∧ (okNm ds = true → ∀ H', Same H H' → Q .non H')
theorem ok_chn (D : Df K mg "check_name" sChn ["text"]) (N : Nam mg) (DN : Df K mg "is_name" sIsNm ["text"]) (GN : FnOk P w K mg base CX0 1 DN.f DN.fd ["text"] spIsNm) (XB : Xc K mg "BadName" "BadName.__init__" sXBadName ["name"] ["self", "name"]) : FnOk P w K mg base (L2N.CX P w) 4 D.f D.fd ["text"] (spChn XB.C) := by
  have F1 : FnOk P w K mg base CX0 1 XB.f XB.fd ["self", "name"] (spX1 K "name") := okX_BadName XB.fn
  obtain ⟨tfr, hfr⟩ := N.fr
  refine okN D.fn scChn (fun vs H Q E h => ?_) (fun cdv A outer s H vs Q E hr h => ?_)
  · obtain ⟨ds, rfl, _⟩ := h
    rfl
  · obtain ⟨ds, rfl, hsz, kx, k⟩ := h
    have hr2 : Room (1 + 1) _ := hr.mono (by decide)
    refine ⟨_, (pss_one (ps_if (PW.pt (pw_or (pt_cmpR op_eq (pv 0) (pe_glob (v := .str "frame") (by rfl) hfr ⟨_, rfl⟩) (nomark _)) (pw_or1 (pt_not (pt_val (pe_call GN (hr.mono (by decide)) (by rfl) DN.mgf DN.fn.kp DN.bd .nil pass0 (pa_cons (pv 0) pa_nil)))))))
      (pss_one (L2N.ps_raise rfl (L2N.takes_of rfl rfl rfl rfl) (pmk_oexN (CX := CX0) XB.ox XB.iC XB.tI F1 hr2 XB.bd .nil (fun _ _ _ _ _ _ _ h => h.elim) (by rfl) XB.gC (pa_cons (pv 0) pa_nil))))
      pss_nil)), ?_⟩
    refine ⟨_, rfl, rfl, _, rfl, ite2 (fun e => ?_) (fun e => ?_)⟩
    · have e1 : tx ds = "frame" := V.str.inj (of_decide_eq_true e)
      have e2 : okNm ds = false := by
        unfold okNm
        rw [decide_eq_true e1]
        simp
      exact ⟨_, rfl, read1 XB.ox (XB.no "name" List.mem_cons_self) (kx e2)⟩
    · have e1 : ¬ tx ds = "frame" := fun z => e (decide_eq_true (congrArg V.str z))
      refine ⟨_, rfl, ds, rfl, hsz, fun H1 s1 => ⟨_, rfl, ite2 (fun e2 => ?_) (fun e2 => ?_)⟩⟩
      · have e3 : okNm ds = false := by
          unfold okNm
          have : isNm ds = false := by simpa using e2
          rw [this]
          rfl
        exact ⟨_, rfl, read1 XB.ox (XB.no "name" List.mem_cons_self) ((kx e3).same s1)⟩
      · have e3 : okNm ds = true := by
          unfold okNm
          have : isNm ds = true := by simpa using e2
          rw [this, decide_eq_false e1]
          rfl
        exact k e3 H1 s1
abbrev sMea : Stmt := top 17
theorem scMea : FnScope ["name", "low", "high"] ["name", "low", "high"] (defScope sMea) := ⟨rfl, rfl, rfl, by decide +kernel, rfl, by decide +kernel, by decide +kernel⟩
def spMea (C CB CE : Addr) : Sp := fun vs H Q E => ∃ (ds : List Nat) (lo hi : Int), vs = [.str (tx ds), .int lo, .int hi] ∧ ds.length ≤ 900 ∧ (okNm ds = false → Thrown E CB H [("name", .str (tx ds))]) ∧
  (okNm ds = true → lo > hi → Thrown E CE H [("high", .int hi), ("low", .int lo)]) ∧ (okNm ds = true → lo ≤ hi → ∀ r H', H r = none → Same H H' → FormAt C H' r 0 [⟨tx ds, 1, lo, hi⟩] → Q (.ref r) H')
theorem ok_mea {C CB : Addr} {fm : Addr} {fdm : FuncData} (D : Fun K "measured" "measured" sMea fm fdm) (DC : Df K mg "check_name" sChn ["text"]) (GC : FnOk P w K mg base (L2N.CX P w) 4 DC.f DC.fd ["text"] (spChn CB))
    (DF : Df K mg "form_of" sFof ["constant", "terms"]) (GF : FnOk P w K mg base CX0 3 DF.f DF.fd ["constant", "terms"] (spFof K C)) (XE : Xc K mg "BadEnds" "BadEnds.__init__" sXBadEnds ["low", "high"] ["self", "low", "high"]) : FnOk P w K mg base (L2N.CX P w) 5 fm fdm ["name", "low", "high"] (spMea C CB XE.C) := by
  have F2 : FnOk P w K mg base CX0 1 XE.f XE.fd ["self", "low", "high"] (spX2 K "low" "high") := okX_BadEnds XE.fn
  refine okN D scMea (fun vs H Q E h => ?_) (fun cdv A outer s H vs Q E hr h => ?_)
  · obtain ⟨ds, lo, hi, rfl, _⟩ := h
    rfl
  · obtain ⟨ds, lo, hi, rfl, hsz, kb, ke, k⟩ := h
    have hr2 : Room (1 + 1) _ := hr.mono (by decide)
    refine ⟨_, (pss_cons (ps_expr (pe_callS GC (hr.mono (by decide)) (by rfl) DC.mgf DC.fn.kp DC.bd (L2N.passAt (L2N.takes_of rfl rfl rfl rfl)) (pa_cons (pv 0) pa_nil)))
      (pss_cons (ps_if (pt_cmpR op_gt (pv 1) (pv 2) (nomark _))
      (pss_one (L2N.ps_raise rfl (L2N.takes_of rfl rfl rfl rfl) (pmk_oexN (CX := CX0) XE.ox XE.iC XE.tI F2 hr2 XE.bd .nil (fun _ _ _ _ _ _ _ h => h.elim) (by rfl) XE.gC (pa_cons (pv 1) (pa_cons (pv 2) pa_nil)))))
      pss_nil)
      (pss_one (ps_ret (pe_call GF (hr.mono (by decide)) (by rfl) DF.mgf DF.fn.kp DF.bd .nil pass0 (pa_cons pe_int (pa_cons (pe_lst (pa_cons (pe_tup (pa_cons (pv 0) (pa_cons pe_int (pa_cons (pv 1) (pa_cons (pv 2) pa_nil))))) pa_nil)) pa_nil))))))), ?_⟩
    refine ⟨_, rfl, ds, rfl, hsz, kb, fun ok H1 s1 => ?_⟩
    refine ⟨_, rfl, _, rfl, _, _, rfl, rfl, _, rfl, ite2 (fun e => ?_) (fun e => ?_)⟩
    · have e1 : lo > hi := of_decide_eq_true e
      exact ⟨_, rfl, _, rfl, read2 XE.ox (XE.no "low" List.mem_cons_self) (XE.no "high" (List.mem_cons_of_mem _ List.mem_cons_self)) ((ke ok e1).same s1)⟩
    · have e1 : lo ≤ hi := by
        have : ¬ lo > hi := fun z => e (decide_eq_true z)
        omega
      refine ⟨_, rfl, _, rfl, _, rfl, (by show 4 ≤ sizeLine; decide), fun q nq => ⟨(by show 1 ≤ sizeLine; decide), fun l nl => ?_⟩⟩
      have s2 := same_upd (o := .tup [V.str (tx ds), V.int 1, V.int lo, V.int hi]) nq
      have s3 := same_upd (o := .lst [V.ref q]) nl
      exact ⟨0, l, [.ref q], [⟨tx ds, 1, lo, hi⟩], rfl, .inl upd_same, .cons ⟨tx ds, 1, lo, hi⟩ q (s3 _ _ upd_same) .nil, fun r H' nr s4 hf => k ok e1 r H' ((s1.trans (s2.trans s3)).free nr) ((s1.trans (s2.trans s3)).trans s4) hf⟩
abbrev sVal : Stmt := inClass sCls 13
theorem scVal : FnScope ["self", "values", "total", "name", "times", "low", "high"] ["self", "values"] (defScope sVal) := ⟨rfl, rfl, rfl, by decide +kernel, rfl, by decide +kernel, by decide +kernel⟩
def missT (g : Str → Option Int) (ts : List Tm) : Option Str := (ts.find? fun x => (g x.nm).isNone).map (·.nm)
def valT (g : Str → Option Int) (ts : List Tm) : Int := (ts.map fun x => x.k * (g x.nm).getD 0).sum
def spVal (C CU : Addr) : Sp := fun vs H Q E => ∃ (p d : Addr) (n : Int) (ts : List Tm) (kvs : List (Key × V)) (g : Str → Option Int), vs = [.ref p, .ref d] ∧ FormAt C H p n ts ∧ ts.length ≤ 900 ∧ Bd 10000 n ts ∧ H d = some (.dK kvs) ∧ (∀ w, valV kvs (Sum.inr w : Key) = (g w).map V.int) ∧ (∀ w z, g w = some z → z.natAbs < 2 ^ 10000) ∧
  (∀ w, missT g ts = some w → Thrown E CU H [("name", .str w)]) ∧ (missT g ts = none → Q (.int (n + valT g ts)) H)
theorem ok_val {C : Addr} (T : Frm K mg C) (M : Mf K C "value" "Form.value" sVal ["self", "values"]) (XU : Xc K mg "UnknownName" "UnknownName.__init__" sXUnknownName ["name"] ["self", "name"]) : FnOk P w K mg base (L2N.CX P w) 4 M.f M.fd ["self", "values"] (spVal C XU.C) := by
  have F1 : FnOk P w K mg base CX0 1 XU.f XU.fd ["self", "name"] (spX1 K "name") := okX_UnknownName XU.fn
  refine okN M.fn scVal (fun vs H Q E h => ?_) (fun cdv A outer s H vs Q E hr h => ?_)
  · obtain ⟨p, d, n, ts, kvs, g, rfl, _⟩ := h
    rfl
  · obtain ⟨p, d, n, ts, kvs, g, rfl, hp, hsz, hb, hd, hg, hgb, kx, k⟩ := h
    have hu := hu_of hr
    have hr2 : Room (1 + 1) _ := hr.mono (by decide)
    refine ⟨_, (pss_cons (ps_set (i := 2) scVal.nd rfl (.inl rfl) (pe_fld (pv 0) rfl))
      (pss_cons (ps_for (passes_of rfl) rfl (pi_tup (pe_fld (pv 0) rfl)) (pg_tup rfl (pgs_cons (pg_name (i := 3) scVal.nd rfl (Or.inl rfl)) (pgs_cons (pg_name (i := 4) scVal.nd rfl (Or.inl rfl)) (pgs_cons (pg_name (i := 5) scVal.nd rfl (Or.inl rfl)) (pgs_cons (pg_name (i := 6) scVal.nd rfl (Or.inl rfl)) pgs_nil)))))
      (pss_cons (ps_if (pt_cmp (pc_dnotin hu (pv 3) (pv 1)))
      (pss_one (L2N.ps_raise rfl (L2N.takes_of rfl rfl rfl rfl) (pmk_oexN (CX := CX0) XU.ox XU.iC XU.tI F1 hr2 XU.bd .nil (fun _ _ _ _ _ _ _ h => h.elim) (by rfl) XU.gC (pa_cons (pv 3) pa_nil))))
      pss_nil)
      (pss_one (ps_set (i := 2) scVal.nd rfl (.inl rfl) (pe_op op_addL (pv 2) (pe_op op_mulWL (pv 4) (pe_dget hu (pv 1) (pv 3) (fun _ _ => rfl))))))))
      (pss_one (ps_ret (pv 2))))), ?_⟩
    obtain ⟨dx, t, us, h1, h2, h3⟩ := id hp
    have hl := h3.len
    refine ⟨_, rfl, p, C, dx, _, _, rfl, h1, T.cl, T.nC, ff_c _ _, ?_⟩
    refine ⟨_, rfl, p, C, dx, _, _, rfl, h1, T.cl, T.nT, ff_t _ _, t, rfl, ⟨us, sql_ofT h2⟩, for_tup (K := K) (a := t) (xs := us) (fun i σ H3 => ∃ x3 x4 x5 x6, σ = [some (.ref p), some (.ref d), some (.int (n + valT g (ts.take i))), x3, x4, x5, x6] ∧ H3 = H ∧ (ts.take i).find? (fun x => (g x.nm).isNone) = none) ⟨none, none, none, none, ?_, rfl, rfl⟩ (fun i σ H3 _ ⟨_, _, _, _, _, z, _⟩ => sql_ofT (by rw [z]; exact h2)) ?_ ?_⟩
    · show _ = [_, _, some (V.int (n + 0)), _, _, _, _]
      rw [Int.add_zero]
      rfl
    · rintro i y σ H3 hi ⟨x3, x4, x5, x6, rfl, rfl, hf⟩
      obtain ⟨x, q, hx, rfl, hq⟩ := h3.at_ hi
      refine ⟨q, _, rfl, sql_ofT hq, rfl, _, _, rfl, _, _, rfl, _, _, rfl, _, _, rfl, rfl, ?_⟩
      refine ⟨_, rfl, _, rfl, d, _, rfl, DGet.k (k := Sum.inr x.nm) hd, _, rfl, ?_⟩
      rw [hg]
      cases e : g x.nm with
      | none =>
        refine iteT' rfl ?_
        have hm : missT g ts = some x.nm := by
          unfold missT
          rw [find_take hx hf (by rw [e]; rfl)]
          rfl
        exact ⟨_, rfl, read1 XU.ox (XU.no "name" List.mem_cons_self) (kx _ hm)⟩
      | some z =>
        refine iteF' rfl ?_
        refine ⟨_, rfl, _, rfl, _, rfl, _, rfl, d, .int z, rfl, ?_, x.k, z, rfl, rfl, wide_mul (hb.2 x (List.mem_of_getElem? hx)).1 (hgb _ _ e) (by decide) (by decide) (by decide), fun r er => ⟨_, _, rfl, rfl, fun r2 er2 => ⟨some (.str x.nm), some (.int x.k), some (.int x.lo), some (.int x.hi), ?_, rfl, find_snoc hx hf (by rw [e]; rfl)⟩⟩⟩
        · have := DGet.k (k := Sum.inr x.nm) hd
          rw [hg, e] at this
          exact this
        · have ev : r2 = n + valT g (ts.take (i + 1)) := by
            unfold valT at er2 ⊢
            rw [List.take_add_one, hx, Option.toList_some, List.map_append, List.sum_append, er2, er]
            simp [e]
            omega
          rw [ev]
          rfl
    · rintro σ H3 ⟨x3, x4, x5, x6, rfl, rfl, hf⟩
      rw [List.take_of_length_le (by omega)] at hf ⊢
      refine ⟨_, rfl, k ?_⟩
      unfold missT
      rw [hf]
      rfl
end
end DO

namespace DO
open PySem PySem.Spec PyProof.Rows L2
theorem restrictS (h : Heap) (p : Addr → Bool) : ∃ G : Heap, (∀ b, p b = true → G.get? b = h.get? b) ∧ (∀ b, p b = false → G.get? b = none) ∧ G.objs.size = h.objs.size := by
  obtain ⟨l, hl⟩ : ∃ l : List Addr, l = (List.range h.objs.size).filter fun b => !p b := ⟨_, rfl⟩
  have m1 : ∀ b, b ∈ l → p b = false := fun b hb => by
    rw [hl] at hb
    have z := (List.mem_filter.mp hb).2
    simpa using z
  have m2 : ∀ b, b < h.objs.size → p b = false → b ∈ l := fun b h1 h2 => by
    rw [hl]
    exact List.mem_filter.mpr ⟨List.mem_range.mpr h1, by simp [h2]⟩
  refine ⟨PySem.W.hideAll h l, fun b hb => ?_, fun b hb => ?_, PySem.W.hideAll_size _ _⟩
  · cases e : h.get? b with
    | some o => exact PySem.W.hideAll_get l e fun hm => by rw [m1 b hm] at hb; cases hb
    | none =>
      cases q : (PySem.W.hideAll h l).get? b with
      | none => rfl
      | some o =>
        have z := PySem.W.of_hideAll l q
        rw [e] at z; cases z
  · cases q : (PySem.W.hideAll h l).get? b with
    | none => rfl
    | some o =>
      have z := PySem.W.of_hideAll l q
      rw [PySem.W.hideAll_none l (m2 b (Heap.lt_size z) hb)] at q; cases q
section
variable {X : Cx} {k : Nat} {f a : Addr} {fd : FuncData} {ps : List Str} {sp : Sp} {oe : Obj} {pn : List (Addr × Obj)} {x : Str} {p pos : Pos} {e : Expr} {te : TE}
theorem run_pin {pins : List (Addr × Obj)} {σ : L2.St} {H : Hp} {s : Shared} {Q : VK} {us : List Value} {vs : List V} (F : ∀ base' : Heap, base'.get? a = some oe → L2H.FnH X.prog X.w X.K X.mg base' CX0 k f fd ps sp) (hf : ∃ vs, oe.data = .fields vs) (hr : L2H.RoomH k X.A) (hot : L2H.Hot1 X.A (a, oe)) (hb : Binds X.K fd ps [])
    (I : L2.Inv X pins σ H s) (hp : L2H.PinOk X.stack H s (a, oe)) (r : Vals vs us) (h : sp vs H Q (fun _ _ _ => False)) : wpAny (model X.prog X.w) X.A (call (.ref f) us) (EP X pins σ Q) X.xe s := by
  have hg : s.heap.get? a = some oe := hp.get
  have hH : H a = none := hp.free
  obtain ⟨G, g1, g2, g3⟩ := restrictS s.heap fun b => (X.base.get? b).isSome || decide (b = a)
  have gb : ∀ b o, X.base.get? b = some o → G.get? b = some o := fun b o e => by
    rw [g1 b (by rw [e]; rfl)]
    exact (I.bs b o e).1
  have gi : ∀ b o, G.get? b = some o → s.heap.get? b = some o ∧ H b = none := fun b o e => by
    cases q : ((X.base.get? b).isSome || decide (b = a)) with
    | false =>
      rw [g2 b q] at e
      cases e
    | true =>
      rw [g1 b q] at e
      refine ⟨e, ?_⟩
      rcases Bool.or_eq_true_iff.mp q with z | z
      · obtain ⟨o', e'⟩ := Option.isSome_iff_exists.mp z
        exact (I.bs b o' e').2
      · rw [of_decide_eq_true z]
        exact hH
  have ga : G.get? a = some oe := by
    rw [g1 a (by simp)]
    exact hg
  have e0 := I.env0
  have M' : Mod X.K X.mg G := by
    obtain ⟨mb, h1, h2⟩ := e0.mod.blt
    exact ⟨e0.mod.kin.keeps gb, e0.mod.glob.keeps gb, ⟨mb, h1.keeps gb, h2⟩, e0.mod.nolimit.keeps gb⟩
  have E' : Env0 X.prog X.w X.K X.mg G X.A X.stack s H := ⟨e0.frames, M', gi, by rw [g3]; exact Nat.le_refl _, funFrames_none e0.funs (fun L hL => by
    cases q : ((X.base.get? L).isSome || decide (L = a)) with
    | false => exact g2 L q
    | true =>
      exfalso
      rcases Bool.or_eq_true_iff.mp q with z | z
      · obtain ⟨hn, _⟩ := e0.funs.mem hL
        rw [hn] at z
        cases z
      · rw [of_decide_eq_true z] at hL
        obtain ⟨_, o, ho, hd⟩ := e0.funs.mem hL
        obtain ⟨vs, hv⟩ := hf
        rw [hg] at ho
        obtain rfl := Option.some.inj ho
        exact hd vs hv), e0.frf, e0.hok, e0.bare⟩
  have F' := F G ga
  have hl : us.length = ps.length := by rw [← r.length]; exact F'.len _ _ _ _ h
  have b := hb s us I.kIn (by rw [List.append_nil]; exact hl)
  rw [List.append_nil] at b
  refine wpAny_call (codeAny_mono (F'.run X.A X.stack s H ⟨us, []⟩ us vs Q (fun _ _ _ => False) (a, oe) hr hot hp E' b r h) fun r s' hq => ?_)
  cases r with
  | error e => exact hq.elim
  | ok fl =>
    cases fl with
    | ret u => exact I.after hq
    | next => exact False.elim hq
    | brk => exact False.elim hq
    | cont => exact False.elim hq
/-- f(e), e the exception that the suite holds: it stands in what the callee may not touch -/
theorem pe_callPin {cls : Value} {d : Option Addr} (F : ∀ base' : Heap, base'.get? a = some oe → L2H.FnH X.prog X.w X.K X.mg base' CX0 k f fd ps sp) (hz : L2N.Zn cls d oe) (hf : ∃ vs, oe.data = .fields vs) (hr : L2H.RoomH k X.A) (hg : Gl X x) (hm : X.mg x = some (.ref f)) (hk : PySem.W.keepIn X.K (.ref f) = true) (hb : Binds X.K fd ps [])
    (he : PE (X.suite a ((a, oe) :: pn)) e te) (hdb : (x == ("__debug__" : Str)) = false := by decide) (hs : starEach (e :: []) X.env = (false, eval e X.env) :: starEach [] X.env := by rfl) (hpl : (backTo pos (starEach [] X.env)).any (·.1) = false := by rfl) :
    PE (X.suite a ((a, oe) :: pn)) (.Call (.Name x p) [e] [] pos) (tCall sp [] (fun _ _ _ => False) (tCons te tNil)) := by
  refine ⟨fun pins s σ H Q I h => ?_⟩
  refine wpAny_Call_Name_kw (ld_glob I hg hm ?_ hdb)
  refine PySem.W.callWith_K (h₀ := X.base) I.ok.mod.kin hk (thn ((pa_cons he pa_nil (X := X.suite a ((a, oe) :: pn)) hs).run pos pins s σ H _ I h) fun us s1 ⟨vs, H1, I1, r, q⟩ => ⟨I1.kIn, ?_⟩) hs hpl
  have P1 := I1.pin (a, oe) (List.mem_append_left _ List.mem_cons_self)
  have hp : L2H.PinOk (X.suite a ((a, oe) :: pn)).stack H1 s1 (a, oe) := ⟨P1.1, P1.2.1, fun hm => (List.mem_cons.mp (I1.stkSub a hm)).elim P1.2.2.1 P1.2.2.2.1, P1.2.2.2.2⟩
  obtain ⟨ws, hw⟩ := id hf
  have hot : L2H.Hot1 (X.suite a ((a, oe) :: pn)).A (a, oe) := ⟨rfl, ws, hw, hz.2.2 ws hw⟩
  have q' : sp (vs ++ []) H1 Q (fun _ _ _ => False) := q
  rw [List.append_nil] at q'
  exact run_pin (X := X.suite a ((a, oe) :: pn)) F hf (L2H.RoomH.mk hr.dp hr.un) hot hb I1 hp r q'
end
/-! ### in the callee: the exception at a, of the class at D, its dict at d -/
/-- what the class says, so that isinstance asks its instances rightly -/
structure ExD (K : PySem.W.Frag) (D : Addr) : Prop where
  cl : PySem.W.isClsIn K D = true
  hg : PySem.W.findIn K (.ref D) "__getattribute__" = some (some (.builtin "BaseException.__getattribute__"))
  hk : PySem.W.findIn K (.ref D) "__getattr__" = some none
  hs : PySem.W.subIn K (.ref D) (.type "BaseException") = some true
  hd : PySem.W.hasDictIn K D = true
  ha : PySem.W.findIn K (.ref D) "__class__" = some (some (.builtin "object.__class__"))
  hn : PySem.W.specialIn K (.builtin "object.__class__") "__get__" = some (some (.builtin "getset_descriptor.__get__"))
  ht : PySem.W.takesIn K (.builtin "object.__class__") = some true
  hm : PySem.W.mroIn K D (.type "object") = some true
section
variable {X : Cx} {a D d : Addr} {oe : Obj} {e : Expr} {te : TE} {n : Str} {pos : Pos}
theorem ins_at {pins : List (Addr × Obj)} {σ : L2.St} {H : Hp} {s : Shared} {fs : List (Str × V)} (hb : X.base.get? a = some oe) (hz : Zc (.ref D) (some d) oe) (hf : ∃ vs, oe.data = .fields vs) (I : L2.Inv X pins σ H s) (ea : H d = some (.xd fs)) :
    ∃ od, PySem.W.InstAt s.heap a oe D (some od) := by
  have ha := (I.bs a oe hb).1
  obtain ⟨vs, hd⟩ := hf
  have hx : ObjOk X.prog X.w H s.heap d (.xd fs) := I.hok d _ ea
  obtain ⟨mA, hns, hr⟩ := hx
  obtain ⟨od, ho, hl⟩ := lookIn_ns hns
  exact ⟨od, ha, hz.1, by unfold PySem.W.notCls; rw [hd] <;> rfl, by rw [hz.2]; exact ho⟩
def rIsD (K : PySem.W.Frag) (D d a : Addr) : List V → Hp → VK → Prop := fun xs H Q => ∃ (c : V) (cv : Value) (b : Bool) (fs : List (Str × V)), xs = [.ref a, c] ∧ (∀ u, RelV c u → u = cv) ∧ H d = some (.xd fs) ∧ PySem.W.kitOne K (.ref D) cv = some b ∧ Q (.bl b) H
theorem call_isD (C : ExD X.K D) (hb : X.base.get? a = some oe) (hz : Zc (.ref D) (some d) oe) (hf : ∃ vs, oe.data = .fields vs) : CallR X (.builtin "isinstance") (rIsD X.K D d a) := by
  intro pins s σ H xs us Q I r h
  obtain ⟨c, cv, b, fs, rfl, hcv, ea, e, q⟩ := h
  cases r with
  | cons rx rr =>
    cases rr with
    | cons rt rr =>
      cases rr
      cases rx
      have ec := hcv _ rt
      subst ec
      obtain ⟨od, J⟩ := ins_at hb hz hf I ea
      exact PySem.W.kia_one (PySem.W.kitx_exc C.cl C.hg C.hk C.hs C.ha C.hn C.ht C.hm) I.kIn J e (fun z => nomatch z) fun tk => ⟨.bl b, H, I.kept (t' := tk) fun _ _ z => z, rfl, q⟩
/-- e.f -/
def tXb (a d : Addr) (f : Str) (te : TE) : TE := fun σ H Q => te σ H fun x H1 => x = .ref a ∧ ∃ (fs : List (Str × V)) (v : V), H1 d = some (.xd fs) ∧ fs.lookup f = some v ∧ Q v H1
theorem pe_xb (C : ExD X.K D) (hno : PySem.W.findIn X.K (.ref D) n = some none) (hb : X.base.get? a = some oe) (hz : Zc (.ref D) (some d) oe) (hf : ∃ vs, oe.data = .fields vs) (he : PE X e te) (hbs : attributeBase e n X.env (eval e X.env) = eval e X.env := by rfl) :
    PE X (.Attribute e n pos) (tXb a d n te) := by
  refine ⟨fun pins s σ H Q I h => ?_⟩
  refine attr_of hbs (thn (he.run pins s σ H _ I h) fun u s1 hh => ?_)
  obtain ⟨x, H1, I1, rx, ex, fs, v, ea, l, q⟩ := hh
  subst ex
  obtain rfl : u = Value.ref a := rx
  have ha := (I1.bs a oe hb).1
  obtain ⟨vs, hd⟩ := hf
  have hx : ObjOk X.prog X.w H1 s1.heap d (.xd fs) := I1.hok d _ ea
  obtain ⟨mA, hns, hr⟩ := hx
  obtain ⟨od, ho, hl⟩ := lookIn_ns hns
  obtain ⟨u, hu, ru⟩ := RelO.some_of (v := v) (o := mA n) (by rw [← l]; exact hr n)
  have J : PySem.W.InstAt s1.heap a oe D (some od) := ⟨ha, hz.1, by unfold PySem.W.notCls; rw [hd] <;> rfl, by rw [hz.2]; exact ho⟩
  exact HandSPX.exc_get I1.kIn J C.hg C.hk C.hs (PySem.W.findObj_own C.hd hno rfl (by rw [hl, hu])) (handed_of ru) ⟨v, H1, I1.tok _, ru, q⟩
end
end DO

namespace DO
open PySem PySem.Spec PyProof.Rows L2
section
variable {P : Program} {w : World} {K : PySem.W.Frag} {mg : Str → Option Value} {base : Heap}
abbrev sRai : Stmt := top 35
theorem scRai : FnScope ["_law_e", "_law_found"] ["_law_e"] (defScope sRai) := ⟨rfl, rfl, rfl, by decide +kernel, rfl, by decide +kernel, by decide +kernel⟩
/-- what is told of a raised error -/
def RaisedAt (H : Hp) (l : Addr) (xs : List V) : Prop := ∃ q, H l = some (.lst [.ref q]) ∧ H q = some (.tup xs)
def spRai (a d : Addr) (fs : List (Str × V)) (xs : List V) : Sp := fun vs H Q _ => vs = [.ref a] ∧ H d = some (.xd fs) ∧ ∀ l H', H l = none → Same H H' → RaisedAt H' l xs → Q (.ref l) H'
theorem ok_raiBN {D a d C0 C1 C2 C3 C4 : Addr} {oe : Obj} {y : V} {f : Addr} {fd : FuncData} (F : Fun K "_law_raised" "_law_raised" sRai f fd) (EC : ExD K D) (hb : base.get? a = some oe) (hz : Zc (.ref D) (some d) oe) (hf : ∃ vs, oe.data = .fields vs)
    (no : ∀ f ∈ (["name", "low", "high"] : List Str), PySem.W.findIn K (.ref D) f = some none) (g0 : mg "BadName" = some (.ref C0)) (g1 : mg "BadEnds" = some (.ref C1)) (g2 : mg "UnknownName" = some (.ref C2)) (g3 : mg "UnlikeEnds" = some (.ref C3)) (g4 : mg "BadTold" = some (.ref C4))
    (k0 : PySem.W.kitOne K (.ref D) (.ref C0) = some true) (k1 : PySem.W.kitOne K (.ref D) (.ref C1) = some false) (k2 : PySem.W.kitOne K (.ref D) (.ref C2) = some false) (k3 : PySem.W.kitOne K (.ref D) (.ref C3) = some false) (k4 : PySem.W.kitOne K (.ref D) (.ref C4) = some false) (kv : PySem.W.kitOne K (.ref D) (.type "ValueError") = some true) (mis : mg "isinstance" = none) (mve : mg "ValueError" = none) : L2H.FnH P w K mg base CX0 1 f fd ["_law_e"] (spRai a d [("name", y)] [.str "BadName", y]) := by
  refine okH F scRai (fun vs H Q E h => ?_) (fun cdv A outer s H vs Q E p hot hr h => ?_)
  · obtain ⟨rfl, _⟩ := h
    rfl
  · obtain ⟨rfl, hd, k⟩ := h
    refine ⟨_, (pss_cons (ps_set (i := 1) scRai.nd rfl (.inl rfl) (pe_lst pa_nil))
      (pss_cons (ps_if (pt_val (pe_callB (call_isD EC hb hz hf) (by rfl) mis (by decide +kernel) (pa_cons (pv 0) (pa_cons (pe_glob (v := .ref C0) (by rfl) g0 rfl) pa_nil))))
      (pss_one (ps_expr (pe_bm PySem.F.plainAttrs_list PySem.F.slot_list_append PySem.F.type_list_append mt_append (pv 1) (pa_cons (pe_tup (pa_cons pe_str (pa_cons (pe_xb EC (no "name" (by simp)) hb hz hf (pv 0)) pa_nil))) pa_nil))))
      pss_nil)
      (pss_cons (ps_if (pt_val (pe_callB (call_isD EC hb hz hf) (by rfl) mis (by decide +kernel) (pa_cons (pv 0) (pa_cons (pe_glob (v := .ref C1) (by rfl) g1 rfl) pa_nil))))
      (pss_one (ps_expr (pe_bm PySem.F.plainAttrs_list PySem.F.slot_list_append PySem.F.type_list_append mt_append (pv 1) (pa_cons (pe_tup (pa_cons pe_str (pa_cons (pe_xb EC (no "low" (by simp)) hb hz hf (pv 0)) (pa_cons (pe_xb EC (no "high" (by simp)) hb hz hf (pv 0)) pa_nil)))) pa_nil))))
      pss_nil)
      (pss_cons (ps_if (pt_val (pe_callB (call_isD EC hb hz hf) (by rfl) mis (by decide +kernel) (pa_cons (pv 0) (pa_cons (pe_glob (v := .ref C2) (by rfl) g2 rfl) pa_nil))))
      (pss_one (ps_expr (pe_bm PySem.F.plainAttrs_list PySem.F.slot_list_append PySem.F.type_list_append mt_append (pv 1) (pa_cons (pe_tup (pa_cons pe_str (pa_cons (pe_xb EC (no "name" (by simp)) hb hz hf (pv 0)) pa_nil))) pa_nil))))
      pss_nil)
      (pss_cons (ps_if (pt_val (pe_callB (call_isD EC hb hz hf) (by rfl) mis (by decide +kernel) (pa_cons (pv 0) (pa_cons (pe_glob (v := .ref C3) (by rfl) g3 rfl) pa_nil))))
      (pss_one (ps_expr (pe_bm PySem.F.plainAttrs_list PySem.F.slot_list_append PySem.F.type_list_append mt_append (pv 1) (pa_cons (pe_tup (pa_cons pe_str (pa_cons (pe_xb EC (no "name" (by simp)) hb hz hf (pv 0)) pa_nil))) pa_nil))))
      pss_nil)
      (pss_cons (ps_if (pt_val (pe_callB (call_isD EC hb hz hf) (by rfl) mis (by decide +kernel) (pa_cons (pv 0) (pa_cons (pe_glob (v := .ref C4) (by rfl) g4 rfl) pa_nil))))
      (pss_one (ps_expr (pe_bm PySem.F.plainAttrs_list PySem.F.slot_list_append PySem.F.type_list_append mt_append (pv 1) (pa_cons (pe_tup (pa_cons pe_str pa_nil)) pa_nil))))
      pss_nil)
      (pss_cons (ps_if (pt_not (pt_val (pe_callB (call_isD EC hb hz hf) (by rfl) mis (by decide +kernel) (pa_cons (pv 0) (pa_cons (pe_bltn (v := .ty "ValueError") (by rfl) mve (by decide +kernel) rfl) pa_nil)))))
      (pss_one (ps_expr (pe_bm PySem.F.plainAttrs_list PySem.F.slot_list_append PySem.F.type_list_append mt_append (pv 1) (pa_cons (pe_tup (pa_cons pe_str pa_nil)) pa_nil))))
      pss_nil)
      (pss_one (ps_ret (pv 1)))))))))), ?_⟩
    refine ⟨Nat.zero_le _, fun l nl => ?_⟩
    have s1 := same_upd (o := .lst []) nl
    have hl : (upd H l (.lst [])) l = some (.lst []) := upd_same
    generalize (upd H l (.lst [])) = H1 at s1 hl
    refine ⟨_, rfl, _, _, true, _, rfl, (fun u h => h), s1 _ _ hd, k0, true, rfl, ?_⟩
    refine iteT' rfl ?_
    refine ⟨_, rfl, .inl ⟨rfl, _, sql_of hl⟩, _, rfl, rfl, _, y, s1 _ _ hd, rfl, (by show 2 ≤ sizeLine; decide), fun q nq => ?_⟩
    have s2 := same_upd (o := .tup [V.str "BadName", y]) nq
    have hl2 := s2 _ _ hl
    have hq : (upd H1 q (.tup [V.str "BadName", y])) q = some (.tup [V.str "BadName", y]) := upd_same
    refine ⟨l, [], _, rfl, rfl, hl2, (by show 0 < sizeLine; decide), ?_⟩
    have s3 : Same H (upd (upd H1 q (.tup [V.str "BadName", y])) l (.lst ([] ++ [V.ref q]))) := fun b o e => by
      rw [upd_ne (ne_of_none e nl)]
      exact s2 _ _ (s1 _ _ e)
    have hr : RaisedAt (upd (upd H1 q (.tup [V.str "BadName", y])) l (.lst ([] ++ [V.ref q]))) l [V.str "BadName", y] := ⟨q, upd_same, by rw [upd_ne (ne_of hq hl2 fun z => nomatch z)]; exact hq⟩
    generalize (upd (upd H1 q (.tup [V.str "BadName", y])) l (.lst ([] ++ [V.ref q]))) = H3 at s3 hr
    refine ⟨_, rfl, _, _, false, _, rfl, (fun u h => h), s3 _ _ hd, k1, false, rfl, ?_⟩
    refine iteF' rfl ?_
    refine ⟨_, rfl, _, _, false, _, rfl, (fun u h => h), s3 _ _ hd, k2, false, rfl, ?_⟩
    refine iteF' rfl ?_
    refine ⟨_, rfl, _, _, false, _, rfl, (fun u h => h), s3 _ _ hd, k3, false, rfl, ?_⟩
    refine iteF' rfl ?_
    refine ⟨_, rfl, _, _, false, _, rfl, (fun u h => h), s3 _ _ hd, k4, false, rfl, ?_⟩
    refine iteF' rfl ?_
    refine ⟨_, rfl, _, _, true, _, rfl, (fun u h => h), s3 _ _ hd, kv, true, rfl, ?_⟩
    refine iteF' rfl ?_
    exact ⟨_, rfl, k l _ nl s3 hr⟩
theorem ok_raiBE {D a d C0 C1 C2 C3 C4 : Addr} {oe : Obj} {y z : V} {f : Addr} {fd : FuncData} (F : Fun K "_law_raised" "_law_raised" sRai f fd) (EC : ExD K D) (hb : base.get? a = some oe) (hz : Zc (.ref D) (some d) oe) (hf : ∃ vs, oe.data = .fields vs)
    (no : ∀ f ∈ (["name", "low", "high"] : List Str), PySem.W.findIn K (.ref D) f = some none) (g0 : mg "BadName" = some (.ref C0)) (g1 : mg "BadEnds" = some (.ref C1)) (g2 : mg "UnknownName" = some (.ref C2)) (g3 : mg "UnlikeEnds" = some (.ref C3)) (g4 : mg "BadTold" = some (.ref C4))
    (k0 : PySem.W.kitOne K (.ref D) (.ref C0) = some false) (k1 : PySem.W.kitOne K (.ref D) (.ref C1) = some true) (k2 : PySem.W.kitOne K (.ref D) (.ref C2) = some false) (k3 : PySem.W.kitOne K (.ref D) (.ref C3) = some false) (k4 : PySem.W.kitOne K (.ref D) (.ref C4) = some false) (kv : PySem.W.kitOne K (.ref D) (.type "ValueError") = some true) (mis : mg "isinstance" = none) (mve : mg "ValueError" = none) : L2H.FnH P w K mg base CX0 1 f fd ["_law_e"] (spRai a d [("high", z), ("low", y)] [.str "BadEnds", y, z]) := by
  refine okH F scRai (fun vs H Q E h => ?_) (fun cdv A outer s H vs Q E p hot hr h => ?_)
  · obtain ⟨rfl, _⟩ := h
    rfl
  · obtain ⟨rfl, hd, k⟩ := h
    refine ⟨_, (pss_cons (ps_set (i := 1) scRai.nd rfl (.inl rfl) (pe_lst pa_nil))
      (pss_cons (ps_if (pt_val (pe_callB (call_isD EC hb hz hf) (by rfl) mis (by decide +kernel) (pa_cons (pv 0) (pa_cons (pe_glob (v := .ref C0) (by rfl) g0 rfl) pa_nil))))
      (pss_one (ps_expr (pe_bm PySem.F.plainAttrs_list PySem.F.slot_list_append PySem.F.type_list_append mt_append (pv 1) (pa_cons (pe_tup (pa_cons pe_str (pa_cons (pe_xb EC (no "name" (by simp)) hb hz hf (pv 0)) pa_nil))) pa_nil))))
      pss_nil)
      (pss_cons (ps_if (pt_val (pe_callB (call_isD EC hb hz hf) (by rfl) mis (by decide +kernel) (pa_cons (pv 0) (pa_cons (pe_glob (v := .ref C1) (by rfl) g1 rfl) pa_nil))))
      (pss_one (ps_expr (pe_bm PySem.F.plainAttrs_list PySem.F.slot_list_append PySem.F.type_list_append mt_append (pv 1) (pa_cons (pe_tup (pa_cons pe_str (pa_cons (pe_xb EC (no "low" (by simp)) hb hz hf (pv 0)) (pa_cons (pe_xb EC (no "high" (by simp)) hb hz hf (pv 0)) pa_nil)))) pa_nil))))
      pss_nil)
      (pss_cons (ps_if (pt_val (pe_callB (call_isD EC hb hz hf) (by rfl) mis (by decide +kernel) (pa_cons (pv 0) (pa_cons (pe_glob (v := .ref C2) (by rfl) g2 rfl) pa_nil))))
      (pss_one (ps_expr (pe_bm PySem.F.plainAttrs_list PySem.F.slot_list_append PySem.F.type_list_append mt_append (pv 1) (pa_cons (pe_tup (pa_cons pe_str (pa_cons (pe_xb EC (no "name" (by simp)) hb hz hf (pv 0)) pa_nil))) pa_nil))))
      pss_nil)
      (pss_cons (ps_if (pt_val (pe_callB (call_isD EC hb hz hf) (by rfl) mis (by decide +kernel) (pa_cons (pv 0) (pa_cons (pe_glob (v := .ref C3) (by rfl) g3 rfl) pa_nil))))
      (pss_one (ps_expr (pe_bm PySem.F.plainAttrs_list PySem.F.slot_list_append PySem.F.type_list_append mt_append (pv 1) (pa_cons (pe_tup (pa_cons pe_str (pa_cons (pe_xb EC (no "name" (by simp)) hb hz hf (pv 0)) pa_nil))) pa_nil))))
      pss_nil)
      (pss_cons (ps_if (pt_val (pe_callB (call_isD EC hb hz hf) (by rfl) mis (by decide +kernel) (pa_cons (pv 0) (pa_cons (pe_glob (v := .ref C4) (by rfl) g4 rfl) pa_nil))))
      (pss_one (ps_expr (pe_bm PySem.F.plainAttrs_list PySem.F.slot_list_append PySem.F.type_list_append mt_append (pv 1) (pa_cons (pe_tup (pa_cons pe_str pa_nil)) pa_nil))))
      pss_nil)
      (pss_cons (ps_if (pt_not (pt_val (pe_callB (call_isD EC hb hz hf) (by rfl) mis (by decide +kernel) (pa_cons (pv 0) (pa_cons (pe_bltn (v := .ty "ValueError") (by rfl) mve (by decide +kernel) rfl) pa_nil)))))
      (pss_one (ps_expr (pe_bm PySem.F.plainAttrs_list PySem.F.slot_list_append PySem.F.type_list_append mt_append (pv 1) (pa_cons (pe_tup (pa_cons pe_str pa_nil)) pa_nil))))
      pss_nil)
      (pss_one (ps_ret (pv 1)))))))))), ?_⟩
    refine ⟨Nat.zero_le _, fun l nl => ?_⟩
    have s1 := same_upd (o := .lst []) nl
    have hl : (upd H l (.lst [])) l = some (.lst []) := upd_same
    generalize (upd H l (.lst [])) = H1 at s1 hl
    refine ⟨_, rfl, _, _, false, _, rfl, (fun u h => h), s1 _ _ hd, k0, false, rfl, ?_⟩
    refine iteF' rfl ?_
    refine ⟨_, rfl, _, _, true, _, rfl, (fun u h => h), s1 _ _ hd, k1, true, rfl, ?_⟩
    refine iteT' rfl ?_
    refine ⟨_, rfl, .inl ⟨rfl, _, sql_of hl⟩, _, rfl, rfl, _, y, s1 _ _ hd, rfl, _, rfl, rfl, _, z, s1 _ _ hd, rfl, (by show 3 ≤ sizeLine; decide), fun q nq => ?_⟩
    have s2 := same_upd (o := .tup [V.str "BadEnds", y, z]) nq
    have hl2 := s2 _ _ hl
    have hq : (upd H1 q (.tup [V.str "BadEnds", y, z])) q = some (.tup [V.str "BadEnds", y, z]) := upd_same
    refine ⟨l, [], _, rfl, rfl, hl2, (by show 0 < sizeLine; decide), ?_⟩
    have s3 : Same H (upd (upd H1 q (.tup [V.str "BadEnds", y, z])) l (.lst ([] ++ [V.ref q]))) := fun b o e => by
      rw [upd_ne (ne_of_none e nl)]
      exact s2 _ _ (s1 _ _ e)
    have hr : RaisedAt (upd (upd H1 q (.tup [V.str "BadEnds", y, z])) l (.lst ([] ++ [V.ref q]))) l [V.str "BadEnds", y, z] := ⟨q, upd_same, by rw [upd_ne (ne_of hq hl2 fun z => nomatch z)]; exact hq⟩
    generalize (upd (upd H1 q (.tup [V.str "BadEnds", y, z])) l (.lst ([] ++ [V.ref q]))) = H3 at s3 hr
    refine ⟨_, rfl, _, _, false, _, rfl, (fun u h => h), s3 _ _ hd, k2, false, rfl, ?_⟩
    refine iteF' rfl ?_
    refine ⟨_, rfl, _, _, false, _, rfl, (fun u h => h), s3 _ _ hd, k3, false, rfl, ?_⟩
    refine iteF' rfl ?_
    refine ⟨_, rfl, _, _, false, _, rfl, (fun u h => h), s3 _ _ hd, k4, false, rfl, ?_⟩
    refine iteF' rfl ?_
    refine ⟨_, rfl, _, _, true, _, rfl, (fun u h => h), s3 _ _ hd, kv, true, rfl, ?_⟩
    refine iteF' rfl ?_
    exact ⟨_, rfl, k l _ nl s3 hr⟩
theorem ok_raiUN {D a d C0 C1 C2 C3 C4 : Addr} {oe : Obj} {y : V} {f : Addr} {fd : FuncData} (F : Fun K "_law_raised" "_law_raised" sRai f fd) (EC : ExD K D) (hb : base.get? a = some oe) (hz : Zc (.ref D) (some d) oe) (hf : ∃ vs, oe.data = .fields vs)
    (no : ∀ f ∈ (["name", "low", "high"] : List Str), PySem.W.findIn K (.ref D) f = some none) (g0 : mg "BadName" = some (.ref C0)) (g1 : mg "BadEnds" = some (.ref C1)) (g2 : mg "UnknownName" = some (.ref C2)) (g3 : mg "UnlikeEnds" = some (.ref C3)) (g4 : mg "BadTold" = some (.ref C4))
    (k0 : PySem.W.kitOne K (.ref D) (.ref C0) = some false) (k1 : PySem.W.kitOne K (.ref D) (.ref C1) = some false) (k2 : PySem.W.kitOne K (.ref D) (.ref C2) = some true) (k3 : PySem.W.kitOne K (.ref D) (.ref C3) = some false) (k4 : PySem.W.kitOne K (.ref D) (.ref C4) = some false) (kv : PySem.W.kitOne K (.ref D) (.type "ValueError") = some true) (mis : mg "isinstance" = none) (mve : mg "ValueError" = none) : L2H.FnH P w K mg base CX0 1 f fd ["_law_e"] (spRai a d [("name", y)] [.str "UnknownName", y]) := by
  refine okH F scRai (fun vs H Q E h => ?_) (fun cdv A outer s H vs Q E p hot hr h => ?_)
  · obtain ⟨rfl, _⟩ := h
    rfl
  · obtain ⟨rfl, hd, k⟩ := h
    refine ⟨_, (pss_cons (ps_set (i := 1) scRai.nd rfl (.inl rfl) (pe_lst pa_nil))
      (pss_cons (ps_if (pt_val (pe_callB (call_isD EC hb hz hf) (by rfl) mis (by decide +kernel) (pa_cons (pv 0) (pa_cons (pe_glob (v := .ref C0) (by rfl) g0 rfl) pa_nil))))
      (pss_one (ps_expr (pe_bm PySem.F.plainAttrs_list PySem.F.slot_list_append PySem.F.type_list_append mt_append (pv 1) (pa_cons (pe_tup (pa_cons pe_str (pa_cons (pe_xb EC (no "name" (by simp)) hb hz hf (pv 0)) pa_nil))) pa_nil))))
      pss_nil)
      (pss_cons (ps_if (pt_val (pe_callB (call_isD EC hb hz hf) (by rfl) mis (by decide +kernel) (pa_cons (pv 0) (pa_cons (pe_glob (v := .ref C1) (by rfl) g1 rfl) pa_nil))))
      (pss_one (ps_expr (pe_bm PySem.F.plainAttrs_list PySem.F.slot_list_append PySem.F.type_list_append mt_append (pv 1) (pa_cons (pe_tup (pa_cons pe_str (pa_cons (pe_xb EC (no "low" (by simp)) hb hz hf (pv 0)) (pa_cons (pe_xb EC (no "high" (by simp)) hb hz hf (pv 0)) pa_nil)))) pa_nil))))
      pss_nil)
      (pss_cons (ps_if (pt_val (pe_callB (call_isD EC hb hz hf) (by rfl) mis (by decide +kernel) (pa_cons (pv 0) (pa_cons (pe_glob (v := .ref C2) (by rfl) g2 rfl) pa_nil))))
      (pss_one (ps_expr (pe_bm PySem.F.plainAttrs_list PySem.F.slot_list_append PySem.F.type_list_append mt_append (pv 1) (pa_cons (pe_tup (pa_cons pe_str (pa_cons (pe_xb EC (no "name" (by simp)) hb hz hf (pv 0)) pa_nil))) pa_nil))))
      pss_nil)
      (pss_cons (ps_if (pt_val (pe_callB (call_isD EC hb hz hf) (by rfl) mis (by decide +kernel) (pa_cons (pv 0) (pa_cons (pe_glob (v := .ref C3) (by rfl) g3 rfl) pa_nil))))
      (pss_one (ps_expr (pe_bm PySem.F.plainAttrs_list PySem.F.slot_list_append PySem.F.type_list_append mt_append (pv 1) (pa_cons (pe_tup (pa_cons pe_str (pa_cons (pe_xb EC (no "name" (by simp)) hb hz hf (pv 0)) pa_nil))) pa_nil))))
      pss_nil)
      (pss_cons (ps_if (pt_val (pe_callB (call_isD EC hb hz hf) (by rfl) mis (by decide +kernel) (pa_cons (pv 0) (pa_cons (pe_glob (v := .ref C4) (by rfl) g4 rfl) pa_nil))))
      (pss_one (ps_expr (pe_bm PySem.F.plainAttrs_list PySem.F.slot_list_append PySem.F.type_list_append mt_append (pv 1) (pa_cons (pe_tup (pa_cons pe_str pa_nil)) pa_nil))))
      pss_nil)
      (pss_cons (ps_if (pt_not (pt_val (pe_callB (call_isD EC hb hz hf) (by rfl) mis (by decide +kernel) (pa_cons (pv 0) (pa_cons (pe_bltn (v := .ty "ValueError") (by rfl) mve (by decide +kernel) rfl) pa_nil)))))
      (pss_one (ps_expr (pe_bm PySem.F.plainAttrs_list PySem.F.slot_list_append PySem.F.type_list_append mt_append (pv 1) (pa_cons (pe_tup (pa_cons pe_str pa_nil)) pa_nil))))
      pss_nil)
      (pss_one (ps_ret (pv 1)))))))))), ?_⟩
    refine ⟨Nat.zero_le _, fun l nl => ?_⟩
    have s1 := same_upd (o := .lst []) nl
    have hl : (upd H l (.lst [])) l = some (.lst []) := upd_same
    generalize (upd H l (.lst [])) = H1 at s1 hl
    refine ⟨_, rfl, _, _, false, _, rfl, (fun u h => h), s1 _ _ hd, k0, false, rfl, ?_⟩
    refine iteF' rfl ?_
    refine ⟨_, rfl, _, _, false, _, rfl, (fun u h => h), s1 _ _ hd, k1, false, rfl, ?_⟩
    refine iteF' rfl ?_
    refine ⟨_, rfl, _, _, true, _, rfl, (fun u h => h), s1 _ _ hd, k2, true, rfl, ?_⟩
    refine iteT' rfl ?_
    refine ⟨_, rfl, .inl ⟨rfl, _, sql_of hl⟩, _, rfl, rfl, _, y, s1 _ _ hd, rfl, (by show 2 ≤ sizeLine; decide), fun q nq => ?_⟩
    have s2 := same_upd (o := .tup [V.str "UnknownName", y]) nq
    have hl2 := s2 _ _ hl
    have hq : (upd H1 q (.tup [V.str "UnknownName", y])) q = some (.tup [V.str "UnknownName", y]) := upd_same
    refine ⟨l, [], _, rfl, rfl, hl2, (by show 0 < sizeLine; decide), ?_⟩
    have s3 : Same H (upd (upd H1 q (.tup [V.str "UnknownName", y])) l (.lst ([] ++ [V.ref q]))) := fun b o e => by
      rw [upd_ne (ne_of_none e nl)]
      exact s2 _ _ (s1 _ _ e)
    have hr : RaisedAt (upd (upd H1 q (.tup [V.str "UnknownName", y])) l (.lst ([] ++ [V.ref q]))) l [V.str "UnknownName", y] := ⟨q, upd_same, by rw [upd_ne (ne_of hq hl2 fun z => nomatch z)]; exact hq⟩
    generalize (upd (upd H1 q (.tup [V.str "UnknownName", y])) l (.lst ([] ++ [V.ref q]))) = H3 at s3 hr
    refine ⟨_, rfl, _, _, false, _, rfl, (fun u h => h), s3 _ _ hd, k3, false, rfl, ?_⟩
    refine iteF' rfl ?_
    refine ⟨_, rfl, _, _, false, _, rfl, (fun u h => h), s3 _ _ hd, k4, false, rfl, ?_⟩
    refine iteF' rfl ?_
    refine ⟨_, rfl, _, _, true, _, rfl, (fun u h => h), s3 _ _ hd, kv, true, rfl, ?_⟩
    refine iteF' rfl ?_
    exact ⟨_, rfl, k l _ nl s3 hr⟩
theorem ok_raiUL {D a d C0 C1 C2 C3 C4 : Addr} {oe : Obj} {y : V} {f : Addr} {fd : FuncData} (F : Fun K "_law_raised" "_law_raised" sRai f fd) (EC : ExD K D) (hb : base.get? a = some oe) (hz : Zc (.ref D) (some d) oe) (hf : ∃ vs, oe.data = .fields vs)
    (no : ∀ f ∈ (["name", "low", "high"] : List Str), PySem.W.findIn K (.ref D) f = some none) (g0 : mg "BadName" = some (.ref C0)) (g1 : mg "BadEnds" = some (.ref C1)) (g2 : mg "UnknownName" = some (.ref C2)) (g3 : mg "UnlikeEnds" = some (.ref C3)) (g4 : mg "BadTold" = some (.ref C4))
    (k0 : PySem.W.kitOne K (.ref D) (.ref C0) = some false) (k1 : PySem.W.kitOne K (.ref D) (.ref C1) = some false) (k2 : PySem.W.kitOne K (.ref D) (.ref C2) = some false) (k3 : PySem.W.kitOne K (.ref D) (.ref C3) = some true) (k4 : PySem.W.kitOne K (.ref D) (.ref C4) = some false) (kv : PySem.W.kitOne K (.ref D) (.type "ValueError") = some true) (mis : mg "isinstance" = none) (mve : mg "ValueError" = none) : L2H.FnH P w K mg base CX0 1 f fd ["_law_e"] (spRai a d [("name", y)] [.str "UnlikeEnds", y]) := by
  refine okH F scRai (fun vs H Q E h => ?_) (fun cdv A outer s H vs Q E p hot hr h => ?_)
  · obtain ⟨rfl, _⟩ := h
    rfl
  · obtain ⟨rfl, hd, k⟩ := h
    refine ⟨_, (pss_cons (ps_set (i := 1) scRai.nd rfl (.inl rfl) (pe_lst pa_nil))
      (pss_cons (ps_if (pt_val (pe_callB (call_isD EC hb hz hf) (by rfl) mis (by decide +kernel) (pa_cons (pv 0) (pa_cons (pe_glob (v := .ref C0) (by rfl) g0 rfl) pa_nil))))
      (pss_one (ps_expr (pe_bm PySem.F.plainAttrs_list PySem.F.slot_list_append PySem.F.type_list_append mt_append (pv 1) (pa_cons (pe_tup (pa_cons pe_str (pa_cons (pe_xb EC (no "name" (by simp)) hb hz hf (pv 0)) pa_nil))) pa_nil))))
      pss_nil)
      (pss_cons (ps_if (pt_val (pe_callB (call_isD EC hb hz hf) (by rfl) mis (by decide +kernel) (pa_cons (pv 0) (pa_cons (pe_glob (v := .ref C1) (by rfl) g1 rfl) pa_nil))))
      (pss_one (ps_expr (pe_bm PySem.F.plainAttrs_list PySem.F.slot_list_append PySem.F.type_list_append mt_append (pv 1) (pa_cons (pe_tup (pa_cons pe_str (pa_cons (pe_xb EC (no "low" (by simp)) hb hz hf (pv 0)) (pa_cons (pe_xb EC (no "high" (by simp)) hb hz hf (pv 0)) pa_nil)))) pa_nil))))
      pss_nil)
      (pss_cons (ps_if (pt_val (pe_callB (call_isD EC hb hz hf) (by rfl) mis (by decide +kernel) (pa_cons (pv 0) (pa_cons (pe_glob (v := .ref C2) (by rfl) g2 rfl) pa_nil))))
      (pss_one (ps_expr (pe_bm PySem.F.plainAttrs_list PySem.F.slot_list_append PySem.F.type_list_append mt_append (pv 1) (pa_cons (pe_tup (pa_cons pe_str (pa_cons (pe_xb EC (no "name" (by simp)) hb hz hf (pv 0)) pa_nil))) pa_nil))))
      pss_nil)
      (pss_cons (ps_if (pt_val (pe_callB (call_isD EC hb hz hf) (by rfl) mis (by decide +kernel) (pa_cons (pv 0) (pa_cons (pe_glob (v := .ref C3) (by rfl) g3 rfl) pa_nil))))
      (pss_one (ps_expr (pe_bm PySem.F.plainAttrs_list PySem.F.slot_list_append PySem.F.type_list_append mt_append (pv 1) (pa_cons (pe_tup (pa_cons pe_str (pa_cons (pe_xb EC (no "name" (by simp)) hb hz hf (pv 0)) pa_nil))) pa_nil))))
      pss_nil)
      (pss_cons (ps_if (pt_val (pe_callB (call_isD EC hb hz hf) (by rfl) mis (by decide +kernel) (pa_cons (pv 0) (pa_cons (pe_glob (v := .ref C4) (by rfl) g4 rfl) pa_nil))))
      (pss_one (ps_expr (pe_bm PySem.F.plainAttrs_list PySem.F.slot_list_append PySem.F.type_list_append mt_append (pv 1) (pa_cons (pe_tup (pa_cons pe_str pa_nil)) pa_nil))))
      pss_nil)
      (pss_cons (ps_if (pt_not (pt_val (pe_callB (call_isD EC hb hz hf) (by rfl) mis (by decide +kernel) (pa_cons (pv 0) (pa_cons (pe_bltn (v := .ty "ValueError") (by rfl) mve (by decide +kernel) rfl) pa_nil)))))
      (pss_one (ps_expr (pe_bm PySem.F.plainAttrs_list PySem.F.slot_list_append PySem.F.type_list_append mt_append (pv 1) (pa_cons (pe_tup (pa_cons pe_str pa_nil)) pa_nil))))
      pss_nil)
      (pss_one (ps_ret (pv 1)))))))))), ?_⟩
    refine ⟨Nat.zero_le _, fun l nl => ?_⟩
    have s1 := same_upd (o := .lst []) nl
    have hl : (upd H l (.lst [])) l = some (.lst []) := upd_same
    generalize (upd H l (.lst [])) = H1 at s1 hl
    refine ⟨_, rfl, _, _, false, _, rfl, (fun u h => h), s1 _ _ hd, k0, false, rfl, ?_⟩
    refine iteF' rfl ?_
    refine ⟨_, rfl, _, _, false, _, rfl, (fun u h => h), s1 _ _ hd, k1, false, rfl, ?_⟩
    refine iteF' rfl ?_
    refine ⟨_, rfl, _, _, false, _, rfl, (fun u h => h), s1 _ _ hd, k2, false, rfl, ?_⟩
    refine iteF' rfl ?_
    refine ⟨_, rfl, _, _, true, _, rfl, (fun u h => h), s1 _ _ hd, k3, true, rfl, ?_⟩
    refine iteT' rfl ?_
    refine ⟨_, rfl, .inl ⟨rfl, _, sql_of hl⟩, _, rfl, rfl, _, y, s1 _ _ hd, rfl, (by show 2 ≤ sizeLine; decide), fun q nq => ?_⟩
    have s2 := same_upd (o := .tup [V.str "UnlikeEnds", y]) nq
    have hl2 := s2 _ _ hl
    have hq : (upd H1 q (.tup [V.str "UnlikeEnds", y])) q = some (.tup [V.str "UnlikeEnds", y]) := upd_same
    refine ⟨l, [], _, rfl, rfl, hl2, (by show 0 < sizeLine; decide), ?_⟩
    have s3 : Same H (upd (upd H1 q (.tup [V.str "UnlikeEnds", y])) l (.lst ([] ++ [V.ref q]))) := fun b o e => by
      rw [upd_ne (ne_of_none e nl)]
      exact s2 _ _ (s1 _ _ e)
    have hr : RaisedAt (upd (upd H1 q (.tup [V.str "UnlikeEnds", y])) l (.lst ([] ++ [V.ref q]))) l [V.str "UnlikeEnds", y] := ⟨q, upd_same, by rw [upd_ne (ne_of hq hl2 fun z => nomatch z)]; exact hq⟩
    generalize (upd (upd H1 q (.tup [V.str "UnlikeEnds", y])) l (.lst ([] ++ [V.ref q]))) = H3 at s3 hr
    refine ⟨_, rfl, _, _, false, _, rfl, (fun u h => h), s3 _ _ hd, k4, false, rfl, ?_⟩
    refine iteF' rfl ?_
    refine ⟨_, rfl, _, _, true, _, rfl, (fun u h => h), s3 _ _ hd, kv, true, rfl, ?_⟩
    refine iteF' rfl ?_
    exact ⟨_, rfl, k l _ nl s3 hr⟩
end
end DO

namespace DO
open PySem PySem.Spec PyProof.Rows L2
section
variable {P : Program} {w : World} {K : PySem.W.Frag} {mg : Str → Option Value} {base : Heap}
/-- a law's model of a form: its terms in the order of their names -/
def Mo (H : Hp) (m : Addr) (n : Int) (ts : List Tm) (kd : Option Str) : Prop := ∃ M, ModelAt H m n M kd ∧ srt M = ts
theorem Mo.keep {H H' : Hp} {m : Addr} {n : Int} {ts : List Tm} {kd : Option Str} (h : Mo H m n ts kd) (k : Same H H') : Mo H' m n ts kd := by
  obtain ⟨M, h1, h2⟩ := h
  exact ⟨M, h1.keep k, h2⟩
theorem Mo.kp {a : Addr} {H H' : Hp} {m : Addr} {n : Int} {ts : List Tm} {kd : Option Str} {xs : List V} (h : Mo H m n ts kd) (k : Kp a H H') (ha : H a = some (.lst xs)) : Mo H' m n ts kd := by
  obtain ⟨M, h1, h2⟩ := h
  exact ⟨M, h1.kp k ha, h2⟩
theorem Mo.any {H : Hp} {m : Addr} {n : Int} {ts : List Tm} {kd : Option Str} (h : Mo H m n ts kd) : Mo H m n ts none := by
  obtain ⟨M, h1, h2⟩ := h
  exact ⟨M, h1.any, h2⟩
abbrev sIsF : Stmt := top 31
theorem scIsF : FnScope ["_law_actual", "_law_model", "_law_due_here", "_law_mine", "_law_own"] ["_law_actual", "_law_model"] (defScope sIsF) := ⟨rfl, rfl, rfl, by decide +kernel, rfl, by decide +kernel, by decide +kernel⟩
def spIsF (C : Addr) : Sp := fun vs H Q _ => ∃ (p m : Addr) (n : Int) (ts : List Tm), vs = [.ref p, .ref m] ∧ FormAt C H p n ts ∧ Mo H m n ts none ∧ NmsOk ts ∧ ∀ H', Same H H' → Q (.bl true) H'
theorem ok_isF {C : Addr} (T : Frm K mg C) (D : Df K mg "_law_is_form" sIsF ["_law_actual", "_law_model"]) (DN : Df K mg "_law_is_number" sIsN ["_law_actual"]) (GN : FnOk P w K mg base CX0 1 DN.f DN.fd ["_law_actual"] spIsN) (DT : Df K mg "_law_terms" sTerms ["_law_model"]) (GT : FnOk P w K mg base CX0 1 DT.f DT.fd ["_law_model"] spTerms)
    (mis : mg "isinstance" = none) (mst : mg "str" = none) (mtu : mg "tuple" = none) (mln : mg "len" = none) (mz : mg "zip" = none) : FnOk P w K mg base CX0 2 D.f D.fd ["_law_actual", "_law_model"] (spIsF C) := by
  refine D.fn.ok scIsF (fun vs H Q E h => ?_) (fun cdv A outer s H vs Q E hr h => ?_)
  · obtain ⟨p, m, n, ts, rfl, _⟩ := h
    rfl
  · obtain ⟨p, m, n, ts, rfl, hp, hm, ho, k⟩ := h
    refine ⟨_, (pss_cons (ps_if (PW.pt (pw_or (pt_not (pt_val (pe_callB call_isi (by rfl) mis (by decide +kernel) (pa_cons (pv 0) (pa_cons (pe_glob (v := .ref C) (by rfl) T.mgC rfl) pa_nil))))) (pw_or (pt_not (pt_val (pe_call GN (hr.mono (by decide)) (by rfl) DN.mgf DN.fn.kp DN.bd .nil pass0 (pa_cons (pe_fld (pv 0) rfl) pa_nil)))) (pw_or1 (pt_cmpR op_ne (pe_fld (pv 0) rfl) (pe_ix ix_tup (pv 1) pe_int (fun _ _ => rfl)) (nomark _))))))
      (pss_one (ps_never))
      pss_nil)
      (pss_cons (ps_set (i := 2) scIsF.nd rfl (.inl rfl) (pe_call GT (hr.mono (by decide)) (by rfl) DT.mgf DT.fn.kp DT.bd .nil pass0 (pa_cons (pv 1) pa_nil)))
      (pss_cons (ps_if (PW.pt (pw_or (pt_not (pt_val (pe_callB call_isi (by rfl) mis (by decide +kernel) (pa_cons (pe_fld (pv 0) rfl) (pa_cons (pe_bltn (v := .ty "tuple") (by rfl) mtu (by decide +kernel) rfl) pa_nil))))) (pw_or1 (pt_cmpR op_ne (pe_callB call_len_seq (by rfl) mln PySem.boot_len (pa_cons (pe_fld (pv 0) rfl) pa_nil)) (pe_callB call_len_seq (by rfl) mln PySem.boot_len (pa_cons (pv 2) pa_nil)) (nomark _)))))
      (pss_one (ps_never))
      pss_nil)
      (pss_cons (ps_for PassesOwn.never rfl (RZ.pi_zipA (by rfl) mz (pa_cons (pe_fld (pv 0) rfl) (pa_cons (pv 2) pa_nil))) (pg_tup rfl (pgs_cons (pg_name (i := 3) scIsF.nd rfl (Or.inl rfl)) (pgs_cons (pg_name (i := 4) scIsF.nd rfl (Or.inl rfl)) pgs_nil)))
      (pss_cons (ps_if (PW.pt (pw_or (pt_not (pt_val (pe_callB call_isi (by rfl) mis (by decide +kernel) (pa_cons (pv 3) (pa_cons (pe_bltn (v := .ty "tuple") (by rfl) mtu (by decide +kernel) rfl) pa_nil))))) (pw_or (pt_cmpR op_ne (pe_callB call_len_seq (by rfl) mln PySem.boot_len (pa_cons (pv 3) pa_nil)) pe_int (nomark _)) (pw_or1 (pt_not (pt_val (pe_callB call_isi (by rfl) mis (by decide +kernel) (pa_cons (pe_ix ix_tup (pv 3) pe_int (fun _ _ => rfl)) (pa_cons (pe_bltn (v := .ty "str") (by rfl) mst (by decide +kernel) rfl) pa_nil)))))))))
      (pss_one (ps_never))
      pss_nil)
      (pss_one (ps_if (PW.pt (pw_or (pt_not (pt_val (pe_call GN (hr.mono (by decide)) (by rfl) DN.mgf DN.fn.kp DN.bd .nil pass0 (pa_cons (pe_ix ix_tup (pv 3) pe_int (fun _ _ => rfl)) pa_nil)))) (pw_or (pt_not (pt_val (pe_call GN (hr.mono (by decide)) (by rfl) DN.mgf DN.fn.kp DN.bd .nil pass0 (pa_cons (pe_ix ix_tup (pv 3) pe_int (fun _ _ => rfl)) pa_nil)))) (pw_or (pt_not (pt_val (pe_call GN (hr.mono (by decide)) (by rfl) DN.mgf DN.fn.kp DN.bd .nil pass0 (pa_cons (pe_ix ix_tup (pv 3) pe_int (fun _ _ => rfl)) pa_nil)))) (pw_or1 (pt_cmpR (op_neD hr.units) (pv 3) (pv 4) (nomark _)))))))
      (pss_one (ps_never))
      pss_nil))))
      (pss_one (ps_ret pe_bl)))))), ?_⟩
    obtain ⟨dx, t, us, h1, h2, h3⟩ := id hp
    obtain ⟨M, hM, hs⟩ := id hm
    obtain ⟨d, mx, e1, a0, a1, _, hd⟩ := id hM
    refine ⟨_, rfl, _, _, _, _, true, rfl, .own C, TyX_frm T hp, T.kC, true, rfl, ?_⟩
    refine iteF' rfl ?_
    refine ⟨_, rfl, p, C, dx, _, _, rfl, h1, T.cl, T.nC, ff_c _ _, n, rfl, true, rfl, ?_⟩
    refine iteF' rfl ?_
    refine ⟨_, rfl, p, C, dx, _, _, rfl, h1, T.cl, T.nC, ff_c _ _, _, rfl, m, _, 0, _, rfl, rfl, sql_ofT e1, a0, rfl, _, rfl, ?_⟩
    refine iteF' (by simp) ?_
    refine ⟨_, rfl, m, n, M, none, rfl, hM, fun tt ws H1 s1 nt ht hT => ?_⟩
    rw [hs] at hT
    have g1 := s1 _ _ h1
    have g2 := s1 _ _ h2
    have g3 := h3.mono (H' := H1) fun t xs w => s1 _ _ w
    refine ⟨_, rfl, p, C, dx, _, _, rfl, g1, T.cl, T.nT, ff_t _ _, _, _, _, _, true, rfl, .ty "tuple", .base (.tup g2), kit_ty (by decide +kernel), true, rfl, ?_⟩
    refine iteF' rfl ?_
    have hl : us.length = ws.length := by rw [h3.len, hT.len]
    refine ⟨_, rfl, p, C, dx, _, _, rfl, g1, T.cl, T.nT, ff_t _ _, t, us, rfl, .inr (sql_ofT g2), _, rfl, tt, ws, rfl, .inr (sql_ofT ht), rfl, _, rfl, ?_⟩
    refine iteF' (by rw [hl]; simp) ?_
    refine ⟨_, rfl, p, C, dx, _, _, rfl, g1, T.cl, T.nT, ff_t _ _, _, rfl, t, tt, us, ws, rfl, .inr ⟨sql_ofT g2, sql_ofT ht, RZ.for_zipT (K := K) hl (fun i σ H2 => ∃ x3 x4, σ = [some (.ref p), some (.ref m), some (.ref tt), x3, x4] ∧ Same H1 H2) ⟨none, none, rfl, fun _ _ e => e⟩ (fun i σ H2 ⟨_, _, _, z⟩ => ⟨sql_ofT (z _ _ g2), sql_ofT (z _ _ ht)⟩) ?_ ?_⟩⟩
    · rintro i x y T' σ H2 hx hy ⟨x3, x4, rfl, s2⟩ nT
      have sT := same_upd (o := .tup [x, y]) nT
      obtain ⟨u, q, hu, rfl, hq⟩ := (g3.mono (H' := upd H2 T' (.tup [x, y])) fun t xs w => sT _ _ (s2 _ _ w)).at_ hx
      obtain ⟨u', q', hu', rfl, hq'⟩ := (hT.mono (H' := upd H2 T' (.tup [.ref q, y])) fun t xs w => sT _ _ (s2 _ _ w)).at_ hy
      obtain rfl : u = u' := Option.some.inj (hu.symm.trans hu')
      refine ⟨T', _, rfl, sql_ofT upd_same, rfl, _, _, rfl, _, _, rfl, rfl, ?_⟩
      refine ⟨_, rfl, _, _, _, _, true, rfl, .ty "tuple", .base (.tup hq), kit_ty (by decide +kernel), true, rfl, ?_⟩
      refine iteF' rfl ?_
      refine ⟨_, rfl, q, _, rfl, .inr (sql_ofT hq), rfl, _, rfl, ?_⟩
      refine iteF' rfl ?_
      refine ⟨_, rfl, q, _, 0, _, rfl, rfl, sql_ofT hq, rfl, _, _, _, _, true, rfl, .ty "str", .base (.str u.nm), kit_ty (by decide +kernel), true, rfl, ?_⟩
      refine iteF' rfl ?_
      refine ⟨_, rfl, q, _, 1, _, rfl, rfl, sql_ofT hq, rfl, u.k, rfl, true, rfl, ?_⟩
      refine iteF' rfl ?_
      refine ⟨_, rfl, q, _, 2, _, rfl, rfl, sql_ofT hq, rfl, u.lo, rfl, true, rfl, ?_⟩
      refine iteF' rfl ?_
      refine ⟨_, rfl, q, _, 3, _, rfl, rfl, sql_ofT hq, rfl, u.hi, rfl, true, rfl, ?_⟩
      refine iteF' rfl ?_
      refine ⟨_, rfl, _, rfl, tmD u, tmD u, dp_tm hq, dp_tm hq', sh_tm (ho u (List.mem_of_getElem? hu)), sh_tm (ho u (List.mem_of_getElem? hu)), _, rfl, ?_⟩
      rw [eqv_tm]
      refine iteF' (by simp) ?_
      exact ⟨_, _, rfl, s2.trans sT⟩
    · rintro σ H2 ⟨x3, x4, rfl, s2⟩
      exact k H2 (s1.trans s2)
end
end DO

namespace DO
open PySem PySem.Spec PyProof.Rows L2
section
variable {P : Program} {w : World} {K : PySem.W.Frag} {mg : Str → Option Value} {base : Heap}
/-! ### the law's own sum -/
def sgn (s : Int) (ts : List Tm) : List Tm := ts.map fun x => ⟨x.nm, s * x.k, x.lo, x.hi⟩
theorem sgn_nms (s : Int) (ts : List Tm) : nms (sgn s ts) = nms ts := by
  unfold sgn nms
  rw [List.map_map]
  rfl
theorem sgn_one (ts : List Tm) : sgn 1 ts = ts := by
  unfold sgn
  have : (fun x : Tm => (⟨x.nm, 1 * x.k, x.lo, x.hi⟩ : Tm)) = id := by
    funext x
    rw [Int.one_mul]
    rfl
  rw [this, List.map_id]
theorem sgn_neg (ts : List Tm) : sgn (-1) ts = mulT (-1) ts := by
  unfold sgn mulT
  rw [if_neg (by decide)]
  apply List.map_congr_left
  intro x _
  show Tm.mk x.nm (-1 * x.k) x.lo x.hi = Tm.mk x.nm (x.k * -1) x.lo x.hi
  rw [Int.mul_comm]
theorem sgn_get (s : Int) (ts : List Tm) (w : Str) : getT (sgn s ts) w = (getT ts w).map fun x => ⟨x.nm, s * x.k, x.lo, x.hi⟩ := by
  unfold getT sgn
  rw [List.find?_map]
  rfl
theorem foldP_nd : ∀ (l K : List Tm), (nms K).Nodup → (nms (l.foldl addP K)).Nodup
  | [], K, h => h
  | x :: r, K, h => foldP_nd r _ (putT_nd h)
/-- what the law keeps of its table -/
theorem kept_srt {s : Int} {M N : List Tm} (hM : (nms M).Nodup) (hN : (nms N).Nodup) : srt (((sgn s (srt N)).foldl addP M).filter fun x => decide (x.k ≠ 0)) = addS (srt M) (sgn s (srt N)) := by
  have nS : (nms (sgn s (srt N))).Nodup := by rw [sgn_nms]; exact (srt_up hN).nd
  have nF : (nms ((sgn s (srt N)).foldl addP M)).Nodup := by
    have h : ∀ (l K : List Tm), (nms K).Nodup → (nms (l.foldl addP K)).Nodup := fun l => by
      induction l with
      | nil => intro K h; exact h
      | cons x r ih => intro K h; exact ih _ (putT_nd h)
    exact h _ _ hM
  have nG : (nms (((sgn s (srt N)).foldl addP M).filter fun x => decide (x.k ≠ 0))).Nodup := nms_filter nF
  refine up_tm (srt_up nG) addS_up fun w => ?_
  rw [get_srt nG, getT_filter nF, foldP_get w _ _ nS, addS_get (srt_up hM).nd nS, get_srt hM]
  have : kOf (srt M) w = kOf M w := by
    unfold kOf
    rw [get_srt hM]
  rw [this]
theorem unl_srt {M : List Tm} (hM : (nms M).Nodup) (us : List Tm) : unl (srt M) us = unl M us := by
  unfold unl
  congr 2
  funext u
  rw [get_srt hM]
theorem foldP_len : ∀ (l M : List Tm), (l.foldl addP M).length ≤ M.length + l.length
  | [], M => Nat.le_refl _
  | x :: r, M => by
    have h1 := foldP_len r (addP M x)
    have h2 : (addP M x).length ≤ M.length + 1 := putT_len
    rw [List.foldl_cons, List.length_cons]
    omega
abbrev sSum : Stmt := top 32
theorem scSum : FnScope ["_law_one_here", "_law_two", "_law_sign", "_law_table", "_law_word_here", "_law_times", "_law_bottom", "_law_top", "_law_before", "_law_kept", "_law_key"] ["_law_one_here", "_law_two", "_law_sign"] (defScope sSum) := ⟨rfl, rfl, rfl, by decide +kernel, rfl, by decide +kernel, by decide +kernel⟩
def spSum : Sp := fun vs H Q _ => ∃ (m1 m2 : Addr) (n1 n2 s : Int) (ts us : List Tm), vs = [.ref m1, .ref m2, .int s] ∧ Mo H m1 n1 ts none ∧ Mo H m2 n2 us none ∧ (s = 1 ∨ s = -1) ∧ ts.length + us.length ≤ 90 ∧
  (∀ w, unl ts us = some w → ∀ t H', Same H H' → H t = none → H' t = some (.tup [.str w, .non]) → Q (.ref t) H') ∧
  (unl ts us = none → ∀ t c H', Same H H' → H t = none → H' t = some (.tup [.non, .ref c]) → Mo H' c (n1 + s * n2) (addS ts (sgn s us)) none → Q (.ref t) H')
theorem ok_sum (D : Df K mg "_law_sum" sSum ["_law_one_here", "_law_two", "_law_sign"]) (mso : mg "sorted" = none) (mst : mg "str" = none) : FnOk P w K mg base CX0 1 D.f D.fd ["_law_one_here", "_law_two", "_law_sign"] spSum := by
  refine D.fn.ok scSum (fun vs H Q E h => ?_) (fun cdv A outer s0 H vs Q E hr h => ?_)
  · obtain ⟨m1, m2, n1, n2, s, ts, us, rfl, _⟩ := h
    rfl
  · obtain ⟨m1, m2, n1, n2, s, ts, us, rfl, hm1, hm2, hs, hsz, ku, k⟩ := h
    have hu := hu_of hr
    have hu2 : (A.deeper (envOfC "_law_sum" (defScope sSum) s0.heap.objs.size D.f cdv)).units + 2 < cLine := Nat.lt_of_le_of_lt (Nat.add_le_add_left (by decide : 2 ≤ 64) _) hr.units
    refine ⟨_, (pss_cons (ps_set (i := 3) scSum.nd rfl (.inl rfl) pe_dnewK)
      (pss_cons (ps_lock (ps_for PassesOwn.never rfl (pi_keys (pe_ix ix_tup (pv 0) pe_int (fun _ _ => rfl))) (pg_name (i := 4) scSum.nd rfl (Or.inl rfl))
      (pss_one (ps_dput hu (pv 3) (pv 4) (pe_dget hu (pe_ix ix_tup (pv 0) pe_int (fun _ _ => rfl)) (pv 4) (fun _ _ => rfl)) rfl))))
      (pss_cons (ps_for PassesOwn.never rfl (pi_list (pe_callB (cr_sortedT hu2) (by rfl) mso (by decide +kernel) (pa_cons (pe_lock (pe_lc (own := [("_law_key", 10)]) (g := gName 10) (tt := tYes) rfl scSum.nd (pi_keys (pe_ix (show IxR _ (rIxT K) from ix_tup) (pv 1) pe_int (fun _ _ => rfl))) (blkOk_by (N := ["_law_one_here", "_law_two", "_law_sign", "_law_table", "_law_word_here", "_law_times", "_law_bottom", "_law_top", "_law_before", "_law_kept", "_law_key"]) (sc := defScope sSum) (by decide +kernel)) (fun _ _ _ _ _ => pg_name (i := 10) scSum.nd rfl (Or.inl rfl)) (fun _ _ _ _ _ => pts_nil) (fun _ _ _ _ _ => (pe_callTy SkE.call_str_str (by rfl) mst (by decide +kernel) (pa_cons (pv 10) pa_nil))))) pa_nil))) (pg_name (i := 4) scSum.nd rfl (Or.inl rfl))
      (pss_cons (ps_asg (pe_dget hu (pe_ix ix_tup (pv 1) pe_int (fun _ _ => rfl)) (pv 4) (fun _ _ => rfl)) (pg_tup rfl (pgs_cons (pg_name (i := 5) scSum.nd rfl (Or.inl rfl)) (pgs_cons (pg_name (i := 6) scSum.nd rfl (Or.inl rfl)) (pgs_cons (pg_name (i := 7) scSum.nd rfl (Or.inl rfl)) pgs_nil)))))
      (pss_cons (ps_set (i := 8) scSum.nd rfl (.inl rfl) pe_int)
      (C8.pss_cut (ps_if (pt_cmp (pc_din hu (pv 4) (pv 3)))
      (pss_cons (ps_set (i := 8) scSum.nd rfl (.inl rfl) (pe_ix ix_tup (pe_dget hu (pv 3) (pv 4) (fun _ _ => rfl)) pe_int (fun _ _ => rfl)))
      (pss_one (ps_if (pt_cmpR (op_neD hr.units) (pe_slice sl_tup (pe_dget hu (pv 3) (pv 4) (fun _ _ => rfl)) (po_some pe_int) po_none) (pe_tup (pa_cons (pv 6) (pa_cons (pv 7) pa_nil))) (nomark _))
      (pss_one (ps_ret (pe_tup (pa_cons (pv 4) (pa_cons pe_non pa_nil)))))
      pss_nil)))
      pss_nil)
      (pss_one (ps_dput hu (pv 3) (pv 4) (pe_tup (pa_cons (pe_op op_addL (pv 8) (pe_op op_mulL (pv 2) (pv 5))) (pa_cons (pv 6) (pa_cons (pv 7) pa_nil)))) rfl))))))
      (pss_cons (ps_set (i := 9) scSum.nd rfl (.inl rfl) pe_dnewK)
      (pss_cons (ps_lock (ps_for PassesOwn.never rfl (pi_keys (pv 3)) (pg_name (i := 4) scSum.nd rfl (Or.inl rfl))
      (pss_one (ps_if (pt_cmpR op_ne (pe_ix ix_tup (pe_dget hu (pv 3) (pv 4) (fun _ _ => rfl)) pe_int (fun _ _ => rfl)) pe_int (nomark _))
      (pss_one (ps_dput hu (pv 9) (pv 4) (pe_dget hu (pv 3) (pv 4) (fun _ _ => rfl)) rfl))
      pss_nil))))
      (pss_one (ps_ret (pe_tup (pa_cons pe_non (pa_cons (pe_tup (pa_cons (pe_op op_addL (pe_ix ix_tup (pv 0) pe_int (fun _ _ => rfl)) (pe_op op_mulL (pv 2) (pe_ix ix_tup (pv 1) pe_int (fun _ _ => rfl)))) (pa_cons (pv 9) pa_nil))) pa_nil)))))))))), ?_⟩
    obtain ⟨M, ⟨d1, x1, e1, a10, a11, _, ⟨kv1, hd1, hA1⟩, nd1, sz1⟩, hs1⟩ := id hm1
    obtain ⟨N, ⟨d2, x2, e2, a20, a21, _, ⟨kv2, hd2, hA2⟩, nd2, sz2⟩, hs2⟩ := id hm2
    intro D nD
    have s1 := same_upd (o := .dK []) nD
    have hD0 : (upd H D (.dK [])) D = some (.dK []) := upd_same
    generalize (upd H D (.dK [])) = H1 at s1 hD0
    have h1d1 := s1 _ _ hd1
    have nd1D : d1 ≠ D := ne_of_none hd1 nD
    have m1D : m1 ≠ D := ne_of_none e1 nD
    have m1d : m1 ≠ d1 := ne_of e1 hd1 fun z => nomatch z
    -- one's dict once more
    refine ⟨d1, .dK kv1, h1d1, trivial, fun od => ?_⟩
    have hfz : (upd H1 d1 (.frz od (.dK kv1))) d1 = some (.frz od (.dK kv1)) := upd_same
    have hz : ∀ b, b ≠ d1 → (upd H1 d1 (.frz od (.dK kv1))) b = H1 b := fun b nb => upd_ne nb
    have tz : ∀ t xs, H1 t = some (.tup xs) → (upd H1 d1 (.frz od (.dK kv1))) t = some (.tup xs) := fun t xs z => by
      rw [hz t (ne_of z h1d1 fun w => nomatch w)]
      exact z
    have hz1 := tz _ _ (s1 _ _ e1)
    have hzD : (upd H1 d1 (.frz od (.dK kv1))) D = some (.dK []) := by rw [hz D nd1D.symm]; exact hD0
    have hAz := hA1.mono (H' := upd H1 d1 (.frz od (.dK kv1))) fun t xs z => tz _ _ (s1 _ _ z)
    have l1 := hA1.len
    generalize hHz : (upd H1 d1 (.frz od (.dK kv1))) = Hz at hfz hz tz hz1 hzD hAz
    refine ⟨_, rfl, m1, _, 1, _, rfl, rfl, sql_ofT hz1, a11, d1, od, rfl, .inl ⟨kv1, hfz, for_it walk_keys (fun i σ H2 => ∃ x4 tv, σ = [some (.ref m1), some (.ref m2), some (.int s), some (.ref D), x4, none, none, none, none, none, none] ∧ H2 D = some (.dK tv) ∧ DAll H2 tv (foldT (M.take i)) ∧ ∀ b, b ≠ D → H2 b = Hz b)
      ⟨none, [], rfl, hzD, .nil, fun _ _ => rfl⟩ (fun i σ H2 _ ⟨_, _, _, _, _, z⟩ => by rw [z d1 nd1D]; exact hfz) ?_ ?_⟩⟩
    · rintro i y σ H2 H3 hi ⟨x4, tv, rfl, hD, hT, hk⟩ ⟨rfl, kk, vv, hkv, rfl⟩
      obtain ⟨x, t, hx, rfl, rfl, ht⟩ := hAz.at_ hkv
      have hm3 : H3 m1 = some (.tup x1) := by rw [hk m1 m1D]; exact hz1
      have hd3 : H3 d1 = some (.frz od (.dK kv1)) := by rw [hk d1 nd1D]; exact hfz
      have hA3 := hA1.mono (H' := H3) fun t xs z => by
        have z1 := s1 _ _ z
        rw [hk t (ne_of (tz _ _ z1) hzD fun w => nomatch w)]
        exact tz _ _ z1
      obtain ⟨e, _⟩ | ⟨x', t', e', gv, ht3⟩ := hA3.get x.nm
      · have h6 := getT_mem nd1 (List.mem_of_getElem? hx)
        rw [e] at h6
        cases h6
      obtain rfl : x' = x := Option.some.inj (e'.symm.trans (getT_mem nd1 (List.mem_of_getElem? hx)))
      refine ⟨_, rfl, m1, _, 1, _, rfl, rfl, sql_ofT hm3, a11, _, rfl, d1, .ref t', rfl, ?_, _, rfl, _, rfl, D, _, rfl, DPut.k (k := Sum.inr x'.nm) hD ?_, _, _, rfl, upd_same, ?_, fun b nb => by rw [upd_ne nb]; exact hk b nb⟩
      · rw [← gv]
        exact .inl ⟨_, Sum.inr x'.nm, .inr ⟨od, hd3⟩, rfl, rfl⟩
      · rw [hT.len]
        refine small1000 (Nat.le_trans (foldT_len _) ?_)
        rw [List.length_take]
        omega
      · rw [List.take_add_one, hx, Option.toList_some, foldT_snoc]
        refine (hT.put ht3).mono fun q xs w => ?_
        rw [upd_ne (ne_of w hD fun v => nomatch v)]
        exact w
    rintro σ H2 ⟨x4, tv, rfl, hD, hT, hk⟩
    rw [l1, List.take_length, foldT_self nd1] at hT
    refine ⟨by rw [hk d1 nd1D]; exact hfz, ?_⟩
    have h2d1 : (upd H2 d1 (.dK kv1)) D = some (.dK tv) := by rw [upd_ne nd1D.symm]; exact hD
    have s4 : Same H (upd H2 d1 (.dK kv1)) := fun b o e => by
      have h1 := ne_of_none e nD
      by_cases h2 : b = d1
      · subst h2
        rw [hd1] at e
        rw [upd_same]
        exact e
      · rw [upd_ne h2, hk b h1, ← hHz, upd_ne h2]
        exact s1 _ _ e
    have hT4 := hT.mono (H' := upd H2 d1 (.dK kv1)) fun t xs w => by
      rw [upd_ne (fun z => by rw [z, hk d1 nd1D, hfz] at w; cases w)]
      exact w
    generalize (upd H2 d1 (.dK kv1)) = H4 at h2d1 s4 hT4
    clear hk hT hD hfz hz tz hz1 hzD hAz hHz h1d1 hD0 s1
    -- the names of two in order
    have kl : kv2.length = N.length := hA2.len
    have hmd : m2 ≠ d2 := ne_of e2 hd2 fun z => nomatch z
    have hd4 := s4 _ _ hd2
    have hnD2 : d2 ≠ D := ne_of_none hd2 nD
    refine ⟨d2, .dK kv2, hd4, trivial, fun od2 => ?_⟩
    have hfz : (upd H4 d2 (.frz od2 (.dK kv2))) d2 = some (.frz od2 (.dK kv2)) := upd_same
    have hm' : (upd H4 d2 (.frz od2 (.dK kv2))) m2 = some (.tup x2) := by rw [upd_ne hmd]; exact s4 _ _ e2
    refine ⟨_, rfl, m2, _, 1, _, rfl, rfl, sql_ofT hm', a21, d2, od2, rfl, .inl ⟨kv2, hfz, fun B nB => ?_⟩⟩
    have hBd : d2 ≠ B := ne_of_none hfz nB
    refine lc_it walk_keys (fun i H5 => H5 = upd (upd H4 d2 (.frz od2 (.dK kv2))) B (.lst ((KeyL N).take i))) rfl (fun i H5 _ e => by rw [e, upd_ne hBd]; exact hfz) ?_ ?_
    · rintro i x H5 H6 hi rfl ⟨rfl, kk, vv, hk, rfl⟩
      obtain ⟨y, t, hy, rfl, rfl, ht⟩ := hA2.at_ hk
      have hc' : (KeyL N)[i]? = some (.str y.nm) := by
        unfold KeyL nms
        rw [List.getElem?_map, List.getElem?_map, hy]
        rfl
      refine ⟨rfl, ?_⟩
      refine ⟨_, rfl, y.nm, rfl, _, upd_same, ?_, ?_⟩
      · rw [List.length_take]
        exact small1000 (by omega)
      · rw [upd_upd, List.take_add_one, hc']
        rfl
    rintro H5 rfl
    have nB' : H4 B = none := by
      rw [upd_ne hBd.symm] at nB
      exact nB
    have nB0 : H B = none := s4.free nB'
    have lk : (KeyL N).length = N.length := by
      unfold KeyL nms
      rw [List.length_map, List.length_map]
    rw [List.take_of_length_le (by omega)]
    refine ⟨by rw [upd_ne hBd]; exact hfz, ?_⟩
    have hB : (upd (upd (upd H4 d2 (.frz od2 (.dK kv2))) B (.lst (KeyL N))) d2 (.dK kv2)) B = some (.lst (KeyL N)) := by rw [upd_ne hBd.symm, upd_same]
    have sm : Same H4 (upd (upd (upd H4 d2 (.frz od2 (.dK kv2))) B (.lst (KeyL N))) d2 (.dK kv2)) := fun b o e => by
      have h2 := ne_of_none e nB'
      by_cases h1 : b = d2
      · subst h1
        rw [hd4] at e
        rw [upd_same]
        exact e
      · rw [upd_ne h1, upd_ne h2, upd_ne h1]
        exact e
    generalize (upd (upd (upd H4 d2 (.frz od2 (.dK kv2))) B (.lst (KeyL N))) d2 (.dK kv2)) = H5 at hB sm
    refine ⟨B, nms N, rfl, sql_of hB, fun ol no => ?_⟩
    have s5 := same_upd (o := .lst (((nms N).mergeSort leT).map V.str)) no
    have hO : (upd H5 ol (.lst (((nms N).mergeSort leT).map V.str))) ol = some (.lst ((sortS (nms N)).map V.str)) := upd_same
    have sm5 := sm.trans s5
    have nol : H5 ol = none := no
    generalize (upd H5 ol (.lst (((nms N).mergeSort leT).map V.str))) = H6 at hO sm5
    have ns : nms us = sortS (nms N) := by rw [← hs2]; exact srt_nms N
    have hD6 := sm5 _ _ h2d1
    have hoD : ol ≠ D := (ne_of_none (sm _ _ h2d1) nol).symm
    have s6 : Same H H6 := s4.trans sm5
    have hT6 := hT4.mono (H' := H6) fun t xs w => sm5 _ _ w
    have ndu : (nms us).Nodup := by rw [← hs2]; exact (srt_up nd2).nd
    have lM : M.length = ts.length := by
      have := congrArg List.length (srt_nms M)
      rw [hs1] at this
      unfold nms at this
      rw [List.length_map, (sortS_perm _).length_eq, List.length_map] at this
      exact this.symm
    have hus : ∀ u ∈ us, getT N u.nm = some u := fun u hu => by
      rw [← hs2] at hu
      exact getT_mem nd2 ((mem_srt nd2).mp hu)
    refine ⟨ol, rfl, ⟨_, sql_of hO⟩, for_list (K := K) (a := ol) (xs := (sortS (nms N)).map V.str) (fun i σ H7 => ∃ x4 x5 x6 x7 x8 tv, σ = [some (.ref m1), some (.ref m2), some (.int s), some (.ref D), x4, x5, x6, x7, x8, none, none] ∧ H7 D = some (.dK tv) ∧ DAll H7 tv (((sgn s us).take i).foldl addP M) ∧ (us.take i).find? (fun u => (getT M u.nm).any fun t => decide ((t.lo, t.hi) ≠ (u.lo, u.hi))) = none ∧ ∀ b o, H6 b = some o → b ≠ D → H7 b = some o)
      ⟨_, none, none, none, none, tv, rfl, hD6, hT6, rfl, fun _ _ e _ => e⟩ (fun i σ H7 _ ⟨_, _, _, _, _, _, _, _, _, _, z⟩ => sql_of (z _ _ hO hoD)) ?_ ?_⟩
    · rintro i y σ H7 hi ⟨x4, x5, x6, x7, x8, tv, rfl, hD, hT, hun, hk⟩
      rw [← ns] at hi
      have hil : i < us.length := by
        have := (List.getElem?_eq_some_iff.mp hi).1
        unfold nms at this
        rw [List.length_map, List.length_map] at this
        exact this
      have hx : us[i]? = some us[i] := List.getElem?_eq_getElem hil
      generalize us[i] = x at hx
      have hy : y = .str x.nm := by
        unfold nms at hi
        rw [List.getElem?_map, List.getElem?_map, hx] at hi
        exact (Option.some.inj hi).symm
      subst hy
      have hd7 := hk _ _ (s6 _ _ hd2) hnD2
      have hm7 := hk _ _ (s6 _ _ e2) (ne_of_none e2 nD)
      obtain ⟨e, _⟩ | ⟨x', t, e', gv, ht⟩ := (hA2.mono (H' := H7) fun t xs z => hk _ _ (s6 _ _ z) (ne_of_none z nD)).get x.nm
      · have h6 := hus x (List.mem_of_getElem? hx)
        rw [e] at h6
        cases h6
      obtain rfl : x' = x := Option.some.inj (e'.symm.trans (hus x (List.mem_of_getElem? hx)))
      refine ⟨_, rfl, m2, _, 1, _, rfl, rfl, sql_ofT hm7, a21, _, rfl, d2, .ref t, rfl, by rw [← gv]; exact DGet.k (k := Sum.inr x'.nm) hd7, ?_⟩
      have hcur : getT (((sgn s us).take i).foldl addP M) x'.nm = getT M x'.nm := by
        rw [foldP_get x'.nm _ _ (by
          have : (nms (sgn s us)).Nodup := by rw [sgn_nms]; exact ndu
          unfold nms at this ⊢
          rw [List.map_take]
          exact this.sublist (List.take_sublist _ _))]
        have : getT ((sgn s us).take i) x'.nm = none := by
          rw [getT_none]
          intro hm
          have e1 : nms ((sgn s us).take i) = (nms us).take i := by
            rw [← sgn_nms s us]
            unfold nms
            rw [List.map_take]
          rw [e1] at hm
          obtain ⟨j, hj, ej⟩ := List.mem_take_iff_getElem.mp hm
          have hi2 := List.getElem?_eq_some_iff.mp (show (nms us)[i]? = some x'.nm by unfold nms; rw [List.getElem?_map, hx]; rfl)
          obtain ⟨hi3, ei⟩ := hi2
          exact (List.pairwise_iff_getElem.mp ndu) j i (by omega) hi3 (by omega) (ej.trans ei.symm)
        rw [this]
      generalize hcu : ((sgn s us).take i).foldl addP M = cur at hT hcur
      have hkc : kOf cur x'.nm = kOf M x'.nm := by
        unfold kOf
        rw [hcur]
      refine ⟨t, _, rfl, sql_ofT ht, rfl, _, _, rfl, _, _, rfl, _, _, rfl, rfl, ?_⟩
      refine ⟨fun σ H8 => σ = [some (.ref m1), some (.ref m2), some (.int s), some (.ref D), some (.str x'.nm), some (.int x'.k), some (.int x'.lo), some (.int x'.hi), some (.int (kOf cur x'.nm)), none, none] ∧ ((getT M x'.nm).any fun t => decide ((t.lo, t.hi) ≠ (x'.lo, x'.hi))) = false ∧ Same H7 H8, ?_, ?_⟩
      · obtain ⟨e1, e2⟩ | ⟨t0, qq, e1, e2, e3⟩ := hT.get x'.nm
        · refine ⟨_, rfl, _, rfl, D, none, rfl, by rw [← e2]; exact DGet.k (k := Sum.inr x'.nm) hD, _, rfl, ?_⟩
          refine iteF' rfl ?_
          refine ⟨?_, by rw [← hcur, e1]; rfl, fun _ _ e => e⟩
          rw [kOf_none e1]
          rfl
        · refine ⟨_, rfl, _, rfl, D, some (.ref qq), rfl, by rw [← e2]; exact DGet.k (k := Sum.inr x'.nm) hD, _, rfl, ?_⟩
          refine iteT' rfl ?_
          refine ⟨_, rfl, _, rfl, D, .ref qq, rfl, by rw [← e2]; exact DGet.k (k := Sum.inr x'.nm) hD, qq, _, 0, _, rfl, rfl, sql_ofT e3, rfl, ?_⟩
          refine ⟨_, rfl, _, rfl, D, .ref qq, rfl, by rw [← e2]; exact DGet.k (k := Sum.inr x'.nm) hD, ?_⟩
          refine ⟨_, rfl, qq, _, rfl, sql_ofT e3, (show ¬ (HT.sIx 3 0 (some 1) = 0 ∧ HT.sIx 3 3 none = 3) by decide), fun z1 n1 => ?_⟩
          have sz1 := same_upd (o := .tup (cutV [V.int t0.k, V.int t0.lo, V.int t0.hi] (some 1) none)) n1
          refine ⟨_, rfl, _, rfl, (by show 2 ≤ sizeLine; decide), fun z2 n2 => ?_⟩
          have sz2 := same_upd (o := .tup [V.int x'.lo, V.int x'.hi]) n2
          refine ⟨enD t0.lo t0.hi, enD x'.lo x'.hi, dp_en (sz2 _ _ upd_same), dp_en upd_same, sh_en _ _, sh_en _ _, _, rfl, ?_⟩
          rw [eqv_en]
          have hp : ((getT M x'.nm).any fun t => decide ((t.lo, t.hi) ≠ (x'.lo, x'.hi))) = !decide ((t0.lo, t0.hi) = (x'.lo, x'.hi)) := by
            rw [← hcur, e1]
            simp
          refine ite2 (fun e => ?_) (fun e => ?_)
          · have hunl : unl ts us = some x'.nm := by
              rw [← hs1, unl_srt nd1]
              unfold unl
              rw [find_take hx hun (by rw [hp]; exact e)]
              rfl
            have sA : Same H7 (upd (upd H7 z1 (.tup (cutV [V.int t0.k, V.int t0.lo, V.int t0.hi] (some 1) none))) z2 (.tup [V.int x'.lo, V.int x'.hi])) := sz1.trans sz2
            have sB : Same H H7 := fun b o e => hk _ _ (s6 _ _ e) (ne_of_none e nD)
            refine ⟨_, rfl, (by show 2 ≤ sizeLine; decide), fun T nT => ?_⟩
            exact ku x'.nm hunl T _ ((sB.trans sA).trans (same_upd nT)) ((sB.trans sA).free nT) upd_same
          · refine ⟨?_, by rw [hp]; simpa using e, sz1.trans sz2⟩
            rw [kOf_some e1]
            rfl
      · rintro σ H8 ⟨rfl, hp, sm8⟩
        have hs64 : -(2 ^ 64) < s ∧ s < 2 ^ 64 := by omega
        have hD8 := sm8 _ _ hD
        refine ⟨_, rfl, _, rfl, _, rfl, _, _, rfl, rfl, .inl hs64, fun r er => ⟨_, _, rfl, rfl, fun r2 er2 => ⟨_, rfl, _, rfl, (by show 3 ≤ sizeLine; decide), fun T nT => ?_⟩⟩⟩
        have sT := same_upd (o := .tup [V.int r2, V.int x'.lo, V.int x'.hi]) nT
        have hDT := sT _ _ hD8
        have hxs : (sgn s us)[i]? = some ⟨x'.nm, s * x'.k, x'.lo, x'.hi⟩ := by
          unfold sgn
          rw [List.getElem?_map, hx]
          rfl
        have hil2 : cur.length ≤ M.length + i := by
          rw [← hcu]
          refine Nat.le_trans (foldP_len _ _) ?_
          rw [List.length_take]
          omega
        refine ⟨_, rfl, _, rfl, D, _, rfl, DPut.k (k := Sum.inr x'.nm) hDT (by rw [hT.len]; exact small1000 (by omega)), ?_⟩
        have hT8 := (hT.mono (H' := upd H8 T (.tup [V.int r2, V.int x'.lo, V.int x'.hi])) fun t xs w => sT _ _ (sm8 _ _ w)).put (x := ⟨x'.nm, r2, x'.lo, x'.hi⟩) (t := T) upd_same
        refine ⟨_, _, _, _, _, _, rfl, upd_same, ?_, find_snoc hx hun hp, fun b o eb nb => ?_⟩
        · rw [List.take_add_one, hxs, Option.toList_some, List.foldl_append, hcu]
          show DAll _ _ (addP cur ⟨x'.nm, s * x'.k, x'.lo, x'.hi⟩)
          unfold addP
          rw [← er, ← er2]
          refine hT8.mono fun t xs w => ?_
          rw [upd_ne (ne_of w hDT fun v => nomatch v)]
          exact w
        · rw [upd_ne nb]
          exact sT _ _ (sm8 _ _ (hk _ _ eb nb))
    · rintro σ H7 ⟨x4, x5, x6, x7, x8, tv, rfl, hD, hT, hun, hk⟩
      have lS : ((sortS (nms N)).map V.str).length = us.length := by
        rw [← ns]
        unfold nms
        rw [List.length_map, List.length_map]
      rw [lS] at hT hun
      rw [List.take_of_length_le (by unfold sgn; rw [List.length_map]; exact Nat.le_refl _)] at hT
      rw [List.take_of_length_le (Nat.le_refl _)] at hun
      have hu0 : unl ts us = none := by
        rw [← hs1, unl_srt nd1]
        unfold unl
        rw [hun]
        rfl
      have s7 : Same H H7 := fun b o e => hk _ _ (s6 _ _ e) (ne_of_none e nD)
      have hF := foldP_nd (sgn s us) M nd1
      have hFl := foldP_len (sgn s us) M
      have hsl : (sgn s us).length = us.length := by unfold sgn; rw [List.length_map]
      rw [hsl] at hFl
      have hkept := kept_srt (s := s) nd1 nd2
      rw [hs1, hs2] at hkept
      generalize (sgn s us).foldl addP M = F at hT hF hFl hkept
      intro Kd nK
      have sK := same_upd (o := .dK []) nK
      have hK0 : (upd H7 Kd (.dK [])) Kd = some (.dK []) := upd_same
      have nKD : Kd ≠ D := (ne_of_none hD nK).symm
      have hDK := sK _ _ hD
      have hT' := hT.mono (H' := upd H7 Kd (.dK [])) fun t xs w => sK _ _ w
      have s8 := s7.trans sK
      have nK0 : H Kd = none := s7.free nK
      generalize (upd H7 Kd (.dK [])) = H8 at hK0 hDK hT' s8
      refine ⟨D, .dK tv, hDK, trivial, fun od3 => ?_⟩
      have hfz2 : (upd H8 D (.frz od3 (.dK tv))) D = some (.frz od3 (.dK tv)) := upd_same
      have hK9 : (upd H8 D (.frz od3 (.dK tv))) Kd = some (.dK []) := by rw [upd_ne nKD]; exact hK0
      have hT9 := hT'.mono (H' := upd H8 D (.frz od3 (.dK tv))) fun t xs w => by
        rw [upd_ne (ne_of w hDK fun v => nomatch v)]
        exact w
      have hz9 : ∀ b, b ≠ D → (upd H8 D (.frz od3 (.dK tv))) b = H8 b := fun b nb => upd_ne nb
      generalize (upd H8 D (.frz od3 (.dK tv))) = H9 at hfz2 hK9 hT9 hz9
      have lT := hT9.len
      refine ⟨_, rfl, D, od3, rfl, .inl ⟨tv, hfz2, for_it walk_keys (fun i σ H10 => ∃ x4 kv, σ = [some (.ref m1), some (.ref m2), some (.int s), some (.ref D), x4, x5, x6, x7, x8, some (.ref Kd), none] ∧ H10 Kd = some (.dK kv) ∧ DAll H10 kv (foldT ((F.take i).filter fun x => decide (x.k ≠ 0))) ∧ ∀ b, b ≠ Kd → H10 b = H9 b)
        ⟨_, [], rfl, hK9, .nil, fun _ _ => rfl⟩ (fun i σ H10 _ ⟨_, _, _, _, _, z⟩ => by rw [z D nKD.symm]; exact hfz2) ?_ ?_⟩⟩
      · rintro i y σ H10 H11 hi ⟨x4', kv, rfl, hKd, hTk, hz⟩ ⟨rfl, kk, vv, hkv, rfl⟩
        obtain ⟨x, t, hx, rfl, rfl, ht⟩ := hT9.at_ hkv
        have hD10 : H11 D = some (.frz od3 (.dK tv)) := by rw [hz D nKD.symm]; exact hfz2
        obtain ⟨e, _⟩ | ⟨x', t', e', gv, ht3⟩ := (hT9.mono (H' := H11) fun t xs w => by
            rw [hz t (ne_of w hK9 fun v => nomatch v)]
            exact w).get x.nm
        · have h6 := getT_mem hF (List.mem_of_getElem? hx)
          rw [e] at h6
          cases h6
        obtain rfl : x' = x := Option.some.inj (e'.symm.trans (getT_mem hF (List.mem_of_getElem? hx)))
        have gd : DGet H11 D (V.str x'.nm) (some (.ref t')) := by
          rw [← gv]
          exact .inl ⟨_, Sum.inr x'.nm, .inr ⟨od3, hD10⟩, rfl, rfl⟩
        have tk : F.take (i + 1) = F.take i ++ [x'] := by rw [List.take_add_one, hx, Option.toList_some]
        refine ⟨_, rfl, _, rfl, D, .ref t', rfl, gd, t', _, 0, _, rfl, rfl, sql_ofT ht3, rfl, rfl, _, rfl, ?_⟩
        refine ite2 (fun e => ?_) (fun e => ?_)
        · have ek : x'.k ≠ 0 := fun z => by
            rw [z] at e
            simp at e
          refine ⟨_, rfl, _, rfl, D, .ref t', rfl, gd, _, rfl, _, rfl, Kd, _, rfl, DPut.k (k := Sum.inr x'.nm) hKd ?_, _, _, rfl, upd_same, ?_, fun b nb => by rw [upd_ne nb]; exact hz b nb⟩
          · rw [hTk.len]
            refine small1000 (Nat.le_trans (foldT_len _) ?_)
            refine Nat.le_trans (List.length_filter_le _ _) ?_
            rw [List.length_take]
            omega
          · rw [tk, List.filter_append, List.filter_cons, if_pos (decide_eq_true ek), List.filter_nil, foldT_snoc]
            refine (hTk.put ht3).mono fun q xs w => ?_
            rw [upd_ne (ne_of w hKd fun v => nomatch v)]
            exact w
        · have ek : x'.k = 0 := by
            refine Classical.byContradiction fun z => e ?_
            have : ¬ (V.int x'.k = V.int 0) := fun w => z (V.int.inj w)
            simp [this]
          refine ⟨_, _, rfl, hKd, ?_, hz⟩
          rw [tk, List.filter_append, List.filter_cons, if_neg (by rw [ek]; decide), List.filter_nil, List.append_nil]
          exact hTk
      · rintro σ H10 ⟨x4', kv, rfl, hKd, hTk, hz⟩
        rw [lT, List.take_length, foldT_self (nms_filter hF)] at hTk
        refine ⟨by rw [hz D nKD.symm]; exact hfz2, ?_⟩
        have sE : Same H (upd H10 D (.dK tv)) := fun b o e => by
          have h1 := ne_of_none e nD
          rw [upd_ne h1, hz b (ne_of_none e nK0), hz9 b h1]
          exact s8 _ _ e
        have hKE : (upd H10 D (.dK tv)) Kd = some (.dK kv) := by rw [upd_ne nKD]; exact hKd
        have hTE := hTk.mono (H' := upd H10 D (.dK tv)) fun t xs w => by
          rw [upd_ne (fun z => by rw [z, hz D nKD.symm, hfz2] at w; cases w)]
          exact w
        generalize (upd H10 D (.dK tv)) = HE at sE hKE hTE
        have hs64 : -(2 ^ 64) < s ∧ s < 2 ^ 64 := by omega
        refine ⟨_, rfl, m1, _, 0, _, rfl, rfl, sql_ofT (sE _ _ e1), a10, _, rfl, _, rfl, m2, _, 0, _, rfl, rfl, sql_ofT (sE _ _ e2), a20, _, _, rfl, rfl, .inl hs64, fun r er => ⟨_, _, rfl, rfl, fun r2 er2 => ⟨_, rfl, (by show 2 ≤ sizeLine; decide), fun c nc => ⟨(by show 2 ≤ sizeLine; decide), fun T nT => ?_⟩⟩⟩⟩
        have sc := same_upd (o := .tup [V.int r2, V.ref Kd]) nc
        have sT := same_upd (o := .tup [V.non, V.ref c]) nT
        have hcT := sT _ _ (show (upd HE c (.tup [V.int r2, V.ref Kd])) c = some (.tup [V.int r2, V.ref Kd]) from upd_same)
        refine k hu0 T c _ ((sE.trans sc).trans sT) ((sE.trans sc).free nT) upd_same ?_
        rw [← hkept, ← er, ← er2]
        refine ⟨_, ⟨Kd, _, hcT, rfl, rfl, (fun _ z => nomatch z), ⟨kv, sT _ _ (sc _ _ hKE), hTE.mono fun t xs w => sT _ _ (sc _ _ w)⟩, nms_filter hF, ?_⟩, rfl⟩
        refine Nat.le_trans (List.length_filter_le _ _) ?_
        omega
end
end DO

namespace DO
open PySem PySem.Spec PyProof.Rows L2
section
variable {P : Program} {w : World} {K : PySem.W.Frag} {mg : Str → Option Value} {base : Heap}
/-! ### a multiple, and the greatest value -/
theorem srt_map {g : Tm → Tm} (hg : ∀ x, (g x).nm = x.nm) {M : List Tm} (hn : (nms M).Nodup) : srt (M.map g) = (srt M).map g := by
  have hm : ∀ l : List Tm, nms (l.map g) = nms l := fun l => by
    unfold nms
    rw [List.map_map]
    exact List.map_congr_left fun x _ => hg x
  have hgt : ∀ (l : List Tm) w, getT (l.map g) w = (getT l w).map g := fun l w => by
    unfold getT
    rw [List.find?_map]
    congr 2
    funext x
    show decide ((g x).nm = w) = _
    rw [hg]
  refine up_tm (srt_up (by rw [hm]; exact hn)) (by rw [hm]; exact srt_up hn) fun w => ?_
  rw [get_srt (by rw [hm]; exact hn), hgt, hgt, get_srt hn]
theorem mulT_srt {f : Int} {M : List Tm} (hn : (nms M).Nodup) : srt (mulT f M) = mulT f (srt M) := by
  unfold mulT
  by_cases e : f = 0
  · rw [if_pos e, if_pos e]
    exact srt_self (A := []) List.Pairwise.nil
  · rw [if_neg e, if_neg e]
    exact srt_map (g := fun x => ⟨x.nm, x.k * f, x.lo, x.hi⟩) (fun x => rfl) hn
theorem srt_perm {M : List Tm} (hn : (nms M).Nodup) : (srt M).Perm M := by
  have h : ∀ l : List Tm, (nms l).Nodup → l.Nodup := fun l z => by
    unfold nms at z
    exact (List.pairwise_map.mp z).imp fun {a b} w e => w (congrArg Tm.nm e)
  exact (List.perm_ext_iff_of_nodup (h _ (srt_up hn).nd) (h _ hn)).mpr fun x => mem_srt hn
def farX (s : Int) (x : Tm) : Int := max (s * x.k * x.lo) (s * x.k * x.hi)
def farS (s n : Int) (ts : List Tm) : Int := s * n + (ts.map (farX s)).sum
theorem far_perm {s : Int} {A B : List Tm} (h : A.Perm B) : (A.map (farX s)).sum = (B.map (farX s)).sum := by
  induction h with
  | nil => rfl
  | cons x _ ih => rw [List.map_cons, List.map_cons, List.sum_cons, List.sum_cons, ih]
  | swap x y l =>
    rw [List.map_cons, List.map_cons, List.map_cons, List.map_cons, List.sum_cons, List.sum_cons, List.sum_cons, List.sum_cons]
    omega
  | trans _ _ h1 h2 => exact h1.trans h2
theorem sum_snoc (l : List Int) (x : Int) : (l ++ [x]).sum = l.sum + x := by
  rw [List.sum_append]
  simp
abbrev sSca : Stmt := top 33
theorem scSca : FnScope ["_law_model", "_law_factor", "_law_table", "_law_word_here", "_law_times", "_law_bottom", "_law_top"] ["_law_model", "_law_factor"] (defScope sSca) := ⟨rfl, rfl, rfl, by decide +kernel, rfl, by decide +kernel, by decide +kernel⟩
def spSca : Sp := fun vs H Q _ => ∃ (m : Addr) (n f : Int) (ts : List Tm), vs = [.ref m, .int f] ∧ Mo H m n ts none ∧ Bd 10000 n ts ∧ f.natAbs < 2 ^ 10000 ∧
  (∀ c H', Same H H' → Mo H' c (n * f) (mulT f ts) none → Q (.ref c) H')
theorem ok_sca (D : Df K mg "_law_scaled" sSca ["_law_model", "_law_factor"]) : FnOk P w K mg base CX0 1 D.f D.fd ["_law_model", "_law_factor"] spSca := by
  refine D.fn.ok scSca (fun vs H Q E h => ?_) (fun cdv A outer s0 H vs Q E hr h => ?_)
  · obtain ⟨m, n, f, ts, rfl, _⟩ := h
    rfl
  · obtain ⟨m, n, f, ts, rfl, hm, hb, hf, k⟩ := h
    have hu := hu_of hr
    refine ⟨_, (pss_cons (ps_set (i := 2) scSca.nd rfl (.inl rfl) pe_dnewK)
      (pss_cons (ps_lock (ps_for PassesOwn.never rfl (pi_keys (pe_ix ix_tup (pv 0) pe_int (fun _ _ => rfl))) (pg_name (i := 3) scSca.nd rfl (Or.inl rfl))
      (pss_cons (ps_asg (pe_dget hu (pe_ix ix_tup (pv 0) pe_int (fun _ _ => rfl)) (pv 3) (fun _ _ => rfl)) (pg_tup rfl (pgs_cons (pg_name (i := 4) scSca.nd rfl (Or.inl rfl)) (pgs_cons (pg_name (i := 5) scSca.nd rfl (Or.inl rfl)) (pgs_cons (pg_name (i := 6) scSca.nd rfl (Or.inl rfl)) pgs_nil)))))
      (pss_one (ps_if (pt_cmpR op_ne (pv 1) pe_int (nomark _))
      (pss_one (ps_dput hu (pv 2) (pv 3) (pe_tup (pa_cons (pe_op op_mulWL (pv 4) (pv 1)) (pa_cons (pv 5) (pa_cons (pv 6) pa_nil)))) rfl))
      pss_nil)))))
      (pss_one (ps_ret (pe_tup (pa_cons (pe_op op_mulWL (pe_ix ix_tup (pv 0) pe_int (fun _ _ => rfl)) (pv 1)) (pa_cons (pv 2) pa_nil))))))), ?_⟩
    obtain ⟨M, ⟨d, mx, e, a0, a1, _, ⟨kvs, hd, hA⟩, nd, sz⟩, hs⟩ := id hm
    have hbM : ∀ x ∈ M, x.k.natAbs < 2 ^ 10000 := fun x hx => (hb.2 x (hs ▸ (mem_srt nd).mpr hx)).1
    intro D nD
    have s1 := same_upd (o := .dK []) nD
    have hD0 : (upd H D (.dK [])) D = some (.dK []) := upd_same
    generalize (upd H D (.dK [])) = H1 at s1 hD0
    have ndD : d ≠ D := ne_of_none hd nD
    have mD : m ≠ D := ne_of_none e nD
    have h1d := s1 _ _ hd
    refine ⟨d, .dK kvs, h1d, trivial, fun od => ?_⟩
    have hfz : (upd H1 d (.frz od (.dK kvs))) d = some (.frz od (.dK kvs)) := upd_same
    have hz : ∀ b, b ≠ d → (upd H1 d (.frz od (.dK kvs))) b = H1 b := fun b nb => upd_ne nb
    have hmz : (upd H1 d (.frz od (.dK kvs))) m = some (.tup mx) := by
      rw [hz m (ne_of e hd fun w => nomatch w)]
      exact s1 _ _ e
    have hzD : (upd H1 d (.frz od (.dK kvs))) D = some (.dK []) := by rw [hz D ndD.symm]; exact hD0
    have hAz := hA.mono (H' := upd H1 d (.frz od (.dK kvs))) fun t xs w => by
      rw [hz t (ne_of w hd fun w => nomatch w)]
      exact s1 _ _ w
    have lA := hA.len
    generalize hHz : (upd H1 d (.frz od (.dK kvs))) = Hz at hfz hz hmz hzD hAz
    refine ⟨_, rfl, m, _, 1, _, rfl, rfl, sql_ofT hmz, a1, d, od, rfl, .inl ⟨kvs, hfz, for_it walk_keys (fun i σ H2 => ∃ x3 x4 x5 x6 tv, σ = [some (.ref m), some (.int f), some (.ref D), x3, x4, x5, x6] ∧ H2 D = some (.dK tv) ∧ DAll H2 tv (foldT (mulT f (M.take i))) ∧ ∀ b o, Hz b = some o → b ≠ D → H2 b = some o)
      ⟨none, none, none, none, [], rfl, hzD, by unfold mulT; split <;> exact .nil, fun _ _ e _ => e⟩ (fun i σ H2 _ ⟨_, _, _, _, _, _, _, _, z⟩ => z _ _ hfz ndD) ?_ ?_⟩⟩
    · rintro i y σ H2 H3 hi ⟨x3, x4, x5, x6, tv, rfl, hD, hT, hk⟩ ⟨rfl, kk, vv, hkv, rfl⟩
      obtain ⟨x, t, hx, rfl, rfl, ht⟩ := hAz.at_ hkv
      have hm3 := hk _ _ hmz mD
      have hd3 := hk _ _ hfz ndD
      obtain ⟨e', _⟩ | ⟨x', t', e', gv, ht3⟩ := (hAz.mono (H' := H3) fun t xs z => hk _ _ z (ne_of z hzD fun w => nomatch w)).get x.nm
      · have h6 := getT_mem nd (List.mem_of_getElem? hx)
        rw [e'] at h6
        cases h6
      obtain rfl : x' = x := Option.some.inj (e'.symm.trans (getT_mem nd (List.mem_of_getElem? hx)))
      have gd : DGet H3 d (V.str x'.nm) (some (.ref t')) := by
        rw [← gv]
        exact .inl ⟨_, Sum.inr x'.nm, .inr ⟨od, hd3⟩, rfl, rfl⟩
      have tk : M.take (i + 1) = M.take i ++ [x'] := by rw [List.take_add_one, hx, Option.toList_some]
      refine ⟨_, rfl, m, _, 1, _, rfl, rfl, sql_ofT hm3, a1, _, rfl, d, .ref t', rfl, gd, ?_⟩
      refine ⟨t', _, rfl, sql_ofT ht3, rfl, _, _, rfl, _, _, rfl, _, _, rfl, rfl, ?_⟩
      refine ⟨_, rfl, rfl, _, rfl, ?_⟩
      refine ite2 (fun e => ?_) (fun e => ?_)
      · have ek : f ≠ 0 := fun z => by
          rw [z] at e
          simp at e
        refine ⟨_, rfl, _, rfl, _, _, rfl, rfl, wide_mul (hbM x' (List.mem_of_getElem? hx)) hf (by decide) (by decide) (by decide), fun r er => ⟨_, rfl, _, rfl, (by show 3 ≤ sizeLine; decide), fun T nT => ?_⟩⟩
        have sT := same_upd (o := .tup [V.int r, V.int x'.lo, V.int x'.hi]) nT
        have hDT := sT _ _ hD
        refine ⟨_, rfl, _, rfl, D, _, rfl, DPut.k (k := Sum.inr x'.nm) hDT ?_, _, _, _, _, _, rfl, upd_same, ?_, fun b o eb nb => ?_⟩
        · rw [hT.len]
          refine small1000 (Nat.le_trans (foldT_len _) ?_)
          refine Nat.le_trans (mulT_len _ _) ?_
          rw [List.length_take]
          omega
        · have em : mulT f (M.take (i + 1)) = mulT f (M.take i) ++ [⟨x'.nm, x'.k * f, x'.lo, x'.hi⟩] := by
            unfold mulT
            rw [if_neg ek, if_neg ek, tk, List.map_append]
            rfl
          rw [em, foldT_snoc, ← er]
          refine ((hT.mono (H' := upd H3 T (.tup [V.int r, V.int x'.lo, V.int x'.hi])) fun t xs w => sT _ _ w).put (x := ⟨x'.nm, r, x'.lo, x'.hi⟩) (t := T) upd_same).mono fun q xs w => ?_
          rw [upd_ne (ne_of w hDT fun v => nomatch v)]
          exact w
        · rw [upd_ne nb]
          exact sT _ _ (hk _ _ eb nb)
      · have ek : f = 0 := by
          refine Classical.byContradiction fun z => e ?_
          have : ¬ (V.int f = V.int 0) := fun w => z (V.int.inj w)
          simp [this]
        refine ⟨_, _, _, _, _, rfl, hD, ?_, hk⟩
        unfold mulT at hT ⊢
        rw [if_pos ek] at hT ⊢
        exact hT
    · rintro σ H2 ⟨x3, x4, x5, x6, tv, rfl, hD, hT, hk⟩
      rw [lA, List.take_length] at hT
      refine ⟨hk _ _ hfz ndD, ?_⟩
      have nm : (nms (mulT f M)).Nodup := by
        by_cases e0 : f = 0
        · unfold mulT
          rw [if_pos e0]
          exact List.nodup_nil
        · rw [mulT_nms e0]
          exact nd
      rw [foldT_self nm] at hT
      have sE : Same H (upd H2 d (.dK kvs)) := fun b o eb => by
        by_cases h2 : b = d
        · subst h2
          rw [hd] at eb
          rw [upd_same]
          exact eb
        · rw [upd_ne h2]
          refine hk _ _ ?_ (ne_of_none eb nD)
          rw [← hHz, upd_ne h2]
          exact s1 _ _ eb
      have hKE : (upd H2 d (.dK kvs)) D = some (.dK tv) := by rw [upd_ne ndD.symm]; exact hD
      have hTE := hT.mono (H' := upd H2 d (.dK kvs)) fun t xs w => by
        rw [upd_ne (fun z => by rw [z, hk _ _ hfz ndD] at w; cases w)]
        exact w
      generalize (upd H2 d (.dK kvs)) = HE at sE hKE hTE
      refine ⟨_, rfl, m, _, 0, _, rfl, rfl, sql_ofT (sE _ _ e), a0, _, rfl, _, _, rfl, rfl, wide_mul hb.1 hf (by decide) (by decide) (by decide), fun r er => ⟨_, rfl, (by show 2 ≤ sizeLine; decide), fun c nc => ?_⟩⟩
      have sc := same_upd (o := .tup [V.int r, V.ref D]) nc
      have hcT : (upd HE c (.tup [V.int r, V.ref D])) c = some (.tup [V.int r, V.ref D]) := upd_same
      refine k c _ (sE.trans sc) ?_
      rw [← hs, ← er, ← mulT_srt nd]
      exact ⟨_, ⟨D, _, hcT, rfl, rfl, (fun _ z => nomatch z), ⟨tv, sc _ _ hKE, hTE.mono fun t xs w => sc _ _ w⟩, nm, Nat.le_trans (mulT_len _ _) sz⟩, rfl⟩
abbrev sFar : Stmt := top 34
theorem scFar : FnScope ["_law_model", "_law_sign", "_law_total", "_law_word_here", "_law_times", "_law_bottom", "_law_top"] ["_law_model", "_law_sign"] (defScope sFar) := ⟨rfl, rfl, rfl, by decide +kernel, rfl, by decide +kernel, by decide +kernel⟩
def spFar : Sp := fun vs H Q _ => ∃ (m : Addr) (n s : Int) (ts : List Tm), vs = [.ref m, .int s] ∧ Mo H m n ts none ∧ Bd 10000 n ts ∧ (s = 1 ∨ s = -1) ∧ ∀ H', Same H H' → Q (.int (farS s n ts)) H'
theorem ok_far (D : Df K mg "_law_far" sFar ["_law_model", "_law_sign"]) (mmx : mg "max" = none) (mi : mg "int" = none) : FnOk P w K mg base CX0 1 D.f D.fd ["_law_model", "_law_sign"] spFar := by
  refine D.fn.ok scFar (fun vs H Q E h => ?_) (fun cdv A outer s0 H vs Q E hr h => ?_)
  · obtain ⟨m, n, s, ts, rfl, _⟩ := h
    rfl
  · obtain ⟨m, n, s, ts, rfl, hm, hb, hs1, k⟩ := h
    have hu := hu_of hr
    have hs64 : -(2 ^ 64) < s ∧ s < 2 ^ 64 := by omega
    refine ⟨_, (pss_cons (ps_set (i := 2) scFar.nd rfl (.inl rfl) (pe_op op_mulL (pv 1) (pe_ix ix_tup (pv 0) pe_int (fun _ _ => rfl))))
      (pss_cons (ps_lock (ps_for PassesOwn.never rfl (pi_keys (pe_ix ix_tup (pv 0) pe_int (fun _ _ => rfl))) (pg_name (i := 3) scFar.nd rfl (Or.inl rfl))
      (pss_cons (ps_asg (pe_dget hu (pe_ix ix_tup (pv 0) pe_int (fun _ _ => rfl)) (pv 3) (fun _ _ => rfl)) (pg_tup rfl (pgs_cons (pg_name (i := 4) scFar.nd rfl (Or.inl rfl)) (pgs_cons (pg_name (i := 5) scFar.nd rfl (Or.inl rfl)) (pgs_cons (pg_name (i := 6) scFar.nd rfl (Or.inl rfl)) pgs_nil)))))
      (pss_one (ps_set (i := 2) scFar.nd rfl (.inl rfl) (pe_op op_addL (pv 2) (pe_callB (call_max2L rfl) (by rfl) mmx (by decide +kernel) (pa_cons (pe_callTy call_int1L (by rfl) mi (by decide +kernel) (pa_cons (pe_op op_mulWL (pe_op op_mulL (pv 1) (pv 4)) (pv 5)) pa_nil)) (pa_cons (pe_callTy call_int1L (by rfl) mi (by decide +kernel) (pa_cons (pe_op op_mulWL (pe_op op_mulL (pv 1) (pv 4)) (pv 6)) pa_nil)) pa_nil)))))))))
      (pss_one (ps_ret (pv 2))))), ?_⟩
    obtain ⟨M, ⟨d, mx, e, a0, a1, _, ⟨kvs, hd, hA⟩, nd, sz⟩, hs⟩ := id hm
    have hbM : ∀ x ∈ M, x.k.natAbs < 2 ^ 10000 ∧ x.lo.natAbs < 2 ^ 10000 ∧ x.hi.natAbs < 2 ^ 10000 := fun x hx => hb.2 x (hs ▸ (mem_srt nd).mpr hx)
    refine ⟨_, rfl, _, rfl, m, _, 0, _, rfl, rfl, sql_ofT e, a0, _, _, rfl, rfl, .inl hs64, fun r0 er0 => ?_⟩
    subst er0
    refine ⟨d, .dK kvs, hd, trivial, fun od => ?_⟩
    have hfz : (upd H d (.frz od (.dK kvs))) d = some (.frz od (.dK kvs)) := upd_same
    have hz : ∀ b, b ≠ d → (upd H d (.frz od (.dK kvs))) b = H b := fun b nb => upd_ne nb
    have hmz : (upd H d (.frz od (.dK kvs))) m = some (.tup mx) := by
      rw [hz m (ne_of e hd fun w => nomatch w)]
      exact e
    have hAz := hA.mono (H' := upd H d (.frz od (.dK kvs))) fun t xs w => by
      rw [hz t (ne_of w hd fun w => nomatch w)]
      exact w
    have lA := hA.len
    generalize hHz : (upd H d (.frz od (.dK kvs))) = Hz at hfz hz hmz hAz
    refine ⟨_, rfl, m, _, 1, _, rfl, rfl, sql_ofT hmz, a1, d, od, rfl, .inl ⟨kvs, hfz, for_it walk_keys (fun i σ H2 => ∃ x3 x4 x5 x6, σ = [some (.ref m), some (.int s), some (.int (farS s n (M.take i))), x3, x4, x5, x6] ∧ Hz = H2)
      ⟨none, none, none, none, by unfold farS; simp; rfl, rfl⟩ (fun i σ H2 _ ⟨_, _, _, _, _, z⟩ => by rw [← z]; exact hfz) ?_ ?_⟩⟩
    · rintro i y σ H2 H3 hi ⟨x3, x4, x5, x6, rfl, rfl⟩ ⟨rfl, kk, vv, hkv, rfl⟩
      obtain ⟨x, t, hx, rfl, rfl, ht⟩ := hAz.at_ hkv
      obtain ⟨e', _⟩ | ⟨x', t', e', gv, ht3⟩ := hAz.get x.nm
      · have h6 := getT_mem nd (List.mem_of_getElem? hx)
        rw [e'] at h6
        cases h6
      obtain rfl : x' = x := Option.some.inj (e'.symm.trans (getT_mem nd (List.mem_of_getElem? hx)))
      have gd : DGet H3 d (V.str x'.nm) (some (.ref t')) := by
        rw [← gv]
        exact .inl ⟨_, Sum.inr x'.nm, .inr ⟨od, hfz⟩, rfl, rfl⟩
      have tk : M.take (i + 1) = M.take i ++ [x'] := by rw [List.take_add_one, hx, Option.toList_some]
      obtain ⟨bk, bl, bh⟩ := hbM x' (List.mem_of_getElem? hx)
      have bsk : (s * x'.k).natAbs < 2 ^ 10000 := by
        obtain rfl | rfl := hs1
        · rw [Int.one_mul]
          exact bk
        · rw [Int.neg_mul, Int.one_mul, Int.natAbs_neg]
          exact bk
      refine ⟨_, rfl, m, _, 1, _, rfl, rfl, sql_ofT hmz, a1, _, rfl, d, .ref t', rfl, gd, ?_⟩
      refine ⟨t', _, rfl, sql_ofT ht3, rfl, _, _, rfl, _, _, rfl, _, _, rfl, rfl, ?_⟩
      refine ⟨_, rfl, _, rfl, _, rfl, _, _, rfl, rfl, .inl hs64, fun r1 er1 => ⟨_, rfl, _, _, rfl, rfl, ?_, fun r2 er2 => ⟨_, rfl, ?_⟩⟩⟩
      · subst er1
        exact wide_mul bsk bl (by decide) (by decide) (by decide)
      refine ⟨_, rfl, _, rfl, _, _, rfl, rfl, .inl hs64, fun r3 er3 => ⟨_, rfl, _, _, rfl, rfl, ?_, fun r4 er4 => ⟨_, rfl, _, _, rfl, fun r5 er5 => ⟨_, _, rfl, rfl, fun r6 er6 => ⟨some (.str x'.nm), some (.int x'.k), some (.int x'.lo), some (.int x'.hi), ?_, rfl⟩⟩⟩⟩⟩
      · subst er3
        exact wide_mul bsk bh (by decide) (by decide) (by decide)
      · subst er6 er5 er4 er3 er2 er1
        rw [tk]
        unfold farS
        rw [List.map_append, List.sum_append]
        have : ([x'].map (farX s)).sum = max (s * x'.k * x'.lo) (s * x'.k * x'.hi) := by
          rw [List.map_cons, List.map_nil, List.sum_cons, List.sum_nil, Int.add_zero]
          rfl
        rw [this, ← Int.add_assoc]
        rfl
    · rintro σ H2 ⟨x3, x4, x5, x6, rfl, rfl⟩
      rw [lA, List.take_length]
      refine ⟨hfz, ?_⟩
      have hr2 : (upd Hz d (.dK kvs)) = H := by
        rw [← hHz]
        funext b
        by_cases h2 : b = d
        · subst h2
          rw [upd_same, hd]
        · rw [upd_ne h2, upd_ne h2]
      rw [hr2]
      have eS : farS s n M = farS s n ts := by
        unfold farS
        rw [← hs, far_perm (srt_perm nd)]
      rw [eS]
      exact ⟨_, rfl, k _ fun _ _ e => e⟩
end
end DO

namespace DO
open PySem PySem.Spec PyProof.Rows L2
/-! ### == of two dicts from names to a multiple and ends -/
def eqD (M N : List Tm) : Bool := M.all fun x => decide (getT N x.nm = some x)
def trD (x : Tm) : PyData := .tuple [.int x.k, .int x.lo, .int x.hi]
theorem eqv_tr (x y : Tm) : PyData.eqv (trD x) (trD y) = decide ((x.k, x.lo, x.hi) = (y.k, y.lo, y.hi)) := by
  unfold trD
  rw [PyData.eqv]
  simp [PyData.eqvAll, PyData.eqv, Bool.beq_eq_decide_eq]
section
variable {X : Cx} {pins : List (Addr × Obj)} {σ : L2.St} {H : Hp} {s : Shared}
theorem tr_run (I : Inv X pins σ H s) {A : Around} (hu : A.units + 8 < cLine) {x y : Tm} {t q : Addr} (ht : H t = some (.tup [.int x.k, .int x.lo, .int x.hi])) (hq : H q = some (.tup [.int y.k, .int y.lo, .int y.hi])) :
    SeqAt.EqP X.prog X.w A s (.ref t) (.ref q) (decide ((x.k, x.lo, x.hi) = (y.k, y.lo, y.hi))) := by
  have d1 : Dp X.K H (.ref t) (trD x) := .tup (.inl (.inl ht)) (.cons (.int _) (.cons (.int _) (.cons (.int _) .nil)))
  have d2 : Dp X.K H (.ref q) (trD y) := .tup (.inl (.inl hq)) (.cons (.int _) (.cons (.int _) (.cons (.int _) .nil)))
  obtain ⟨as, r1⟩ := Dp.reads I _ _ (.ref t) d1 rfl
  obtain ⟨bs, r2⟩ := Dp.reads I _ _ (.ref q) d2 rfl
  have e := PySem.W.eqAt_alike _ _ A s _ _ _ _ r1 r2 (by rfl) (by
    have : min (trD x).depth (trD y).depth ≤ 8 := by
      have h1 : (trD x).depth ≤ 8 := by unfold trD; simp [PyData.depth, PyData.depthAll]
      omega
    omega)
  rw [eqv_tr] at e
  exact e.eqP
theorem hits_tr (I : Inv X pins σ H s) {A : Around} (hu : A.units + 8 < cLine) {ls : List (Key × V)} {vb : List (Key × Value)} (rb : KV ls vb) {N : List Tm} (hN : DAll H ls N) {ks : List (Key × V)} {M : List Tm} (hM : DAll H ks M) :
    ∀ {va : List (Key × Value)}, KV ks va → PySem.W.KeqHitsP X.prog X.w A s vb va (eqD M N) := by
  induction hM with
  | nil =>
    intro va ra
    cases ra
    exact .nil
  | @cons kvs0 M0 x t h r ih =>
    intro va ra
    cases ra with
    | cons h1 h2 =>
      rename_i q qs
      obtain ⟨key, v⟩ := q
      obtain ⟨e1, e2⟩ := h1
      cases e1
      cases (show v = Value.ref t from e2)
      have hk := rb.val (Sum.inr x.nm : Key)
      have er : eqD (x :: M0) N = (decide (getT N x.nm = some x) && eqD M0 N) := rfl
      obtain ⟨g1, g2⟩ | ⟨y, q, g1, g2, g3⟩ := hN.get x.nm
      · rw [g2] at hk
        have hm : valueAt vb (Sum.inr x.nm : Key) = none := by
          cases hv : valueAt vb (Sum.inr x.nm : Key) with
          | none => rfl
          | some z => rw [hv] at hk; cases hk
        rw [er, g1, show decide ((none : Option Tm) = some x) = false from rfl, Bool.false_and]
        exact .miss hm
      · rw [g2] at hk
        obtain ⟨z, hz, rz⟩ := hk.some_of
        cases (show z = Value.ref q from rz)
        have ey := getT_nm g1
        have : decide (getT N x.nm = some x) = decide ((x.k, x.lo, x.hi) = (y.k, y.lo, y.hi)) := by
          rw [g1]
          apply decide_eq_decide.mpr
          constructor
          · intro e
            rw [Option.some.inj e]
          · intro e
            obtain ⟨a, b, c, d⟩ := x
            obtain ⟨a', b', c', d'⟩ := y
            simp only [Prod.mk.injEq] at e
            simp only at ey
            obtain ⟨e1, e2, e3⟩ := e
            rw [ey, e1, e2, e3]
        rw [er, this]
        exact .hit hz (tr_run I hu h g3) (ih h2)
def rEqDT : R2 := fun x y H Q => ∃ a b ks ls M N, x = .ref a ∧ y = .ref b ∧ H a = some (.dK ks) ∧ H b = some (.dK ls) ∧ DAll H ks M ∧ DAll H ls N ∧ Q (.bl (decide (M.length = N.length) && eqD M N)) H
theorem op_eqDT (hu : X.A.units + 64 < cLine) : OpR X (compareOp .Eq) rEqDT := by
  intro pins s σ H x y v u Q I rx ry h
  obtain ⟨a, b, ks, ls, M, N, rfl, rfl, ea, eb, hM, hN, q⟩ := h
  obtain rfl : v = Value.ref a := rx
  obtain rfl : u = Value.ref b := ry
  obtain ⟨_, ya, va, ra, da⟩ := (show ObjOk X.prog X.w H s.heap a (.dK ks) from I.hok a _ ea)
  obtain ⟨_, yb, vb, rb, db⟩ := (show ObjOk X.prog X.w H s.heap b (.dK ls) from I.hok b _ eb)
  refine PySem.W.rcP_dicts (knd := mixKind X.prog X.w) (r := eqD M N) ya yb da db (by omega) (fun _ => hits_tr I (by show X.A.units + 1 + 8 < cLine; omega) rb hN hM ra) _ _ ?_
  have e : (va.length == vb.length) = decide (M.length = N.length) := by
    rw [← ra.length, ← rb.length, hM.len, hN.len]
    rfl
  rw [e]
  exact ⟨.bl _, H, I, rfl, q⟩
end
/-- two dicts are equal when the terms in order are -/
theorem perm_of_sub : ∀ {M N : List Tm}, M.Nodup → (∀ x ∈ M, x ∈ N) → N.length ≤ M.length → M.Perm N
  | [], N, _, _, hl => by
    have : N = [] := List.eq_nil_of_length_eq_zero (by simpa using hl)
    rw [this]
  | x :: r, N, hn, hs, hl => by
    obtain ⟨h1, h2⟩ := List.nodup_cons.mp hn
    have hx : x ∈ N := hs x List.mem_cons_self
    have hp := List.perm_cons_erase hx
    refine List.Perm.trans (List.Perm.cons x (perm_of_sub h2 (fun y hy => ?_) ?_)) hp.symm
    · have hne : y ≠ x := fun e => h1 (e ▸ hy)
      exact (List.mem_erase_of_ne hne).mpr (hs y (List.mem_cons_of_mem _ hy))
    · have := hp.length_eq
      rw [List.length_cons] at this hl
      omega
theorem eqD_srt {M N : List Tm} (hM : (nms M).Nodup) (hN : (nms N).Nodup) : (decide (M.length = N.length) && eqD M N) = decide (srt M = srt N) := by
  have nn : ∀ l : List Tm, (nms l).Nodup → l.Nodup := fun l z => by
    unfold nms at z
    exact (List.pairwise_map.mp z).imp fun {a b} w e => w (congrArg Tm.nm e)
  rw [Bool.eq_iff_iff, Bool.and_eq_true, decide_eq_true_eq, decide_eq_true_eq]
  unfold eqD
  rw [List.all_eq_true]
  constructor
  · rintro ⟨hl, ha⟩
    have hp := perm_of_sub (nn M hM) (fun x hx => getT_in (of_decide_eq_true (ha x hx))) (by omega)
    exact srt_congr hM hN fun w => getT_ext hM hN (fun x => hp.mem_iff) w
  · intro e
    have hm : ∀ x, x ∈ M ↔ x ∈ N := fun x => by rw [← mem_srt hM, e, mem_srt hN]
    refine ⟨((List.perm_ext_iff_of_nodup (nn M hM) (nn N hN)).mpr hm).length_eq, fun x hx => decide_eq_true (getT_mem hN ((hm x).mp hx))⟩
end DO

namespace DO
open PySem PySem.Spec PyProof.Rows L2
section
variable {P : Program} {w : World} {K : PySem.W.Frag} {mg : Str → Option Value} {base : Heap}
/-! ### what is due -/
inductive Due where
  | told (b : Bool)
  | form (n : Int) (ts : List Tm)
  | unl (w : Str)
def DueAt (H : Hp) (t : Addr) : Due → Prop
  | .told b => H t = some (.tup [.str "told", .bl b])
  | .form n ts => ∃ c, H t = some (.tup [.str "form", .ref c]) ∧ Mo H c n ts none
  | .unl w => ∃ l q, H t = some (.tup [.str "raised", .ref l]) ∧ H l = some (.lst [.ref q]) ∧ H q = some (.tup [.str "UnlikeEnds", .str w])
def sumDue (sg : Str) (n : Int) (ts : List Tm) : Due :=
  if sg = Str.ofString "<" then .told (decide (farS 1 n ts ≤ 0)) else if sg = Str.ofString ">" then .told (decide (farS (-1) n ts ≤ 0)) else .form n ts
def sgOf (sg : Str) : Int := if sg = Str.ofString "+" then 1 else -1
def dueOf (sg : Str) (n1 : Int) (ts : List Tm) (k1 : Str) (n2 : Int) (us : List Tm) (k2 : Str) : Due :=
  if sg = Str.ofString "=" then .told (decide (n1 = n2) && (decide (ts = us) && decide (k1 = k2)))
  else if sg = Str.ofString "*" then (if k1 = Str.ofString "form" then .form (n1 * n2) (mulT n2 ts) else .form (n2 * n1) (mulT n1 us))
  else if sg = Str.ofString "neg" then .form (n1 * -1) (mulT (-1) ts)
  else match unl ts us with
    | some w => .unl w
    | none => sumDue sg (n1 + sgOf sg * n2) (addS ts (sgn (sgOf sg) us))
theorem bd_sgn {B : Nat} {n : Int} {ts : List Tm} (s : Int) (hs : s = 1 ∨ s = -1) (h : Bd B n ts) : Bd B (s * n) (sgn s ts) := by
  obtain rfl | rfl := hs
  · rw [sgn_one, Int.one_mul]
    exact h
  · rw [sgn_neg, Int.mul_comm]
    exact bd_mul1 h
theorem kD {sg : Str} {c : Str} {p : Prop} (h : decide (V.str sg = V.str c) = true) : sg = c := V.str.inj (of_decide_eq_true h)
theorem kN {sg : Str} {c : Str} (h : ¬ decide (V.str sg = V.str c) = true) : ¬ sg = c := fun e => h (decide_eq_true (congrArg V.str e))
abbrev sDue : Stmt := top 37
theorem scDue : FnScope ["_law_sign", "_law_one_here", "_law_two", "_law_unlike_here", "_law_model"] ["_law_sign", "_law_one_here", "_law_two"] (defScope sDue) := ⟨rfl, rfl, rfl, by decide +kernel, rfl, by decide +kernel, by decide +kernel⟩
def spDue : Sp := fun vs H Q _ => ∃ (sg : Str) (m1 m2 : Addr) (n1 n2 : Int) (ts us : List Tm) (k1 k2 : Str), vs = [.str sg, .ref m1, .ref m2] ∧ Mo H m1 n1 ts (some k1) ∧ Mo H m2 n2 us (some k2) ∧ Bd 9000 n1 ts ∧ Bd 9000 n2 us ∧ ts.length + us.length ≤ 90 ∧
  ∀ t H', Same H H' → DueAt H' t (dueOf sg n1 ts k1 n2 us k2) → Q (.ref t) H'
theorem ok_due (D : Df K mg "_law_due" sDue ["_law_sign", "_law_one_here", "_law_two"]) (DS : Df K mg "_law_scaled" sSca ["_law_model", "_law_factor"]) (GS : FnOk P w K mg base CX0 1 DS.f DS.fd ["_law_model", "_law_factor"] spSca)
    (DF : Df K mg "_law_far" sFar ["_law_model", "_law_sign"]) (GF : FnOk P w K mg base CX0 1 DF.f DF.fd ["_law_model", "_law_sign"] spFar) (DU : Df K mg "_law_sum" sSum ["_law_one_here", "_law_two", "_law_sign"]) (GU : FnOk P w K mg base CX0 1 DU.f DU.fd ["_law_one_here", "_law_two", "_law_sign"] spSum) :
    FnOk P w K mg base CX0 2 D.f D.fd ["_law_sign", "_law_one_here", "_law_two"] spDue := by
  refine D.fn.ok scDue (fun vs H Q E h => ?_) (fun cdv A outer s0 H vs Q E hr h => ?_)
  · obtain ⟨sg, m1, m2, n1, n2, ts, us, k1, k2, rfl, _⟩ := h
    rfl
  · obtain ⟨sg, m1, m2, n1, n2, ts, us, k1, k2, rfl, hm1, hm2, hb1, hb2, hsz, k⟩ := h
    have hu := hu_of hr
    refine ⟨_, (pss_cons (ps_if (pt_cmpR op_eq (pv 0) pe_str (nomark _))
      (pss_one (ps_ret (pe_tup (pa_cons pe_str (pa_cons (pe_and (pe_cmpR op_eq (pe_ix ix_tup (pv 1) pe_int (fun _ _ => rfl)) (pe_ix ix_tup (pv 2) pe_int (fun _ _ => rfl)) (nomark _)) (pe_and (pe_cmpR (op_eqDT hr.units) (pe_ix ix_tup (pv 1) pe_int (fun _ _ => rfl)) (pe_ix ix_tup (pv 2) pe_int (fun _ _ => rfl)) (nomark _)) (pe_one (pe_cmpR op_eq (pe_ix ix_tup (pv 1) pe_int (fun _ _ => rfl)) (pe_ix ix_tup (pv 2) pe_int (fun _ _ => rfl)) (nomark _))))) pa_nil)))))
      pss_nil)
      (pss_cons (ps_if (pt_cmpR op_eq (pv 0) pe_str (nomark _))
      (pss_one (ps_ret (pe_tup (pa_cons pe_str (pa_cons (pe_ifExp (pt_cmpR op_eq (pe_ix ix_tup (pv 1) pe_int (fun _ _ => rfl)) pe_str (nomark _)) (pe_call GS (hr.mono (by decide)) (by rfl) DS.mgf DS.fn.kp DS.bd .nil pass0 (pa_cons (pv 1) (pa_cons (pe_ix ix_tup (pv 2) pe_int (fun _ _ => rfl)) pa_nil))) (pe_call GS (hr.mono (by decide)) (by rfl) DS.mgf DS.fn.kp DS.bd .nil pass0 (pa_cons (pv 2) (pa_cons (pe_ix ix_tup (pv 1) pe_int (fun _ _ => rfl)) pa_nil)))) pa_nil)))))
      pss_nil)
      (pss_cons (ps_if (pt_cmpR op_eq (pv 0) pe_str (nomark _))
      (pss_one (ps_ret (pe_tup (pa_cons pe_str (pa_cons (pe_call GS (hr.mono (by decide)) (by rfl) DS.mgf DS.fn.kp DS.bd .nil pass0 (pa_cons (pv 1) (pa_cons (pe_un un_neg pe_int) pa_nil))) pa_nil)))))
      pss_nil)
      (pss_cons (ps_asg (pe_call GU (hr.mono (by decide)) (by rfl) DU.mgf DU.fn.kp DU.bd .nil pass0 (pa_cons (pv 1) (pa_cons (pv 2) (pa_cons (pe_ifExp (pt_cmpR op_eq (pv 0) pe_str (nomark _)) pe_int (pe_un un_neg pe_int)) pa_nil)))) (pg_tup rfl (pgs_cons (pg_name (i := 3) scDue.nd rfl (Or.inl rfl)) (pgs_cons (pg_name (i := 4) scDue.nd rfl (Or.inl rfl)) pgs_nil))))
      (pss_cons (ps_if (pt_cmp (pc_notN (pv 3)))
      (pss_one (ps_ret (pe_tup (pa_cons pe_str (pa_cons (pe_lst (pa_cons (pe_tup (pa_cons pe_str (pa_cons (pv 3) pa_nil))) pa_nil)) pa_nil)))))
      pss_nil)
      (pss_cons (ps_if (pt_cmpR op_eq (pv 0) pe_str (nomark _))
      (pss_one (ps_ret (pe_tup (pa_cons pe_str (pa_cons (pe_cmpR op_le (pe_call GF (hr.mono (by decide)) (by rfl) DF.mgf DF.fn.kp DF.bd .nil pass0 (pa_cons (pv 4) (pa_cons pe_int pa_nil))) pe_int (nomark _)) pa_nil)))))
      pss_nil)
      (pss_cons (ps_if (pt_cmpR op_eq (pv 0) pe_str (nomark _))
      (pss_one (ps_ret (pe_tup (pa_cons pe_str (pa_cons (pe_cmpR op_le (pe_call GF (hr.mono (by decide)) (by rfl) DF.mgf DF.fn.kp DF.bd .nil pass0 (pa_cons (pv 4) (pa_cons (pe_un un_neg pe_int) pa_nil))) pe_int (nomark _)) pa_nil)))))
      pss_nil)
      (pss_one (ps_ret (pe_tup (pa_cons pe_str (pa_cons (pv 4) pa_nil)))))))))))), ?_⟩
    obtain ⟨M, ⟨d1, x1, e1, a10, a11, a12, ⟨kv1, hd1, hA1⟩, nd1, sz1⟩, hs1⟩ := id hm1
    obtain ⟨N, ⟨d2, x2, e2, a20, a21, a22, ⟨kv2, hd2, hA2⟩, nd2, sz2⟩, hs2⟩ := id hm2
    refine ⟨_, rfl, rfl, _, rfl, ?_⟩
    refine ite2 (fun e => ?_) (fun e => ?_)
    · have es := kD (c := "=") (p := True) e
      have ed : dueOf sg n1 ts k1 n2 us k2 = .told (decide (n1 = n2) && (decide (ts = us) && decide (k1 = k2))) := by
        unfold dueOf
        rw [if_pos es]
      rw [ed] at k
      have fin : ∀ b : Bool, b = (decide (n1 = n2) && (decide (ts = us) && decide (k1 = k2))) → 2 ≤ sizeLine ∧ ∀ t, H t = none → Q (.ref t) (upd H t (.tup [.str "told", .bl b])) := fun b eb => by
        subst eb
        exact ⟨by decide, fun t nt => k t _ (same_upd nt) upd_same⟩
      refine ⟨_, rfl, m1, _, 0, _, rfl, rfl, sql_ofT e1, a10, _, rfl, m2, _, 0, _, rfl, rfl, sql_ofT e2, a20, rfl, ?_⟩
      refine ⟨_, rfl, ?_⟩
      refine ite2 (fun c1 => ?_) (fun c1 => ?_)
      · have q1 : n1 = n2 := V.int.inj (of_decide_eq_true c1)
        refine ⟨_, rfl, m1, _, 1, _, rfl, rfl, sql_ofT e1, a11, _, rfl, m2, _, 1, _, rfl, rfl, sql_ofT e2, a21, d1, d2, _, _, M, N, rfl, rfl, hd1, hd2, hA1, hA2, ?_⟩
        rw [eqD_srt nd1 nd2, hs1, hs2]
        refine ⟨_, rfl, ?_⟩
        refine ite2 (fun c2 => ?_) (fun c2 => ?_)
        · have q2 : ts = us := of_decide_eq_true c2
          refine ⟨_, rfl, m1, _, 2, _, rfl, rfl, sql_ofT e1, a12 _ rfl, _, rfl, m2, _, 2, _, rfl, rfl, sql_ofT e2, a22 _ rfl, rfl, fin _ ?_⟩
          rw [decide_eq_true q1, decide_eq_true q2, Bool.true_and, Bool.true_and]
          exact decide_eq_decide.mpr ⟨fun z => V.str.inj z, fun z => congrArg V.str z⟩
        · refine fin _ ?_
          rw [decide_eq_true q1, Bool.true_and, decide_eq_false (fun z => c2 (decide_eq_true z)), Bool.false_and]
      · refine fin _ ?_
        rw [decide_eq_false (fun z => c1 (decide_eq_true (congrArg V.int z))), Bool.false_and]
    have es := kN e
    refine ⟨_, rfl, rfl, _, rfl, ?_⟩
    refine ite2 (fun e' => ?_) (fun e' => ?_)
    · have es2 := kD (c := "*") (p := True) e'
      have ed : dueOf sg n1 ts k1 n2 us k2 = (if k1 = Str.ofString "form" then .form (n1 * n2) (mulT n2 ts) else .form (n2 * n1) (mulT n1 us)) := by
        unfold dueOf
        rw [if_neg es, if_pos es2]
      rw [ed] at k
      refine ⟨_, rfl, m1, _, 2, _, rfl, rfl, sql_ofT e1, a12 _ rfl, rfl, _, rfl, ?_⟩
      refine ite2 (fun c1 => ?_) (fun c1 => ?_)
      · rw [if_pos (kD (c := "form") (p := True) c1)] at k
        refine ⟨_, rfl, _, rfl, m2, _, 0, _, rfl, rfl, sql_ofT e2, a20, m1, n1, n2, ts, rfl, hm1.any, hb1.mono (by decide), Nat.lt_of_lt_of_le hb2.1 (Nat.pow_le_pow_right (by decide) (by decide)), fun c H' sm hc => ⟨(by show 2 ≤ sizeLine; decide), fun t nt => ?_⟩⟩
        exact k t _ (sm.trans (same_upd nt)) ⟨c, upd_same, hc.keep (same_upd nt)⟩
      · rw [if_neg (kN c1)] at k
        refine ⟨_, rfl, _, rfl, m1, _, 0, _, rfl, rfl, sql_ofT e1, a10, m2, n2, n1, us, rfl, hm2.any, hb2.mono (by decide), Nat.lt_of_lt_of_le hb1.1 (Nat.pow_le_pow_right (by decide) (by decide)), fun c H' sm hc => ⟨(by show 2 ≤ sizeLine; decide), fun t nt => ?_⟩⟩
        exact k t _ (sm.trans (same_upd nt)) ⟨c, upd_same, hc.keep (same_upd nt)⟩
    have es2 := kN e'
    refine ⟨_, rfl, rfl, _, rfl, ?_⟩
    refine ite2 (fun e3 => ?_) (fun e3 => ?_)
    · have es3 := kD (c := "neg") (p := True) e3
      have ed : dueOf sg n1 ts k1 n2 us k2 = .form (n1 * -1) (mulT (-1) ts) := by
        unfold dueOf
        rw [if_neg es, if_neg es2, if_pos es3]
      rw [ed] at k
      refine ⟨_, rfl, _, rfl, m1, n1, -1, ts, rfl, hm1.any, hb1.mono (by decide), (by decide +kernel), fun c H' sm hc => ⟨(by show 2 ≤ sizeLine; decide), fun t nt => ?_⟩⟩
      exact k t _ (sm.trans (same_upd nt)) ⟨c, upd_same, hc.keep (same_upd nt)⟩
    have es3 := kN e3
    have hsg : sgOf sg = 1 ∨ sgOf sg = -1 := by
      unfold sgOf
      split
      · exact .inl rfl
      · exact .inr rfl
    have ed : dueOf sg n1 ts k1 n2 us k2 = (match unl ts us with
        | some w => .unl w
        | none => sumDue sg (n1 + sgOf sg * n2) (addS ts (sgn (sgOf sg) us))) := by
      unfold dueOf
      rw [if_neg es, if_neg es2, if_neg es3]
    rw [ed] at k
    refine ⟨_, rfl, _, rfl, _, rfl, rfl, _, rfl, ?_⟩
    refine ite2 (fun c0 => ?_) (fun c0 => ?_)
    · have q0 := kD (c := "+") (p := True) c0
      have hsv : sgOf sg = (1) := by unfold sgOf; rw [if_pos q0]
      have bdm : Bd 10000 (n1 + (1) * n2) (addS ts (sgn (1) us)) := (bd_add (hs1 ▸ (srt_up nd1).nd) (by rw [sgn_nms]; exact hs2 ▸ (srt_up nd2).nd) hb1 (bd_sgn (1) (.inl rfl) hb2)).mono (by decide)
      rw [hsv] at k
      refine ⟨m1, m2, n1, n2, (1), ts, us, rfl, hm1.any, hm2.any, .inl rfl, hsz, fun w hw T H' sm nT hT => ?_, fun hn T c H' sm nT hT hc => ?_⟩
      · rw [hw] at k
        refine ⟨T, _, rfl, sql_ofT hT, rfl, _, _, rfl, _, _, rfl, rfl, ?_⟩
        refine ⟨_, rfl, _, rfl, ?_⟩
        refine iteT' rfl ?_
        refine ⟨_, rfl, (by show 2 ≤ sizeLine; decide), fun q nq => ⟨(by show 1 ≤ sizeLine; decide), fun l nl => ⟨(by show 2 ≤ sizeLine; decide), fun t nt => ?_⟩⟩⟩
        have a1 := same_upd (o := .tup [V.str "UnlikeEnds", V.str w]) nq
        have a2 := same_upd (o := .lst [V.ref q]) nl
        have a3 := same_upd (o := .tup [V.str "raised", V.ref l]) nt
        exact k t _ (((sm.trans a1).trans a2).trans a3) ⟨l, q, upd_same, a3 _ _ upd_same, a3 _ _ (a2 _ _ upd_same)⟩
      · rw [hn] at k
        refine ⟨T, _, rfl, sql_ofT hT, rfl, _, _, rfl, _, _, rfl, rfl, ?_⟩
        refine ⟨_, rfl, _, rfl, ?_⟩
        refine iteF' rfl ?_
        refine ⟨_, rfl, rfl, _, rfl, ?_⟩
        refine ite2 (fun c1 => ?_) (fun c1 => ?_)
        · have e5 : sumDue sg (n1 + (1) * n2) (addS ts (sgn (1) us)) = .told (decide (farS 1 (n1 + (1) * n2) (addS ts (sgn (1) us)) ≤ 0)) := by
            unfold sumDue
            rw [if_pos (kD (c := "<") (p := True) c1)]
          refine ⟨_, rfl, c, _, 1, _, rfl, hc, bdm, .inl rfl, fun H2 s2 => ⟨_, _, rfl, rfl, (by show 2 ≤ sizeLine; decide), fun t nt => k t _ ((sm.trans s2).trans (same_upd nt)) ?_⟩⟩
          show DueAt _ t (sumDue _ _ _)
          rw [e5]
          exact upd_same
        have c1' := kN c1
        refine ⟨_, rfl, rfl, _, rfl, ?_⟩
        refine ite2 (fun c2 => ?_) (fun c2 => ?_)
        · have e5 : sumDue sg (n1 + (1) * n2) (addS ts (sgn (1) us)) = .told (decide (farS (-1) (n1 + (1) * n2) (addS ts (sgn (1) us)) ≤ 0)) := by
            unfold sumDue
            rw [if_neg c1', if_pos (kD (c := ">") (p := True) c2)]
          refine ⟨_, rfl, _, rfl, c, _, -1, _, rfl, hc, bdm, .inr rfl, fun H2 s2 => ⟨_, _, rfl, rfl, (by show 2 ≤ sizeLine; decide), fun t nt => k t _ ((sm.trans s2).trans (same_upd nt)) ?_⟩⟩
          show DueAt _ t (sumDue _ _ _)
          rw [e5]
          exact upd_same
        have c2' := kN c2
        refine ⟨_, rfl, (by show 2 ≤ sizeLine; decide), fun t nt => k t _ (sm.trans (same_upd nt)) ?_⟩
        have e5 : sumDue sg (n1 + (1) * n2) (addS ts (sgn (1) us)) = .form (n1 + (1) * n2) (addS ts (sgn (1) us)) := by
          unfold sumDue
          rw [if_neg c1', if_neg c2']
        show DueAt _ t (sumDue _ _ _)
        rw [e5]
        exact ⟨c, upd_same, hc.keep (same_upd nt)⟩
    · have q0 := kN c0
      have hsv : sgOf sg = (-1) := by unfold sgOf; rw [if_neg q0]
      have bdm : Bd 10000 (n1 + (-1) * n2) (addS ts (sgn (-1) us)) := (bd_add (hs1 ▸ (srt_up nd1).nd) (by rw [sgn_nms]; exact hs2 ▸ (srt_up nd2).nd) hb1 (bd_sgn (-1) (.inr rfl) hb2)).mono (by decide)
      rw [hsv] at k
      refine ⟨_, rfl, m1, m2, n1, n2, (-1), ts, us, rfl, hm1.any, hm2.any, .inr rfl, hsz, fun w hw T H' sm nT hT => ?_, fun hn T c H' sm nT hT hc => ?_⟩
      · rw [hw] at k
        refine ⟨T, _, rfl, sql_ofT hT, rfl, _, _, rfl, _, _, rfl, rfl, ?_⟩
        refine ⟨_, rfl, _, rfl, ?_⟩
        refine iteT' rfl ?_
        refine ⟨_, rfl, (by show 2 ≤ sizeLine; decide), fun q nq => ⟨(by show 1 ≤ sizeLine; decide), fun l nl => ⟨(by show 2 ≤ sizeLine; decide), fun t nt => ?_⟩⟩⟩
        have a1 := same_upd (o := .tup [V.str "UnlikeEnds", V.str w]) nq
        have a2 := same_upd (o := .lst [V.ref q]) nl
        have a3 := same_upd (o := .tup [V.str "raised", V.ref l]) nt
        exact k t _ (((sm.trans a1).trans a2).trans a3) ⟨l, q, upd_same, a3 _ _ upd_same, a3 _ _ (a2 _ _ upd_same)⟩
      · rw [hn] at k
        refine ⟨T, _, rfl, sql_ofT hT, rfl, _, _, rfl, _, _, rfl, rfl, ?_⟩
        refine ⟨_, rfl, _, rfl, ?_⟩
        refine iteF' rfl ?_
        refine ⟨_, rfl, rfl, _, rfl, ?_⟩
        refine ite2 (fun c1 => ?_) (fun c1 => ?_)
        · have e5 : sumDue sg (n1 + (-1) * n2) (addS ts (sgn (-1) us)) = .told (decide (farS 1 (n1 + (-1) * n2) (addS ts (sgn (-1) us)) ≤ 0)) := by
            unfold sumDue
            rw [if_pos (kD (c := "<") (p := True) c1)]
          refine ⟨_, rfl, c, _, 1, _, rfl, hc, bdm, .inl rfl, fun H2 s2 => ⟨_, _, rfl, rfl, (by show 2 ≤ sizeLine; decide), fun t nt => k t _ ((sm.trans s2).trans (same_upd nt)) ?_⟩⟩
          show DueAt _ t (sumDue _ _ _)
          rw [e5]
          exact upd_same
        have c1' := kN c1
        refine ⟨_, rfl, rfl, _, rfl, ?_⟩
        refine ite2 (fun c2 => ?_) (fun c2 => ?_)
        · have e5 : sumDue sg (n1 + (-1) * n2) (addS ts (sgn (-1) us)) = .told (decide (farS (-1) (n1 + (-1) * n2) (addS ts (sgn (-1) us)) ≤ 0)) := by
            unfold sumDue
            rw [if_neg c1', if_pos (kD (c := ">") (p := True) c2)]
          refine ⟨_, rfl, _, rfl, c, _, -1, _, rfl, hc, bdm, .inr rfl, fun H2 s2 => ⟨_, _, rfl, rfl, (by show 2 ≤ sizeLine; decide), fun t nt => k t _ ((sm.trans s2).trans (same_upd nt)) ?_⟩⟩
          show DueAt _ t (sumDue _ _ _)
          rw [e5]
          exact upd_same
        have c2' := kN c2
        refine ⟨_, rfl, (by show 2 ≤ sizeLine; decide), fun t nt => k t _ (sm.trans (same_upd nt)) ?_⟩
        have e5 : sumDue sg (n1 + (-1) * n2) (addS ts (sgn (-1) us)) = .form (n1 + (-1) * n2) (addS ts (sgn (-1) us)) := by
          unfold sumDue
          rw [if_neg c1', if_neg c2']
        show DueAt _ t (sumDue _ _ _)
        rw [e5]
        exact ⟨c, upd_same, hc.keep (same_upd nt)⟩
end
end DO

namespace DO
open PySem PySem.Spec PyProof.Rows L2
section
variable {X : Cx} {CX : CXT} {k : Nat} {C f : Addr} {fd : FuncData} {ps : List Str} {sp : Sp} {E : XK}
/-- -o -/
def rUnO (C : Addr) (sp : Sp) (E : XK) : V → Hp → VK → Prop := fun x H Q => ∃ a dx fs, x = .ref a ∧ H a = some (.ins C dx fs) ∧ sp [x] H Q E
theorem un_own (M : Meth X.K C "__neg__" f) (F : FnOk X.prog X.w X.K X.mg X.base CX k f fd ps sp) (hr : Room k X.A) (hb : Binds X.K fd ps []) (hx : Passes CX X E) : UnR X (unaryOp .USub) (rUnO C sp E) := by
  intro pins s σ H x v Q I rx h
  obtain ⟨a, dx, fs, rfl, ha, q⟩ := h
  obtain rfl : v = Value.ref a := rx
  obtain ⟨ox, od, J⟩ := inst_of I ha
  obtain ⟨m, hF⟩ := I.fr
  have b := run_fn (vs := [.ref a]) (us := [.ref a]) F hr hb .nil hx I (.cons rfl .nil) (by simpa using q)
  exact PySem.W.ksp_neg hF I.ok.mod.kin J M.at_ M.fn b
/-- o.m(e, ..), what it raises hanging on the slots -/
theorem pe_methE {pl : Sem Bool} {E : L2.St → XK} {m : Str} {e o : Expr} {es : List Expr} {ta : TE} {t : TA} {apos pos : Pos} (he : PE X o ta) (c : Cls X.K C) (hm : Meth X.K C m f) (F : FnOk X.prog X.w X.K X.mg X.base CX k f fd ps sp) (hr : Room k X.A) (hb : Binds X.K fd ps [])
    (hx : ∀ σ, PassesAt CX X σ (E σ)) (ha : PA X (e :: es) t) (hst : starEach (e :: es) X.env = (false, eval e X.env) :: starEach es X.env := by rfl) (hpl : (backTo pos (starEach es X.env)).any (·.1) = false := by rfl)
    (ht : eval (.Call (.Attribute o m apos) (e :: es) [] pos) X.env = (do
      let ov ← eval o X.env
      standAt apos.atName
      let (f, first) ← holding [ov] (getMethod ov m pl)
      callWith pos f first (backTo pos (starEach (e :: es) X.env)) (backToKw pos (keywordEach [] X.env))) := by rfl) :
    PE X (.Call (.Attribute o m apos) (e :: es) [] pos) (L2H.tMethH C m sp E ta t) := by
  refine ⟨fun pins s σ H Q I h => ?_⟩
  refine PySem.W.methodCall_KW (pl := pl) (wpAny_mono (he.run pins s σ H _ I h) (fun u s1 z => ?_) fun _ _ z => z) ht
  obtain ⟨x, H1, I1, rx, a, dx, fs, ex, ea, l, q⟩ := z
  subst ex
  obtain rfl : u = Value.ref a := rx
  refine getmeth_ok I1 ea c hm l ?_
  refine PySem.W.callWith_K (first := [.ref a]) (h₀ := X.base) I.ok.mod.kin hm.kp (wpAny_mono (ha.run pos pins s1 σ H1 _ I1 q) (fun us s2 z => ?_) fun _ _ z => z) hst hpl
  obtain ⟨vs, H2, I2, r, q2⟩ := z
  exact ⟨I2.kIn, run_fnS (us := .ref a :: us) (vs := .ref a :: vs) F hr hb (hx σ) I2 (.cons rfl r) q2⟩
end
/-! ### terms in order, none of them 0 -/
structure Gd (ts : List Tm) : Prop where
  up : Up (nms ts)
  nz : ∀ x ∈ ts, x.k ≠ 0
  eo : ∀ x ∈ ts, x.lo ≤ x.hi
  ok : NmsOk ts
  sz : ts.length ≤ 45
theorem Gd.ts {ts : List Tm} (g : Gd ts) : TsOk ts := ⟨g.up.nd, g.ok, Nat.le_trans g.sz (by decide)⟩
theorem Gd.nil : Gd [] := ⟨List.Pairwise.nil, fun _ h => (by simp at h), fun _ h => (by simp at h), fun _ h => (by simp at h), by decide⟩
theorem Gd.get {ts : List Tm} (g : Gd ts) (w : Str) : (getT ts w).filter (fun x => decide (x.k ≠ 0)) = getT ts w := by
  cases e : getT ts w with
  | none => rfl
  | some x => simp [Option.filter, g.nz x (getT_in e)]
theorem addS_nil {ts : List Tm} (g : Gd ts) : addS ts [] = ts := up_tm addS_up g.up fun w => by
  rw [addS_get g.up.nd (show (nms []).Nodup from List.nodup_nil)]
  exact g.get w
theorem nil_addS {ts : List Tm} (g : Gd ts) : addS [] ts = ts := up_tm addS_up g.up fun w => by
  rw [addS_get (show (nms []).Nodup from List.nodup_nil) g.up.nd]
  have z := g.get w
  cases h : getT ts w with
  | none => rfl
  | some u =>
    rw [h] at z
    have hn := getT_nm h
    have e : Tm.mk w (0 + u.k) u.lo u.hi = u := by rw [Int.zero_add, ← hn]
    show Option.filter _ (some (Tm.mk w (0 + u.k) u.lo u.hi)) = some u
    rw [e]
    exact z
theorem mulT_mem {t : Int} {ts : List Tm} {x : Tm} (h : x ∈ mulT t ts) : t ≠ 0 ∧ ∃ y ∈ ts, x = ⟨y.nm, y.k * t, y.lo, y.hi⟩ := by
  unfold mulT at h
  split at h
  · simp at h
  · rename_i h0
    obtain ⟨y, hy, rfl⟩ := List.mem_map.mp h
    exact ⟨h0, y, hy, rfl⟩
theorem Gd.mul {t : Int} {ts : List Tm} (g : Gd ts) : Gd (mulT t ts) := by
  refine ⟨?_, fun x hx => ?_, fun x hx => ?_, (mulT_ok g.ts).ok, Nat.le_trans (mulT_len t ts) g.sz⟩
  · by_cases h : t = 0
    · unfold mulT
      rw [if_pos h]
      exact List.Pairwise.nil
    · rw [mulT_nms h]
      exact g.up
  · obtain ⟨h0, y, hy, rfl⟩ := mulT_mem hx
    exact Int.mul_ne_zero (g.nz y hy) h0
  · obtain ⟨_, y, hy, rfl⟩ := mulT_mem hx
    exact g.eo y hy
theorem Gd.add {ts us : List Tm} (g : Gd ts) (h : Gd us) (hl : ts.length + us.length ≤ 45) : Gd (addS ts us) := by
  refine ⟨addS_up, fun x hx => (addS_mem g.up.nd h.up.nd hx).1, fun x hx => ?_, fun x hx => ?_, Nat.le_trans (addS_len ts us) hl⟩
  · obtain ⟨_, ⟨h1, _⟩ | ⟨u, hu, _, e1, e2, _⟩⟩ := addS_mem g.up.nd h.up.nd hx
    · exact g.eo x h1
    · rw [e1, e2]
      exact h.eo u hu
  · obtain ⟨_, ⟨h1, _⟩ | ⟨u, hu, e0, e1, e2, _⟩⟩ := addS_mem g.up.nd h.up.nd hx
    · exact g.ok x h1
    · rw [← e0]
      exact h.ok u hu
theorem farX_max {x : Tm} (h : x.lo ≤ x.hi) : farX 1 x = mxT x := by
  unfold farX mxT
  rw [Int.one_mul]
  split
  · rename_i hk
    exact Int.max_eq_right (Int.mul_le_mul_of_nonneg_left h (by omega))
  · rename_i hk
    exact Int.max_eq_left (Int.mul_le_mul_of_nonpos_left (by omega) h)
theorem farX_min {x : Tm} (h : x.lo ≤ x.hi) : farX (-1) x = - mnT x := by
  unfold farX mnT
  rw [Int.neg_mul, Int.one_mul, Int.neg_mul, Int.neg_mul]
  split
  · rename_i hk
    have := Int.mul_le_mul_of_nonneg_left h (show 0 ≤ x.k by omega)
    omega
  · rename_i hk
    have := Int.mul_le_mul_of_nonpos_left (show x.k ≤ 0 by omega) h
    omega
theorem far_max {n : Int} {ts : List Tm} (g : Gd ts) : farS 1 n ts = n + (ts.map mxT).sum := by
  unfold farS
  rw [Int.one_mul, List.map_congr_left fun x hx => farX_max (g.eo x hx)]
theorem sum_neg {f : Tm → Int} : ∀ ts : List Tm, (ts.map fun x => - f x).sum = - (ts.map f).sum
  | [] => rfl
  | x :: r => by
    rw [List.map_cons, List.map_cons, List.sum_cons, List.sum_cons, sum_neg r]
    omega
theorem far_min {n : Int} {ts : List Tm} (g : Gd ts) : farS (-1) n ts = - (n + (ts.map mnT).sum) := by
  unfold farS
  rw [List.map_congr_left fun x hx => farX_min (g.eo x hx), sum_neg]
  omega
theorem far_neg {s n : Int} {ts : List Tm} : farS s n (mulT (-1) ts) = farS (-s) (-n) ts := by
  unfold farS mulT
  rw [if_neg (by decide), List.map_map]
  have : (farX s ∘ fun x : Tm => (⟨x.nm, x.k * -1, x.lo, x.hi⟩ : Tm)) = farX (-s) := by
    funext x
    show max (s * (x.k * -1) * x.lo) (s * (x.k * -1) * x.hi) = max (-s * x.k * x.lo) (-s * x.k * x.hi)
    have e : s * (x.k * -1) = -s * x.k := by
      rw [Int.mul_neg, Int.mul_one, Int.mul_neg, Int.neg_mul]
    rw [e]
  rw [this, Int.neg_mul_neg]
end DO

namespace DO
open PySem PySem.Spec PyProof.Rows L2
section
variable {P : Program} {w : World} {K : PySem.W.Frag} {mg : Str → Option Value} {base : Heap}
/-! ### what is tried -/
structure FoK (P : Program) (w : World) (K : PySem.W.Frag) (mg : Str → Option Value) (base : Heap) (C CU CN : Addr) where
  T : Frm K mg C
  TA : FrmA K
  TM : FrmM K C
  MA : Mf K C "__add__" "Form.__add__" sAdd ["self", "other"]
  GA : FnOk P w K mg base (L2N.CX P w) 5 MA.f MA.fd ["self", "other"] (spAdd K C CU)
  MRA : Mf K C "__radd__" "Form.__radd__" sRadd ["self", "other"]
  GRA : FnOk P w K mg base (L2N.CX P w) 6 MRA.f MRA.fd ["self", "other"] (spAddI C)
  MS : Mf K C "__sub__" "Form.__sub__" sSub ["self", "other"]
  GS : FnOk P w K mg base (L2N.CX P w) 6 MS.f MS.fd ["self", "other"] (spSub C CU)
  MRS : Mf K C "__rsub__" "Form.__rsub__" sRsub ["self", "other"]
  GRS : FnOk P w K mg base (L2N.CX P w) 6 MRS.f MRS.fd ["self", "other"] (spRsub C)
  MM : Mf K C "__mul__" "Form.__mul__" sMul ["self", "other"]
  GM : FnOk P w K mg base CX0 4 MM.f MM.fd ["self", "other"] (spMul C)
  MR : Mf K C "__rmul__" "Form.__rmul__" sRmu ["self", "other"]
  GR : FnOk P w K mg base CX0 5 MR.f MR.fd ["self", "other"] (spMul C)
  MN : Mf K C "__neg__" "Form.__neg__" sNeg ["self"]
  GN : FnOk P w K mg base CX0 5 MN.f MN.fd ["self"] (spNeg C)
  ME : Mf K C "__eq__" "Form.__eq__" sEq ["self", "other"]
  GE : FnOk P w K mg base CX0 1 ME.f ME.fd ["self", "other"] (spEqF C)
  ML : Mf K C "__le__" "Form.__le__" sLe ["self", "other"]
  GL : FnOk P w K mg base (L2N.CX P w) 7 ML.f ML.fd ["self", "other"] (spLe C CU)
  MG : Mf K C "__ge__" "Form.__ge__" sGe ["self", "other"]
  GG : FnOk P w K mg base (L2N.CX P w) 7 MG.f MG.fd ["self", "other"] (spGe C CU)
  MV : Mf K C "value" "Form.value" sVal ["self", "values"]
  GV : FnOk P w K mg base (L2N.CX P w) 4 MV.f MV.fd ["self", "values"] (spVal C CN)
structure RaiG (mg : Str → Option Value) (C0 C1 C2 C3 C4 : Addr) : Prop where
  g0 : mg "BadName" = some (.ref C0)
  g1 : mg "BadEnds" = some (.ref C1)
  g2 : mg "UnknownName" = some (.ref C2)
  g3 : mg "UnlikeEnds" = some (.ref C3)
  g4 : mg "BadTold" = some (.ref C4)
  mis : mg "isinstance" = none
  mve : mg "ValueError" = none
structure RaiC (K : PySem.W.Frag) (D C0 C1 C2 C3 C4 : Addr) (b0 b1 b2 b3 b4 : Bool) : Prop where
  ec : ExD K D
  no : ∀ f ∈ (["name", "low", "high"] : List Str), PySem.W.findIn K (.ref D) f = some none
  k0 : PySem.W.kitOne K (.ref D) (.ref C0) = some b0
  k1 : PySem.W.kitOne K (.ref D) (.ref C1) = some b1
  k2 : PySem.W.kitOne K (.ref D) (.ref C2) = some b2
  k3 : PySem.W.kitOne K (.ref D) (.ref C3) = some b3
  k4 : PySem.W.kitOne K (.ref D) (.ref C4) = some b4
  kv : PySem.W.kitOne K (.ref D) (.type "ValueError") = some true
def spRaiZ (CU CN a : Addr) (cls : Value) (d : Option Addr) : Sp := fun vs H Q E => ∃ (d' : Addr) (y : V), d = some d' ∧ ((cls = .ref CU ∧ spRai a d' [("name", y)] [.str "UnlikeEnds", y] vs H Q E) ∨ (cls = .ref CN ∧ spRai a d' [("name", y)] [.str "UnknownName", y] vs H Q E))
theorem fnH_raiZ {a C0 C1 C2 C3 C4 f : Addr} {fd : FuncData} {oe : Obj} {cls : Value} {d : Option Addr} (F : Fun K "_law_raised" "_law_raised" sRai f fd) (G : RaiG mg C0 C1 C2 C3 C4) (RU : RaiC K C3 C0 C1 C2 C3 C4 false false false true false) (RN : RaiC K C2 C0 C1 C2 C3 C4 false false true false false)
    (hz : L2N.Zn cls d oe) (hf : ∃ vs, oe.data = .fields vs) (base' : Heap) (hb : base'.get? a = some oe) : L2H.FnH P w K mg base' CX0 1 f fd ["_law_e"] (spRaiZ C3 C2 a cls d) := by
  refine ⟨fun vs H Q E h => ?_, fun A outer s H args us vs Q E p hr hot hp e0 hbd r h => ?_⟩
  · obtain ⟨d', y, rfl, ⟨_, h⟩ | ⟨_, h⟩⟩ := h
    · rw [h.1]
      rfl
    · rw [h.1]
      rfl
  · obtain ⟨d', y, rfl, ⟨rfl, h⟩ | ⟨rfl, h⟩⟩ := h
    · exact (ok_raiUL F RU.ec hb hz.zc hf RU.no G.g0 G.g1 G.g2 G.g3 G.g4 RU.k0 RU.k1 RU.k2 RU.k3 RU.k4 RU.kv G.mis G.mve).run A outer s H args us vs Q E p hr hot hp e0 hbd r h
    · exact (ok_raiUN F RN.ec hb hz.zc hf RN.no G.g0 G.g1 G.g2 G.g3 G.g4 RN.k0 RN.k1 RN.k2 RN.k3 RN.k4 RN.kv G.mis G.mve).run A outer s H args us vs Q E p hr hot hp e0 hbd r h
theorem takes0N {X : Cx} : L2N.Takes X (fun _ _ _ _ => False) := fun _ _ x => by
  obtain ⟨_, _, _, _, _, _, _, _, _, _, _, _, _, _, _, _, z⟩ := x
  exact z.elim
theorem pass0S {X : Cx} (σ : L2.St) : PassesAt CX0 X σ E0 := fun _ _ _ _ _ _ h => h.elim
/-- a form or a number -/
inductive Opd (C : Addr) (H : Hp) : V → Int → List Tm → Str → Prop
  | form (p : Addr) (n : Int) (ts : List Tm) (h : FormAt C H p n ts) : Opd C H (.ref p) n ts "form"
  | num (n : Int) : Opd C H (.int n) n [] "number"
theorem Opd.keep {C : Addr} {H H' : Hp} {x : V} {n : Int} {ts : List Tm} {k : Str} (h : Opd C H x n ts k) (s : Same H H') : Opd C H' x n ts k := by
  cases h with
  | form p n ts h => exact .form p n ts (h.keep s)
  | num n => exact .num n
/-- what the try tells -/
def TriedAt (C : Addr) (H : Hp) (t : Addr) : Due → Prop
  | .told b => H t = some (.tup [.str "told", .bl b])
  | .form n ts => ∃ p, H t = some (.tup [.str "told", .ref p]) ∧ FormAt C H p n ts
  | .unl w => ∃ l, H t = some (.tup [.str "raised", .ref l]) ∧ RaisedAt H l [.str "UnlikeEnds", .str w]
theorem due_unl {sg k1 k2 w : Str} {n1 n2 : Int} {ts us : List Tm} (h1 : ¬ sg = Str.ofString "=") (h2 : ¬ sg = Str.ofString "*") (h3 : ¬ sg = Str.ofString "neg") (h : unl ts us = some w) : dueOf sg n1 ts k1 n2 us k2 = .unl w := by
  unfold dueOf
  rw [if_neg h1, if_neg h2, if_neg h3, h]
theorem due_sum {sg k1 k2 : Str} {n1 n2 : Int} {ts us : List Tm} (h1 : ¬ sg = Str.ofString "=") (h2 : ¬ sg = Str.ofString "*") (h3 : ¬ sg = Str.ofString "neg") (h : unl ts us = none) : dueOf sg n1 ts k1 n2 us k2 = sumDue sg (n1 + sgOf sg * n2) (addS ts (sgn (sgOf sg) us)) := by
  unfold dueOf
  rw [if_neg h1, if_neg h2, if_neg h3, h]
theorem unl_nil (ts : List Tm) : unl ts [] = none := rfl
theorem nil_unl (us : List Tm) : unl [] us = none := by
  unfold unl
  have : us.find? (fun u => (getT [] u.nm).any fun t => decide ((t.lo, t.hi) ≠ (u.lo, u.hi))) = none := by
    rw [List.find?_eq_none]
    intro x _
    show ¬ false = true
    decide
  rw [this]
  rfl
theorem due_add {k1 k2 : Str} {n1 n2 : Int} {ts us : List Tm} (h : unl ts us = none) : dueOf (Str.ofString "+") n1 ts k1 n2 us k2 = .form (n1 + n2) (addS ts us) := by
  rw [due_sum (by decide) (by decide) (by decide) h]
  have e : sgOf (Str.ofString "+") = 1 := by decide
  rw [e, sgn_one, Int.one_mul]
  unfold sumDue
  rw [if_neg (by decide), if_neg (by decide)]
theorem due_sub {k1 k2 : Str} {n1 n2 : Int} {ts us : List Tm} (h : unl ts us = none) : dueOf (Str.ofString "-") n1 ts k1 n2 us k2 = .form (n1 - n2) (subS ts us) := by
  rw [due_sum (by decide) (by decide) (by decide) h]
  have e : sgOf (Str.ofString "-") = -1 := by decide
  rw [e, sgn_neg]
  unfold sumDue
  rw [if_neg (by decide), if_neg (by decide), show n1 + -1 * n2 = n1 - n2 by omega]
  rfl
theorem due_lt {k1 k2 : Str} {n1 n2 : Int} {ts us : List Tm} (h : unl ts us = none) : dueOf (Str.ofString "<") n1 ts k1 n2 us k2 = .told (decide (farS 1 (n1 - n2) (subS ts us) ≤ 0)) := by
  rw [due_sum (by decide) (by decide) (by decide) h]
  have e : sgOf (Str.ofString "<") = -1 := by decide
  rw [e, sgn_neg]
  unfold sumDue
  rw [if_pos (by decide), show n1 + -1 * n2 = n1 - n2 by omega]
  rfl
theorem due_gt {k1 k2 : Str} {n1 n2 : Int} {ts us : List Tm} (h : unl ts us = none) : dueOf (Str.ofString ">") n1 ts k1 n2 us k2 = .told (decide (farS (-1) (n1 - n2) (subS ts us) ≤ 0)) := by
  rw [due_sum (by decide) (by decide) (by decide) h]
  have e : sgOf (Str.ofString ">") = -1 := by decide
  rw [e, sgn_neg]
  unfold sumDue
  rw [if_neg (by decide), if_pos (by decide), show n1 + -1 * n2 = n1 - n2 by omega]
  rfl
theorem subS_nil {ts : List Tm} (g : Gd ts) : subS ts [] = ts := by
  show addS ts (mulT (-1) []) = ts
  exact addS_nil g
theorem nil_subS {ts : List Tm} (g : Gd ts) : subS [] ts = mulT (-1) ts := nil_addS g.mul
abbrev sTri : Stmt := top 36
theorem scTri : FnScope ["_law_sign", "_law_one_here", "_law_two", "_law_e"] ["_law_sign", "_law_one_here", "_law_two"] (defScope sTri) := ⟨rfl, rfl, rfl, by decide +kernel, rfl, by decide +kernel, by decide +kernel⟩
def spTri (C CU CN : Addr) : Sp := fun vs H Q _ => ∃ (sg : Str) (x y : V) (n1 n2 : Int) (ts us : List Tm) (k1 k2 : Str), vs = [.str sg, x, y] ∧ Opd C H x n1 ts k1 ∧ Opd C H y n2 us k2 ∧ Gd ts ∧ Gd us ∧ ts.length + us.length ≤ 45 ∧ Bd 9000 n1 ts ∧ Bd 9000 n2 us ∧ sg ∈ (["+", "-", "*", "<", ">", "=", "neg"] : List Str) ∧
  (k1 = "form" ∨ k2 = "form") ∧ (sg = "*" → ¬ (k1 = "form" ∧ k2 = "form")) ∧ (sg = "neg" → k1 = "form") ∧ ∀ t H', Same H H' → TriedAt C H' t (dueOf sg n1 ts k1 n2 us k2) → Q (.ref t) H'
theorem ok_tri {C C0 C1 C2 C3 C4 CO : Addr} (D : Df K mg "_law_tried" sTri ["_law_sign", "_law_one_here", "_law_two"]) (O : FoK P w K mg base C C3 C2) (DR : Df K mg "_law_raised" sRai ["_law_e"]) (G : RaiG mg C0 C1 C2 C3 C4) (RU : RaiC K C3 C0 C1 C2 C3 C4 false false false true false) (RN : RaiC K C2 C0 C1 C2 C3 C4 false false true false false)
    (gO : mg "OfficeError" = some (.ref CO)) (x3 : PySem.W.exmOne K (.ref C3) (.ref CO) = some true) (x2 : PySem.W.exmOne K (.ref C2) (.ref CO) = some true) : FnOk P w K mg base CX0 9 D.f D.fd ["_law_sign", "_law_one_here", "_law_two"] (spTri C C3 C2) := by
  refine D.fn.ok scTri (fun vs H Q E h => ?_) (fun cdv A outer s0 H vs Q E hr h => ?_)
  · obtain ⟨sg, x, y, n1, n2, ts, us, k1, k2, rfl, _⟩ := h
    rfl
  · obtain ⟨sg, x, y, n1, n2, ts, us, k1, k2, rfl, hx, hy, g1, g2, hsz, b1, b2, hsg, hform, hmul, hneg, k⟩ := h
    refine ⟨_, (pss_one (L2N.ps_try_as (Wout := fun _ _ _ _ => False) (i := 3) rfl rfl scTri.nd rfl rfl ⟨by rfl, by decide, .inl gO⟩ takes0N
      (fun W pn xe tk _ => (pss_cons (ps_if (pt_cmpR op_eq (pv 0) pe_str (nomark _))
      (pss_one (ps_ret (pe_tup (pa_cons pe_str (pa_cons (pe_opS (OpS.or (op_binOS (op := .Add) rfl O.MA.me O.T.sf O.GA (hr.mono (by decide)) O.MA.bd (L2N.passAt tk)) (OpS.or (op_binIS (op := .Add) rfl rfl O.MA.me O.T.sf O.MRA.me.at_ (.inr ⟨_, rfl⟩) O.TA.ia O.TA.ira O.T.sI O.GA (hr.mono (by decide)) O.MA.bd (L2N.passAt tk)) (op_intOS_add O.MA.me O.MRA.me O.T.sf O.TA.ia O.TA.ira rfl O.T.sJ O.GRA (hr.mono (by decide)) O.MRA.bd (L2N.passAt tk)))) (pv 1) (pv 2)) pa_nil)))))
      pss_nil)
      (pss_cons (ps_if (pt_cmpR op_eq (pv 0) pe_str (nomark _))
      (pss_one (ps_ret (pe_tup (pa_cons pe_str (pa_cons (pe_opS (OpS.or (op_binOS (op := .Sub) rfl O.MS.me O.T.sf O.GS (hr.mono (by decide)) O.MS.bd (L2N.passAt tk)) (OpS.or (op_binIS (op := .Sub) rfl rfl O.MS.me O.T.sf O.MRS.me.at_ (.inr ⟨_, rfl⟩) O.TA.is_ O.TA.irs O.T.sI O.GS (hr.mono (by decide)) O.MS.bd (L2N.passAt tk)) (op_intOS_sub O.MS.me O.MRS.me O.T.sf O.TA.is_ O.TA.irs rfl O.T.sJ O.GRS (hr.mono (by decide)) O.MRS.bd (L2N.passAt tk)))) (pv 1) (pv 2)) pa_nil)))))
      pss_nil)
      (pss_cons (ps_if (pt_cmpR op_eq (pv 0) pe_str (nomark _))
      (pss_one (ps_ret (pe_tup (pa_cons pe_str (pa_cons (pe_opS (OpS.or (op_binIS (E := fun _ => E0) (op := .Mult) rfl rfl O.MM.me O.T.sf O.MR.me.at_ (.inr ⟨_, rfl⟩) O.TM.im O.TM.ir O.T.sI O.GM (hr.mono (by decide)) O.MM.bd pass0S) (op_intOS_mul (E := fun _ => E0) O.MM.me O.MR.me O.T.sf O.TM.im O.TM.ir rfl O.T.sJ O.GR (hr.mono (by decide)) O.MR.bd pass0S)) (pv 1) (pv 2)) pa_nil)))))
      pss_nil)
      (pss_cons (ps_if (pt_cmpR op_eq (pv 0) pe_str (nomark _))
      (pss_one (ps_ret (pe_tup (pa_cons pe_str (pa_cons (pe_cmpS (OpS.or (op_cmpOS_le O.ML.me O.T.nF O.GL (hr.mono (by decide)) O.ML.bd (L2N.passAt tk)) (op_cmpIS_le O.MG.me O.T.sJ O.GG (hr.mono (by decide)) O.MG.bd (L2N.passAt tk))) (pv 1) (pv 2) (nomark _)) pa_nil)))))
      pss_nil)
      (pss_cons (ps_if (pt_cmpR op_eq (pv 0) pe_str (nomark _))
      (pss_one (ps_ret (pe_tup (pa_cons pe_str (pa_cons (pe_cmpS (OpS.or (op_cmpOS_ge O.MG.me O.T.nF O.GG (hr.mono (by decide)) O.MG.bd (L2N.passAt tk)) (op_cmpIS_ge O.ML.me O.T.sJ O.GL (hr.mono (by decide)) O.ML.bd (L2N.passAt tk))) (pv 1) (pv 2) (nomark _)) pa_nil)))))
      pss_nil)
      (pss_cons (ps_if (pt_cmpR op_eq (pv 0) pe_str (nomark _))
      (pss_one (ps_ret (pe_tup (pa_cons pe_str (pa_cons (pe_cmpS (OpS.or (op_cmpOS_eq (E := fun _ => E0) O.ME.me O.T.nF O.GE (hr.mono (by decide)) O.ME.bd pass0S) (op_cmpIS_eq (E := fun _ => E0) O.ME.me O.T.sJ O.GE (hr.mono (by decide)) O.ME.bd pass0S)) (pv 1) (pv 2) (nomark _)) pa_nil)))))
      pss_nil)
      (pss_cons (ps_if (pt_cmpR op_eq (pv 0) pe_str (nomark _))
      (pss_one (ps_ret (pe_tup (pa_cons pe_str (pa_cons (pe_methE (pv 1) O.T.cl O.MV.me O.GV (hr.mono (by decide)) O.MV.bd (L2N.passAt tk) (pa_cons (pv 2) pa_nil)) pa_nil)))))
      pss_nil)
      (pss_one (ps_ret (pe_tup (pa_cons pe_str (pa_cons (pe_un (un_own O.MN.me O.GN (hr.mono (by decide)) O.MN.bd pass0) (pv 1)) pa_nil)))))))))))))
      (fun a oe cls d pn hz hf => (pss_one (ps_ret (pe_tup (pa_cons pe_str (pa_cons (pe_callPin (fnH_raiZ DR.fn G RU RN hz hf) hz hf (L2H.RoomH.mk (hr.mono (j := 1) (by decide)).dp (hr.mono (j := 1) (by decide)).un) (by rfl) DR.mgf DR.fn.kp DR.bd (pv 3)) pa_nil)))))))), ?_⟩
    have wid : ∀ {n : Int}, n.natAbs < 2 ^ 9000 → n.natAbs < 2 ^ 10000 := fun z => Nat.lt_of_lt_of_le z (Nat.pow_le_pow_right (by decide) (by decide))
    have finF : ∀ (r : Addr) (H1 : Hp) (n' : Int) (ts' : List Tm), Same H H1 → FormAt C H1 r n' ts' → dueOf sg n1 ts k1 n2 us k2 = .form n' ts' → 2 ≤ sizeLine ∧ ∀ t, H1 t = none → Q (.ref t) (upd H1 t (.tup [.str "told", .ref r])) := fun r H1 n' ts' s hf e => ⟨by decide, fun t nt => k t _ (s.trans (same_upd nt)) (by rw [e]; exact ⟨r, upd_same, hf.keep (same_upd nt)⟩)⟩
    have finB : ∀ (b : Bool) (H1 : Hp), Same H H1 → dueOf sg n1 ts k1 n2 us k2 = .told b → 2 ≤ sizeLine ∧ ∀ t, H1 t = none → Q (.ref t) (upd H1 t (.tup [.str "told", .bl b])) := fun b H1 s e => ⟨by decide, fun t nt => k t _ (s.trans (same_upd nt)) (by rw [e]; exact upd_same)⟩
    have finX : ∀ (w : Str) (l : Addr) (H1 : Hp), Same H H1 → RaisedAt H1 l [.str "UnlikeEnds", .str w] → dueOf sg n1 ts k1 n2 us k2 = .unl w → 2 ≤ sizeLine ∧ ∀ t, H1 t = none → Q (.ref t) (upd H1 t (.tup [.str "raised", .ref l])) := fun w l H1 s hr3 e => ⟨by decide, fun t nt => k t _ (s.trans (same_upd nt)) (by
      rw [e]
      obtain ⟨q, z1, z2⟩ := hr3
      exact ⟨l, upd_same, q, same_upd nt _ _ z1, same_upd nt _ _ z2⟩)⟩
    rcases List.mem_cons.mp hsg with rfl | hsg
    · refine ⟨_, rfl, rfl, _, rfl, ?_⟩
      refine iteT' (by decide) ?_
      cases hx with
      | form p n1 ts hp =>
        obtain ⟨dx, tp, up, h1, h2, h3⟩ := id hp
        cases hy with
        | form q n2 us hq =>
          obtain ⟨dx', tq, uq, h1', h2', h3'⟩ := id hq
          refine ⟨_, rfl, _, rfl, .inl ⟨p, dx, _, q, dx', _, rfl, rfl, h1, h1', ⟨p, n1, ts, _, rfl, hp, g1.ts, .inr ⟨q, n2, us, rfl, hq, g2.ts, fun w hw d H2 nd s2 hd => ⟨true, x3, fun _ a na => ⟨_, rfl, ⟨d, .str w, rfl, .inl ⟨rfl, rfl, hd, fun l H3 nl s3 hr3 => finX w l H3 (s2.trans s3) hr3 (due_unl (by decide) (by decide) (by decide) hw)⟩⟩⟩, fun z => nomatch z⟩, fun hn r H1 nr s2 hf => finF r H1 _ _ s2 hf (due_add hn)⟩⟩⟩⟩
        | num n2 =>
          refine ⟨_, rfl, _, rfl, .inr (.inl ⟨p, dx, _, n2, rfl, rfl, h1, ⟨p, n1, ts, _, rfl, hp, g1.ts, .inl ⟨n2, rfl, fun r H1 nr s2 hf => finF r H1 _ _ s2 hf (by rw [due_add (unl_nil ts), addS_nil g1])⟩⟩⟩)⟩
      | num n1 =>
        cases hy with
        | form q n2 us hq =>
          obtain ⟨dx', tq, uq, h1', h2', h3'⟩ := id hq
          refine ⟨_, rfl, _, rfl, .inr (.inr ⟨q, dx', _, n1, rfl, rfl, h1', ⟨q, n2, n1, us, rfl, hq, g2.ts, fun r H1 nr s2 hf => finF r H1 _ _ s2 hf (by rw [due_add (nil_unl us), nil_addS g2, Int.add_comm])⟩⟩)⟩
        | num n2 => exact absurd hform (by decide)
    rcases List.mem_cons.mp hsg with rfl | hsg
    · refine ⟨_, rfl, rfl, _, rfl, ?_⟩
      refine iteF' (by decide) ?_
      refine ⟨_, rfl, rfl, _, rfl, ?_⟩
      refine iteT' (by decide) ?_
      cases hx with
      | form p n1 ts hp =>
        obtain ⟨dx, tp, up, h1, h2, h3⟩ := id hp
        cases hy with
        | form q n2 us hq =>
          obtain ⟨dx', tq, uq, h1', h2', h3'⟩ := id hq
          refine ⟨_, rfl, _, rfl, .inl ⟨p, dx, _, q, dx', _, rfl, rfl, h1, h1', ⟨p, n1, ts, _, rfl, hp, g1.ts, .inr ⟨q, n2, us, rfl, hq, g2.ts, b2, fun w hw d H2 nd s2 hd => ⟨true, x3, fun _ a na => ⟨_, rfl, ⟨d, .str w, rfl, .inl ⟨rfl, rfl, hd, fun l H3 nl s3 hr3 => finX w l H3 (s2.trans s3) hr3 (due_unl (by decide) (by decide) (by decide) hw)⟩⟩⟩, fun z => nomatch z⟩, fun hn r H1 nr s2 hf => finF r H1 _ _ s2 hf (due_sub hn)⟩⟩⟩⟩
        | num n2 =>
          refine ⟨_, rfl, _, rfl, .inr (.inl ⟨p, dx, _, n2, rfl, rfl, h1, ⟨p, n1, ts, _, rfl, hp, g1.ts, .inl ⟨n2, rfl, fun r H1 nr s2 hf => finF r H1 _ _ s2 hf (by rw [due_sub (unl_nil ts), subS_nil g1])⟩⟩⟩)⟩
      | num n1 =>
        cases hy with
        | form q n2 us hq =>
          obtain ⟨dx', tq, uq, h1', h2', h3'⟩ := id hq
          refine ⟨_, rfl, _, rfl, .inr (.inr ⟨q, dx', _, n1, rfl, rfl, h1', ⟨q, n2, n1, us, rfl, hq, g2.ts, b2, fun r H1 nr s2 hf => finF r H1 _ _ s2 hf (by rw [due_sub (nil_unl us), nil_subS g2])⟩⟩)⟩
        | num n2 => exact absurd hform (by decide)
    rcases List.mem_cons.mp hsg with rfl | hsg
    · refine ⟨_, rfl, rfl, _, rfl, ?_⟩
      refine iteF' (by decide) ?_
      refine ⟨_, rfl, rfl, _, rfl, ?_⟩
      refine iteF' (by decide) ?_
      refine ⟨_, rfl, rfl, _, rfl, ?_⟩
      refine iteT' (by decide) ?_
      cases hx with
      | form p n1 ts hp =>
        obtain ⟨dx, tp, up, h1, h2, h3⟩ := id hp
        cases hy with
        | form q n2 us hq =>
          obtain ⟨dx', tq, uq, h1', h2', h3'⟩ := id hq
          exact absurd ⟨rfl, rfl⟩ (hmul rfl)
        | num n2 =>
          refine ⟨_, rfl, _, rfl, .inl ⟨p, dx, _, n2, rfl, rfl, h1, ⟨p, n1, n2, ts, rfl, hp, Nat.le_trans g1.sz (by decide), b1.mono (by decide), wid b2.1, fun r H1 nr s2 hf => finF r H1 _ _ s2 hf rfl⟩⟩⟩
      | num n1 =>
        cases hy with
        | form q n2 us hq =>
          obtain ⟨dx', tq, uq, h1', h2', h3'⟩ := id hq
          refine ⟨_, rfl, _, rfl, .inr ⟨q, dx', _, n1, rfl, rfl, h1', ⟨q, n2, n1, us, rfl, hq, Nat.le_trans g2.sz (by decide), b2.mono (by decide), wid b1.1, fun r H1 nr s2 hf => finF r H1 _ _ s2 hf rfl⟩⟩⟩
        | num n2 => exact absurd hform (by decide)
    rcases List.mem_cons.mp hsg with rfl | hsg
    · refine ⟨_, rfl, rfl, _, rfl, ?_⟩
      refine iteF' (by decide) ?_
      refine ⟨_, rfl, rfl, _, rfl, ?_⟩
      refine iteF' (by decide) ?_
      refine ⟨_, rfl, rfl, _, rfl, ?_⟩
      refine iteF' (by decide) ?_
      refine ⟨_, rfl, rfl, _, rfl, ?_⟩
      refine iteT' (by decide) ?_
      cases hx with
      | form p n1 ts hp =>
        obtain ⟨dx, tp, up, h1, h2, h3⟩ := id hp
        cases hy with
        | form q n2 us hq =>
          obtain ⟨dx', tq, uq, h1', h2', h3'⟩ := id hq
          refine ⟨_, rfl, _, rfl, .inl ⟨p, dx, _, rfl, h1, .inl ⟨q, dx', _, rfl, h1'⟩, p, n1, ts, _, rfl, hp, g1.ts, b1, .inr ⟨q, n2, us, rfl, hq, g2.ts, b2, fun w hw d H2 nd s2 hd => ⟨true, x3, fun _ a na => ⟨_, rfl, ⟨d, .str w, rfl, .inl ⟨rfl, rfl, hd, fun l H3 nl s3 hr3 => finX w l H3 (s2.trans s3) hr3 (due_unl (by decide) (by decide) (by decide) hw)⟩⟩⟩, fun z => nomatch z⟩, fun hn H1 s2 => finB _ H1 s2 (by rw [due_lt hn]; exact congrArg Due.told (decide_eq_decide.mpr (by rw [far_max (ts := subS ts us) (g1.add g2.mul (by rw [show (mulT (-1) us).length = us.length by unfold mulT; rw [if_neg (by decide), List.length_map]]; exact hsz))])))⟩⟩⟩
        | num n2 =>
          refine ⟨_, rfl, _, rfl, .inl ⟨p, dx, _, rfl, h1, .inr ⟨n2, rfl⟩, p, n1, ts, _, rfl, hp, g1.ts, b1, .inl ⟨n2, rfl, b2.1, fun H1 s2 => finB _ H1 s2 (by rw [due_lt (unl_nil ts), subS_nil g1]; exact congrArg Due.told (decide_eq_decide.mpr (by rw [far_max g1])))⟩⟩⟩
      | num n1 =>
        cases hy with
        | form q n2 us hq =>
          obtain ⟨dx', tq, uq, h1', h2', h3'⟩ := id hq
          refine ⟨_, rfl, _, rfl, .inr ⟨q, dx', _, n1, rfl, rfl, h1', q, n2, us, _, rfl, hq, g2.ts, b2, .inl ⟨n1, rfl, b1.1, fun H1 s2 => finB _ H1 s2 (by rw [due_lt (nil_unl us), nil_subS g2]; exact congrArg Due.told (decide_eq_decide.mpr (by rw [far_neg, show (-1 : Int) = -1 from rfl, far_min g2]; omega)))⟩⟩⟩
        | num n2 => exact absurd hform (by decide)
    rcases List.mem_cons.mp hsg with rfl | hsg
    · refine ⟨_, rfl, rfl, _, rfl, ?_⟩
      refine iteF' (by decide) ?_
      refine ⟨_, rfl, rfl, _, rfl, ?_⟩
      refine iteF' (by decide) ?_
      refine ⟨_, rfl, rfl, _, rfl, ?_⟩
      refine iteF' (by decide) ?_
      refine ⟨_, rfl, rfl, _, rfl, ?_⟩
      refine iteF' (by decide) ?_
      refine ⟨_, rfl, rfl, _, rfl, ?_⟩
      refine iteT' (by decide) ?_
      cases hx with
      | form p n1 ts hp =>
        obtain ⟨dx, tp, up, h1, h2, h3⟩ := id hp
        cases hy with
        | form q n2 us hq =>
          obtain ⟨dx', tq, uq, h1', h2', h3'⟩ := id hq
          refine ⟨_, rfl, _, rfl, .inl ⟨p, dx, _, rfl, h1, .inl ⟨q, dx', _, rfl, h1'⟩, p, n1, ts, _, rfl, hp, g1.ts, b1, .inr ⟨q, n2, us, rfl, hq, g2.ts, b2, fun w hw d H2 nd s2 hd => ⟨true, x3, fun _ a na => ⟨_, rfl, ⟨d, .str w, rfl, .inl ⟨rfl, rfl, hd, fun l H3 nl s3 hr3 => finX w l H3 (s2.trans s3) hr3 (due_unl (by decide) (by decide) (by decide) hw)⟩⟩⟩, fun z => nomatch z⟩, fun hn H1 s2 => finB _ H1 s2 (by rw [due_gt hn]; exact congrArg Due.told (decide_eq_decide.mpr (by rw [far_min (ts := subS ts us) (g1.add g2.mul (by rw [show (mulT (-1) us).length = us.length by unfold mulT; rw [if_neg (by decide), List.length_map]]; exact hsz))]; omega)))⟩⟩⟩
        | num n2 =>
          refine ⟨_, rfl, _, rfl, .inl ⟨p, dx, _, rfl, h1, .inr ⟨n2, rfl⟩, p, n1, ts, _, rfl, hp, g1.ts, b1, .inl ⟨n2, rfl, b2.1, fun H1 s2 => finB _ H1 s2 (by rw [due_gt (unl_nil ts), subS_nil g1]; exact congrArg Due.told (decide_eq_decide.mpr (by rw [far_min g1]; omega)))⟩⟩⟩
      | num n1 =>
        cases hy with
        | form q n2 us hq =>
          obtain ⟨dx', tq, uq, h1', h2', h3'⟩ := id hq
          refine ⟨_, rfl, _, rfl, .inr ⟨q, dx', _, n1, rfl, rfl, h1', q, n2, us, _, rfl, hq, g2.ts, b2, .inl ⟨n1, rfl, b1.1, fun H1 s2 => finB _ H1 s2 (by rw [due_gt (nil_unl us), nil_subS g2]; exact congrArg Due.told (decide_eq_decide.mpr (by rw [far_neg, show (- -1 : Int) = 1 from rfl, far_max g2]; omega)))⟩⟩⟩
        | num n2 => exact absurd hform (by decide)
    rcases List.mem_cons.mp hsg with rfl | hsg
    · refine ⟨_, rfl, rfl, _, rfl, ?_⟩
      refine iteF' (by decide) ?_
      refine ⟨_, rfl, rfl, _, rfl, ?_⟩
      refine iteF' (by decide) ?_
      refine ⟨_, rfl, rfl, _, rfl, ?_⟩
      refine iteF' (by decide) ?_
      refine ⟨_, rfl, rfl, _, rfl, ?_⟩
      refine iteF' (by decide) ?_
      refine ⟨_, rfl, rfl, _, rfl, ?_⟩
      refine iteF' (by decide) ?_
      refine ⟨_, rfl, rfl, _, rfl, ?_⟩
      refine iteT' (by decide) ?_
      cases hx with
      | form p n1 ts hp =>
        obtain ⟨dx, tp, up, h1, h2, h3⟩ := id hp
        cases hy with
        | form q n2 us hq =>
          obtain ⟨dx', tq, uq, h1', h2', h3'⟩ := id hq
          refine ⟨_, rfl, _, rfl, .inl ⟨p, dx, _, rfl, h1, .inl ⟨q, dx', _, rfl, h1'⟩, p, n1, ts, _, rfl, hp, g1.ok, .inl ⟨q, n2, us, rfl, hq, g2.ok, finB _ H (fun _ _ z => z) (congrArg Due.told (by simp))⟩⟩⟩
        | num n2 =>
          refine ⟨_, rfl, _, rfl, .inl ⟨p, dx, _, rfl, h1, .inr ⟨n2, rfl⟩, p, n1, ts, _, rfl, hp, g1.ok, .inr ⟨n2, rfl, finB _ H (fun _ _ z => z) (congrArg Due.told (by rw [decide_eq_false (p := ("form" : Str) = "number") (by decide), Bool.and_false, Bool.and_false]))⟩⟩⟩
      | num n1 =>
        cases hy with
        | form q n2 us hq =>
          obtain ⟨dx', tq, uq, h1', h2', h3'⟩ := id hq
          refine ⟨_, rfl, _, rfl, .inr ⟨q, dx', _, n1, rfl, rfl, h1', q, n2, us, _, rfl, hq, g2.ok, .inr ⟨n1, rfl, finB _ H (fun _ _ z => z) (congrArg Due.told (by rw [decide_eq_false (p := ("number" : Str) = "form") (by decide), Bool.and_false, Bool.and_false]))⟩⟩⟩
        | num n2 => exact absurd hform (by decide)
    rcases List.mem_cons.mp hsg with rfl | hsg
    · refine ⟨_, rfl, rfl, _, rfl, ?_⟩
      refine iteF' (by decide) ?_
      refine ⟨_, rfl, rfl, _, rfl, ?_⟩
      refine iteF' (by decide) ?_
      refine ⟨_, rfl, rfl, _, rfl, ?_⟩
      refine iteF' (by decide) ?_
      refine ⟨_, rfl, rfl, _, rfl, ?_⟩
      refine iteF' (by decide) ?_
      refine ⟨_, rfl, rfl, _, rfl, ?_⟩
      refine iteF' (by decide) ?_
      refine ⟨_, rfl, rfl, _, rfl, ?_⟩
      refine iteF' (by decide) ?_
      refine ⟨_, rfl, rfl, _, rfl, ?_⟩
      refine iteF' (by decide) ?_
      cases hx with
      | form p n1 ts hp =>
        obtain ⟨dx, tp, up, h1, h2, h3⟩ := id hp
        exact ⟨_, rfl, p, dx, _, rfl, h1, p, n1, ts, rfl, hp, Nat.le_trans g1.sz (by decide), b1.mono (by decide), fun r H1 nr s2 hf => finF r H1 _ _ s2 hf rfl⟩
      | num n1 => exact absurd (hneg rfl) (by decide)
    · simp at hsg
end
end DO

namespace DO
open PySem PySem.Spec PyProof.Rows L2
section
variable {P : Program} {w : World} {K : PySem.W.Frag} {mg : Str → Option Value} {base : Heap}
def spTriV (C : Addr) : Sp := fun vs H Q _ => ∃ (p d : Addr) (n : Int) (ts : List Tm) (kvs : List (Key × V)) (g : Str → Option Int), vs = [.str "value", .ref p, .ref d] ∧ FormAt C H p n ts ∧ ts.length ≤ 900 ∧ Bd 10000 n ts ∧ H d = some (.dK kvs) ∧ (∀ w, valV kvs (Sum.inr w : Key) = (g w).map V.int) ∧ (∀ w z, g w = some z → z.natAbs < 2 ^ 10000) ∧
  (∀ w, missT g ts = some w → ∀ t l H', Same H H' → H' t = some (.tup [.str "raised", .ref l]) → RaisedAt H' l [.str "UnknownName", .str w] → Q (.ref t) H') ∧ (missT g ts = none → ∀ t H', Same H H' → H' t = some (.tup [.str "told", .int (n + valT g ts)]) → Q (.ref t) H')
theorem ok_triV {C C0 C1 C2 C3 C4 CO : Addr} (D : Df K mg "_law_tried" sTri ["_law_sign", "_law_one_here", "_law_two"]) (O : FoK P w K mg base C C3 C2) (DR : Df K mg "_law_raised" sRai ["_law_e"]) (G : RaiG mg C0 C1 C2 C3 C4) (RU : RaiC K C3 C0 C1 C2 C3 C4 false false false true false) (RN : RaiC K C2 C0 C1 C2 C3 C4 false false true false false)
    (gO : mg "OfficeError" = some (.ref CO)) (x3 : PySem.W.exmOne K (.ref C3) (.ref CO) = some true) (x2 : PySem.W.exmOne K (.ref C2) (.ref CO) = some true) : FnOk P w K mg base CX0 9 D.f D.fd ["_law_sign", "_law_one_here", "_law_two"] (spTriV C) := by
  refine D.fn.ok scTri (fun vs H Q E h => ?_) (fun cdv A outer s0 H vs Q E hr h => ?_)
  · obtain ⟨p, d, n, ts, kvs, g, rfl, _⟩ := h
    rfl
  · obtain ⟨p, d, n, ts, kvs, g, rfl, hp, hsz, hb, hd, hg, hgb, kx, k⟩ := h
    refine ⟨_, (pss_one (L2N.ps_try_as (Wout := fun _ _ _ _ => False) (i := 3) rfl rfl scTri.nd rfl rfl ⟨by rfl, by decide, .inl gO⟩ takes0N
      (fun W pn xe tk _ => (pss_cons (ps_if (pt_cmpR op_eq (pv 0) pe_str (nomark _))
      (pss_one (ps_ret (pe_tup (pa_cons pe_str (pa_cons (pe_opS (OpS.or (op_binOS (op := .Add) rfl O.MA.me O.T.sf O.GA (hr.mono (by decide)) O.MA.bd (L2N.passAt tk)) (OpS.or (op_binIS (op := .Add) rfl rfl O.MA.me O.T.sf O.MRA.me.at_ (.inr ⟨_, rfl⟩) O.TA.ia O.TA.ira O.T.sI O.GA (hr.mono (by decide)) O.MA.bd (L2N.passAt tk)) (op_intOS_add O.MA.me O.MRA.me O.T.sf O.TA.ia O.TA.ira rfl O.T.sJ O.GRA (hr.mono (by decide)) O.MRA.bd (L2N.passAt tk)))) (pv 1) (pv 2)) pa_nil)))))
      pss_nil)
      (pss_cons (ps_if (pt_cmpR op_eq (pv 0) pe_str (nomark _))
      (pss_one (ps_ret (pe_tup (pa_cons pe_str (pa_cons (pe_opS (OpS.or (op_binOS (op := .Sub) rfl O.MS.me O.T.sf O.GS (hr.mono (by decide)) O.MS.bd (L2N.passAt tk)) (OpS.or (op_binIS (op := .Sub) rfl rfl O.MS.me O.T.sf O.MRS.me.at_ (.inr ⟨_, rfl⟩) O.TA.is_ O.TA.irs O.T.sI O.GS (hr.mono (by decide)) O.MS.bd (L2N.passAt tk)) (op_intOS_sub O.MS.me O.MRS.me O.T.sf O.TA.is_ O.TA.irs rfl O.T.sJ O.GRS (hr.mono (by decide)) O.MRS.bd (L2N.passAt tk)))) (pv 1) (pv 2)) pa_nil)))))
      pss_nil)
      (pss_cons (ps_if (pt_cmpR op_eq (pv 0) pe_str (nomark _))
      (pss_one (ps_ret (pe_tup (pa_cons pe_str (pa_cons (pe_opS (OpS.or (op_binIS (E := fun _ => E0) (op := .Mult) rfl rfl O.MM.me O.T.sf O.MR.me.at_ (.inr ⟨_, rfl⟩) O.TM.im O.TM.ir O.T.sI O.GM (hr.mono (by decide)) O.MM.bd pass0S) (op_intOS_mul (E := fun _ => E0) O.MM.me O.MR.me O.T.sf O.TM.im O.TM.ir rfl O.T.sJ O.GR (hr.mono (by decide)) O.MR.bd pass0S)) (pv 1) (pv 2)) pa_nil)))))
      pss_nil)
      (pss_cons (ps_if (pt_cmpR op_eq (pv 0) pe_str (nomark _))
      (pss_one (ps_ret (pe_tup (pa_cons pe_str (pa_cons (pe_cmpS (OpS.or (op_cmpOS_le O.ML.me O.T.nF O.GL (hr.mono (by decide)) O.ML.bd (L2N.passAt tk)) (op_cmpIS_le O.MG.me O.T.sJ O.GG (hr.mono (by decide)) O.MG.bd (L2N.passAt tk))) (pv 1) (pv 2) (nomark _)) pa_nil)))))
      pss_nil)
      (pss_cons (ps_if (pt_cmpR op_eq (pv 0) pe_str (nomark _))
      (pss_one (ps_ret (pe_tup (pa_cons pe_str (pa_cons (pe_cmpS (OpS.or (op_cmpOS_ge O.MG.me O.T.nF O.GG (hr.mono (by decide)) O.MG.bd (L2N.passAt tk)) (op_cmpIS_ge O.ML.me O.T.sJ O.GL (hr.mono (by decide)) O.ML.bd (L2N.passAt tk))) (pv 1) (pv 2) (nomark _)) pa_nil)))))
      pss_nil)
      (pss_cons (ps_if (pt_cmpR op_eq (pv 0) pe_str (nomark _))
      (pss_one (ps_ret (pe_tup (pa_cons pe_str (pa_cons (pe_cmpS (OpS.or (op_cmpOS_eq (E := fun _ => E0) O.ME.me O.T.nF O.GE (hr.mono (by decide)) O.ME.bd pass0S) (op_cmpIS_eq (E := fun _ => E0) O.ME.me O.T.sJ O.GE (hr.mono (by decide)) O.ME.bd pass0S)) (pv 1) (pv 2) (nomark _)) pa_nil)))))
      pss_nil)
      (pss_cons (ps_if (pt_cmpR op_eq (pv 0) pe_str (nomark _))
      (pss_one (ps_ret (pe_tup (pa_cons pe_str (pa_cons (pe_methE (pv 1) O.T.cl O.MV.me O.GV (hr.mono (by decide)) O.MV.bd (L2N.passAt tk) (pa_cons (pv 2) pa_nil)) pa_nil)))))
      pss_nil)
      (pss_one (ps_ret (pe_tup (pa_cons pe_str (pa_cons (pe_un (un_own O.MN.me O.GN (hr.mono (by decide)) O.MN.bd pass0) (pv 1)) pa_nil)))))))))))))
      (fun a oe cls d pn hz hf => (pss_one (ps_ret (pe_tup (pa_cons pe_str (pa_cons (pe_callPin (fnH_raiZ DR.fn G RU RN hz hf) hz hf (L2H.RoomH.mk (hr.mono (j := 1) (by decide)).dp (hr.mono (j := 1) (by decide)).un) (by rfl) DR.mgf DR.fn.kp DR.bd (pv 3)) pa_nil)))))))), ?_⟩
    obtain ⟨dx, tp, up, h1, h2, h3⟩ := id hp
    refine ⟨_, rfl, rfl, _, rfl, ?_⟩
    refine iteF' (by decide) ?_
    refine ⟨_, rfl, rfl, _, rfl, ?_⟩
    refine iteF' (by decide) ?_
    refine ⟨_, rfl, rfl, _, rfl, ?_⟩
    refine iteF' (by decide) ?_
    refine ⟨_, rfl, rfl, _, rfl, ?_⟩
    refine iteF' (by decide) ?_
    refine ⟨_, rfl, rfl, _, rfl, ?_⟩
    refine iteF' (by decide) ?_
    refine ⟨_, rfl, rfl, _, rfl, ?_⟩
    refine iteF' (by decide) ?_
    refine ⟨_, rfl, rfl, _, rfl, ?_⟩
    refine iteT' (by decide) ?_
    refine ⟨_, rfl, p, dx, _, rfl, h1, ff_no _ _ (by decide) (by decide), _, rfl, ⟨p, d, n, ts, kvs, g, rfl, hp, hsz, hb, hd, hg, hgb, fun w hw d2 H2 nd s2 hd2 => ?_, fun hn => ⟨(by show 2 ≤ sizeLine; decide), fun t nt => k hn t _ (same_upd nt) upd_same⟩⟩⟩
    exact ⟨true, x2, fun _ a na => ⟨_, rfl, ⟨d2, .str w, rfl, .inr ⟨rfl, rfl, hd2, fun l H3 nl s3 hr3 => ⟨(by show 2 ≤ sizeLine; decide), fun t nt => by
      obtain ⟨q, z1, z2⟩ := hr3
      exact kx w hw t l _ ((s2.trans s3).trans (same_upd nt)) upd_same ⟨q, same_upd nt _ _ z1, same_upd nt _ _ z2⟩⟩⟩⟩⟩, fun z => nomatch z⟩
end
end DO

namespace DO
open PySem PySem.Spec PyProof.Rows L2
section
variable {P : Program} {w : World} {K : PySem.W.Frag} {mg : Str → Option Value} {base : Heap}
abbrev sMts : Stmt := top 38
theorem scMts : FnScope ["_law_tried_here", "_law_due_here"] ["_law_tried_here", "_law_due_here"] (defScope sMts) := ⟨rfl, rfl, rfl, by decide +kernel, rfl, by decide +kernel, by decide +kernel⟩
def DueOk : Due → Prop
  | .told _ => True
  | .form _ ts => NmsOk ts
  | .unl w => PyData.strOk w = true
def unD (w : Str) : PyData := .tuple [.str "raised", .list [.tuple [.str "UnlikeEnds", .str w]]]
theorem dp_un {H : Hp} {t l : Addr} {w : Str} (h1 : H t = some (.tup [.str "raised", .ref l])) (h2 : RaisedAt H l [.str "UnlikeEnds", .str w]) : Dp K H (.ref t) (unD w) := by
  obtain ⟨q, z1, z2⟩ := h2
  exact .tup (sql_ofT h1) (.cons (.str _) (.cons (.lst (sql_of z1) (.cons (.tup (sql_ofT z2) (.cons (.str _) (.cons (.str _) .nil))) .nil)) .nil))
theorem sh_un {w : Str} (h : PyData.strOk w = true) : SeqAt.shaped (unD w) = true := by
  have e1 : PyData.strOk (Str.ofString "raised") = true := by decide +kernel
  have e2 : PyData.strOk (Str.ofString "UnlikeEnds") = true := by decide +kernel
  unfold SeqAt.shaped unD
  simp [PyData.canLay0, PyData.canLayAll0, PyData.depth, PyData.depthAll, h, e1, e2]
theorem eqv_un (w : Str) : PyData.eqv (unD w) (unD w) = true := by
  unfold unD
  simp [PyData.eqv, PyData.eqvAll]
def spMts (C : Addr) : Sp := fun vs H Q _ => ∃ (t1 t2 : Addr) (d : Due), vs = [.ref t1, .ref t2] ∧ TriedAt C H t1 d ∧ DueAt H t2 d ∧ DueOk d ∧ ∀ H', Same H H' → Q (.bl true) H'
theorem ok_mts {C : Addr} (D : Df K mg "_law_meets" sMts ["_law_tried_here", "_law_due_here"]) (DF : Df K mg "_law_is_form" sIsF ["_law_actual", "_law_model"]) (GF : FnOk P w K mg base CX0 2 DF.f DF.fd ["_law_actual", "_law_model"] (spIsF C)) (mis : mg "isinstance" = none) (mbo : mg "bool" = none) :
    FnOk P w K mg base CX0 3 D.f D.fd ["_law_tried_here", "_law_due_here"] (spMts C) := by
  refine D.fn.ok scMts (fun vs H Q E h => ?_) (fun cdv A outer s0 H vs Q E hr h => ?_)
  · obtain ⟨t1, t2, d, rfl, _⟩ := h
    rfl
  · obtain ⟨t1, t2, d, rfl, h1, h2, ho, k⟩ := h
    refine ⟨_, (pss_cons (ps_if (pt_cmpR op_eq (pe_ix ix_tup (pv 1) pe_int (fun _ _ => rfl)) pe_str (nomark _))
      (pss_one (ps_ret (pe_and (pe_cmpR op_eq (pe_ix ix_tup (pv 0) pe_int (fun _ _ => rfl)) pe_str (nomark _)) (pe_one (pe_call GF (hr.mono (by decide)) (by rfl) DF.mgf DF.fn.kp DF.bd .nil pass0 (pa_cons (pe_ix ix_tup (pv 0) pe_int (fun _ _ => rfl)) (pa_cons (pe_ix ix_tup (pv 1) pe_int (fun _ _ => rfl)) pa_nil)))))))
      pss_nil)
      (pss_cons (ps_if (pt_cmpR op_eq (pe_ix ix_tup (pv 1) pe_int (fun _ _ => rfl)) pe_str (nomark _))
      (pss_one (ps_ret (pe_cmpR (op_eqD hr.units) (pv 0) (pv 1) (nomark _))))
      pss_nil)
      (pss_one (ps_ret (pe_and (pe_cmpR op_eq (pe_ix ix_tup (pv 0) pe_int (fun _ _ => rfl)) pe_str (nomark _)) (pe_and (pe_callB call_isi (by rfl) mis (by decide +kernel) (pa_cons (pe_ix ix_tup (pv 0) pe_int (fun _ _ => rfl)) (pa_cons (pe_bltn (v := .ty "bool") (by rfl) mbo (by decide +kernel) rfl) pa_nil))) (pe_one (pe_cmpR op_eq (pe_ix ix_tup (pv 0) pe_int (fun _ _ => rfl)) (pe_ix ix_tup (pv 1) pe_int (fun _ _ => rfl)) (nomark _))))))))), ?_⟩
    cases d with
    | told b =>
      have e1 : H t1 = some (.tup [.str "told", .bl b]) := h1
      have e2 : H t2 = some (.tup [.str "told", .bl b]) := h2
      refine ⟨_, rfl, t2, _, 0, _, rfl, rfl, sql_ofT e2, rfl, rfl, _, rfl, ?_⟩
      refine iteF' (by decide) ?_
      refine ⟨_, rfl, t2, _, 0, _, rfl, rfl, sql_ofT e2, rfl, rfl, _, rfl, ?_⟩
      refine iteF' (by decide) ?_
      refine ⟨_, rfl, t1, _, 0, _, rfl, rfl, sql_ofT e1, rfl, rfl, _, rfl, ?_⟩
      refine iteT' (by decide) ?_
      refine ⟨_, rfl, t1, _, 1, _, rfl, rfl, sql_ofT e1, rfl, _, _, _, _, true, rfl, .ty "bool", .base (.bl b), kit_ty (by decide +kernel), _, rfl, ?_⟩
      refine iteT' rfl ?_
      refine ⟨_, rfl, t1, _, 1, _, rfl, rfl, sql_ofT e1, rfl, _, rfl, t2, _, 1, _, rfl, rfl, sql_ofT e2, rfl, rfl, ?_⟩
      have := k H (fun _ _ z => z)
      simpa using this
    | form n ts =>
      obtain ⟨p, e1, hp⟩ := h1
      obtain ⟨c, e2, hc⟩ := h2
      refine ⟨_, rfl, t2, _, 0, _, rfl, rfl, sql_ofT e2, rfl, rfl, _, rfl, ?_⟩
      refine iteT' (by decide) ?_
      refine ⟨_, rfl, t1, _, 0, _, rfl, rfl, sql_ofT e1, rfl, rfl, _, rfl, ?_⟩
      refine iteT' (by decide) ?_
      exact ⟨_, rfl, t1, _, 1, _, rfl, rfl, sql_ofT e1, rfl, _, rfl, t2, _, 1, _, rfl, rfl, sql_ofT e2, rfl, p, c, n, ts, rfl, hp, hc, ho, k⟩
    | unl w =>
      obtain ⟨l, e1, hr1⟩ := h1
      obtain ⟨l2, q2, e2, z1, z2⟩ := h2
      refine ⟨_, rfl, t2, _, 0, _, rfl, rfl, sql_ofT e2, rfl, rfl, _, rfl, ?_⟩
      refine iteF' (by decide) ?_
      refine ⟨_, rfl, t2, _, 0, _, rfl, rfl, sql_ofT e2, rfl, rfl, _, rfl, ?_⟩
      refine iteT' (by decide) ?_
      refine ⟨_, rfl, _, rfl, unD w, unD w, dp_un e1 hr1, dp_un e2 ⟨q2, z1, z2⟩, sh_un ho, sh_un ho, ?_⟩
      rw [eqv_un]
      exact k H (fun _ _ z => z)
end
end DO

namespace DO
open PySem PySem.Spec PyProof.Rows L2
section
variable {P : Program} {w : World} {K : PySem.W.Frag} {mg : Str → Option Value} {base : Heap}
structure Fk (P : Program) (w : World) (K : PySem.W.Frag) (mg : Str → Option Value) (base : Heap) (k : Nat) (x : Str) (st : Stmt) (ps : List Str) (sp : Sp) where
  D : Df K mg x st ps
  G : FnOk P w K mg base CX0 k D.f D.fd ps sp
/-! ### what is due, its bounds -/
theorem pow_le2 {B C : Nat} (h : B ≤ C) : 2 ^ B ≤ 2 ^ C := Nat.pow_le_pow_right (by decide) h
theorem lt_pow {a B C : Nat} (h : a < 2 ^ B) (e : B ≤ C) : a < 2 ^ C := Nat.lt_of_lt_of_le h (pow_le2 e)
theorem mul_pow {a b : Int} {B m : Nat} (h : a.natAbs < 2 ^ B) (g : b.natAbs < 2 ^ m) : (a * b).natAbs < 2 ^ (B + m) := by
  rw [Int.natAbs_mul, Nat.pow_add]
  exact Nat.mul_lt_mul'' h g
theorem bd_mulT {B m : Nat} {n t : Int} {ts : List Tm} (h : Bd B n ts) (g : t.natAbs < 2 ^ m) : Bd (B + m) (n * t) (mulT t ts) := by
  refine ⟨mul_pow h.1 g, fun x hx => ?_⟩
  obtain ⟨_, y, hy, rfl⟩ := mulT_mem hx
  obtain ⟨h1, h2, h3⟩ := h.2 y hy
  exact ⟨mul_pow h1 g, lt_pow h2 (by omega), lt_pow h3 (by omega)⟩
theorem Gd.sgn {s : Int} (hs : s = 1 ∨ s = -1) {us : List Tm} (g : Gd us) : Gd (sgn s us) := by
  obtain rfl | rfl := hs
  · rw [sgn_one]
    exact g
  · rw [sgn_neg]
    exact g.mul
theorem sgOf_or (sg : Str) : sgOf sg = 1 ∨ sgOf sg = -1 := by
  unfold sgOf
  split
  · exact .inl rfl
  · exact .inr rfl
theorem sgn_len (s : Int) (us : List Tm) : (sgn s us).length = us.length := by
  unfold sgn
  rw [List.length_map]
theorem mulT_sub {t : Int} {ts : List Tm} : ∀ w ∈ nms (mulT t ts), w ∈ nms ts := fun w hw => by
  obtain ⟨x, hx, rfl⟩ := List.mem_map.mp hw
  obtain ⟨_, y, hy, rfl⟩ := mulT_mem hx
  exact List.mem_map.mpr ⟨y, hy, rfl⟩
theorem addS_sub {ts us : List Tm} (g : (nms ts).Nodup) (h : (nms us).Nodup) : ∀ w ∈ nms (addS ts us), w ∈ nms ts ∨ w ∈ nms us := fun w hw => by
  obtain ⟨x, hx, rfl⟩ := List.mem_map.mp hw
  obtain ⟨_, ⟨h1, _⟩ | ⟨u, hu, e, _⟩⟩ := addS_mem g h hx
  · exact .inl (List.mem_map.mpr ⟨x, h1, rfl⟩)
  · exact .inr (List.mem_map.mpr ⟨u, hu, e⟩)
theorem unl_some {ts us : List Tm} {w : Str} (h : unl ts us = some w) : ∃ u ∈ us, u.nm = w := by
  unfold unl at h
  cases e : us.find? (fun u => (getT ts u.nm).any fun t => decide ((t.lo, t.hi) ≠ (u.lo, u.hi))) with
  | none =>
    rw [e] at h
    cases h
  | some u =>
    rw [e] at h
    exact ⟨u, List.mem_of_find?_eq_some e, Option.some.inj h⟩
/-- no name with unlike ends -/
theorem unl_of {ts us : List Tm} (h : ∀ u ∈ us, ∀ t, getT ts u.nm = some t → t.lo = u.lo ∧ t.hi = u.hi) : unl ts us = none := by
  unfold unl
  have : us.find? (fun u => (getT ts u.nm).any fun t => decide ((t.lo, t.hi) ≠ (u.lo, u.hi))) = none := by
    rw [List.find?_eq_none]
    intro u hu
    cases e : getT ts u.nm with
    | none => simp
    | some t =>
      obtain ⟨h1, h2⟩ := h u hu t e
      simp [h1, h2]
  rw [this]
  rfl
theorem unl_none {ts us : List Tm} (h : unl ts us = none) : ∀ u ∈ us, ∀ t, getT ts u.nm = some t → t.lo = u.lo ∧ t.hi = u.hi := fun u hu t e => by
  unfold unl at h
  have h2 : us.find? (fun u => (getT ts u.nm).any fun t => decide ((t.lo, t.hi) ≠ (u.lo, u.hi))) = none := by
    cases q : us.find? (fun u => (getT ts u.nm).any fun t => decide ((t.lo, t.hi) ≠ (u.lo, u.hi))) with
    | none => rfl
    | some x =>
      rw [q] at h
      cases h
  have h3 := List.find?_eq_none.mp h2 u hu
  rw [e] at h3
  simpa using h3
theorem due_dok {sg : Str} {n1 n2 : Int} {ts us : List Tm} {k1 k2 : Str} (g1 : Gd ts) (g2 : Gd us) (hl : ts.length + us.length ≤ 45) : DueOk (dueOf sg n1 ts k1 n2 us k2) := by
  have gs := g1.add (g2.sgn (sgOf_or sg)) (by rw [sgn_len]; exact hl)
  unfold dueOf
  by_cases e1 : sg = Str.ofString "="
  · rw [if_pos e1]
    trivial
  rw [if_neg e1]
  by_cases e2 : sg = Str.ofString "*"
  · rw [if_pos e2]
    by_cases e3 : k1 = Str.ofString "form"
    · rw [if_pos e3]
      exact g1.mul.ok
    · rw [if_neg e3]
      exact g2.mul.ok
  rw [if_neg e2]
  by_cases e3 : sg = Str.ofString "neg"
  · rw [if_pos e3]
    exact g1.mul.ok
  rw [if_neg e3]
  cases e : unl ts us with
  | some w =>
    obtain ⟨u, hu, rfl⟩ := unl_some e
    exact g2.ok u hu
  | none =>
    show DueOk (sumDue sg _ _)
    unfold sumDue
    by_cases e4 : sg = Str.ofString "<"
    · rw [if_pos e4]
      trivial
    rw [if_neg e4]
    by_cases e5 : sg = Str.ofString ">"
    · rw [if_pos e5]
      trivial
    rw [if_neg e5]
    exact gs.ok
theorem due_form {sg : Str} {n1 n2 n : Int} {ts us r : List Tm} {k1 k2 : Str} (g1 : Gd ts) (g2 : Gd us) (hl : ts.length + us.length ≤ 45) (h : dueOf sg n1 ts k1 n2 us k2 = .form n r) : Gd r ∧ (∀ w ∈ nms r, w ∈ nms ts ∨ w ∈ nms us) ∧
    ∀ B m, Bd B n1 ts → Bd B n2 us → 1 ≤ m → (sg = Str.ofString "*" → (k1 = Str.ofString "form" → n2.natAbs < 2 ^ m) ∧ (¬ k1 = Str.ofString "form" → n1.natAbs < 2 ^ m)) → Bd (B + m) n r := by
  have hs := sgOf_or sg
  have gs := g1.add (g2.sgn hs) (by rw [sgn_len]; exact hl)
  unfold dueOf at h
  by_cases e1 : sg = Str.ofString "="
  · rw [if_pos e1] at h
    cases h
  rw [if_neg e1] at h
  by_cases e2 : sg = Str.ofString "*"
  · rw [if_pos e2] at h
    by_cases e3 : k1 = Str.ofString "form"
    · rw [if_pos e3] at h
      cases h
      exact ⟨g1.mul, fun w hw => .inl (mulT_sub w hw), fun B m b1 _ _ hm => bd_mulT b1 ((hm e2).1 e3)⟩
    · rw [if_neg e3] at h
      cases h
      exact ⟨g2.mul, fun w hw => .inr (mulT_sub w hw), fun B m _ b2 _ hm => bd_mulT b2 ((hm e2).2 e3)⟩
  rw [if_neg e2] at h
  by_cases e3 : sg = Str.ofString "neg"
  · rw [if_pos e3] at h
    cases h
    exact ⟨g1.mul, fun w hw => .inl (mulT_sub w hw), fun B m b1 _ _ _ => (bd_mul1 b1).mono (by omega)⟩
  rw [if_neg e3] at h
  cases e : unl ts us with
  | some w =>
    rw [e] at h
    cases h
  | none =>
    rw [e] at h
    have h' : sumDue sg (n1 + sgOf sg * n2) (addS ts (sgn (sgOf sg) us)) = .form n r := h
    unfold sumDue at h'
    by_cases e4 : sg = Str.ofString "<"
    · rw [if_pos e4] at h'
      cases h'
    rw [if_neg e4] at h'
    by_cases e5 : sg = Str.ofString ">"
    · rw [if_pos e5] at h'
      cases h'
    rw [if_neg e5] at h'
    cases h'
    refine ⟨gs, fun w hw => ?_, fun B m b1 b2 hm _ => (bd_add g1.up.nd (by rw [sgn_nms]; exact g2.up.nd) b1 (bd_sgn _ hs b2)).mono (by omega)⟩
    rcases addS_sub g1.up.nd (by rw [sgn_nms]; exact g2.up.nd) w hw with z | z
    · exact .inl z
    · rw [sgn_nms] at z
      exact .inr z
/-! ### what is asked -/
/-- an entry: what the program made, and the law's model of it -/
def Ent (C : Addr) (H : Hp) (e : Addr) (n : Int) (ts : List Tm) (k : Str) : Prop := ∃ x m, H e = some (.tup [x, .ref m]) ∧ Opd C H x n ts k ∧ Mo H m n ts (some k)
theorem Opd.kp {C a : Addr} {H H' : Hp} {x : V} {n : Int} {ts : List Tm} {k : Str} {xs : List V} (h : Opd C H x n ts k) (q : Kp a H H') (ha : H a = some (.lst xs)) : Opd C H' x n ts k := by
  cases h with
  | form p n ts h => exact .form p n ts (h.kp q ha)
  | num n => exact .num n
theorem Ent.keep {C : Addr} {H H' : Hp} {e : Addr} {n : Int} {ts : List Tm} {k : Str} (h : Ent C H e n ts k) (s : Same H H') : Ent C H' e n ts k := by
  obtain ⟨x, m, h1, h2, h3⟩ := h
  exact ⟨x, m, s _ _ h1, h2.keep s, h3.keep s⟩
theorem Ent.kp {C a : Addr} {H H' : Hp} {e : Addr} {n : Int} {ts : List Tm} {k : Str} {xs : List V} (h : Ent C H e n ts k) (q : Kp a H H') (ha : H a = some (.lst xs)) : Ent C H' e n ts k := by
  obtain ⟨x, m, h1, h2, h3⟩ := h
  exact ⟨x, m, tup_kp q ha _ _ h1, h2.kp q ha, h3.kp q ha⟩
def AskedAt (C : Addr) (H : Hp) (xs : List V) : Due → Prop
  | .form n ts => ∃ e, xs = [.ref e] ∧ Ent C H e n ts "form"
  | _ => xs = []
abbrev sAsk : Stmt := top 39
theorem scAsk : FnScope ["_law_sign", "_law_one_here", "_law_two", "_law_due_here", "_law_tried_here"] ["_law_sign", "_law_one_here", "_law_two"] (defScope sAsk) := ⟨rfl, rfl, rfl, by decide +kernel, rfl, by decide +kernel, by decide +kernel⟩
def spAsk (C : Addr) : Sp := fun vs H Q _ => ∃ (sg : Str) (a b : Addr) (n1 n2 : Int) (ts us : List Tm) (k1 k2 : Str), vs = [.str sg, .ref a, .ref b] ∧ Ent C H a n1 ts k1 ∧ Ent C H b n2 us k2 ∧ Gd ts ∧ Gd us ∧ ts.length + us.length ≤ 45 ∧ Bd 9000 n1 ts ∧ Bd 9000 n2 us ∧ sg ∈ (["+", "-", "*", "<", ">", "=", "neg"] : List Str) ∧
  (k1 = "form" ∨ k2 = "form") ∧ (sg = "*" → ¬ (k1 = "form" ∧ k2 = "form")) ∧ (sg = "neg" → k1 = "form") ∧ ∀ l xs H', Same H H' → H' l = some (.lst xs) → AskedAt C H' xs (dueOf sg n1 ts k1 n2 us k2) → Q (.ref l) H'
theorem ok_ask {C CU CN : Addr} (D : Df K mg "_law_asked" sAsk ["_law_sign", "_law_one_here", "_law_two"]) (DD : Df K mg "_law_due" sDue ["_law_sign", "_law_one_here", "_law_two"]) (GD : FnOk P w K mg base CX0 2 DD.f DD.fd ["_law_sign", "_law_one_here", "_law_two"] spDue)
    (DT : Df K mg "_law_tried" sTri ["_law_sign", "_law_one_here", "_law_two"]) (GT : FnOk P w K mg base CX0 9 DT.f DT.fd ["_law_sign", "_law_one_here", "_law_two"] (spTri C CU CN)) (DM : Df K mg "_law_meets" sMts ["_law_tried_here", "_law_due_here"]) (GM : FnOk P w K mg base CX0 3 DM.f DM.fd ["_law_tried_here", "_law_due_here"] (spMts C)) :
    FnOk P w K mg base CX0 10 D.f D.fd ["_law_sign", "_law_one_here", "_law_two"] (spAsk C) := by
  refine D.fn.ok scAsk (fun vs H Q E h => ?_) (fun cdv A outer s0 H vs Q E hr h => ?_)
  · obtain ⟨sg, a, b, n1, n2, ts, us, k1, k2, rfl, _⟩ := h
    rfl
  · obtain ⟨sg, a, b, n1, n2, ts, us, k1, k2, rfl, ⟨x, m1, ha, ox, hm1⟩, ⟨y, m2, hb, oy, hm2⟩, g1, g2, hl, b1, b2, hsg, hform, hmul, hneg, k⟩ := h
    refine ⟨_, (pss_cons (ps_set (i := 3) scAsk.nd rfl (.inl rfl) (pe_call GD (hr.mono (by decide)) (by rfl) DD.mgf DD.fn.kp DD.bd .nil pass0 (pa_cons (pv 0) (pa_cons (pe_ix ix_tup (pv 1) pe_int (fun _ _ => rfl)) (pa_cons (pe_ix ix_tup (pv 2) pe_int (fun _ _ => rfl)) pa_nil)))))
      (pss_cons (ps_set (i := 4) scAsk.nd rfl (.inl rfl) (pe_call GT (hr.mono (by decide)) (by rfl) DT.mgf DT.fn.kp DT.bd .nil pass0 (pa_cons (pv 0) (pa_cons (pe_ix ix_tup (pv 1) pe_int (fun _ _ => rfl)) (pa_cons (pe_ix ix_tup (pv 2) pe_int (fun _ _ => rfl)) pa_nil)))))
      (pss_cons (ps_if (pt_not (pt_val (pe_call GM (hr.mono (by decide)) (by rfl) DM.mgf DM.fn.kp DM.bd .nil pass0 (pa_cons (pv 4) (pa_cons (pv 3) pa_nil)))))
      (pss_one (ps_never))
      pss_nil)
      (pss_cons (ps_if (pt_cmpR op_eq (pe_ix ix_tup (pv 3) pe_int (fun _ _ => rfl)) pe_str (nomark _))
      (pss_one (ps_ret (pe_lst (pa_cons (pe_tup (pa_cons (pe_ix ix_tup (pv 4) pe_int (fun _ _ => rfl)) (pa_cons (pe_tup (pa_cons (pe_ix ix_tup (pe_ix ix_tup (pv 3) pe_int (fun _ _ => rfl)) pe_int (fun _ _ => rfl)) (pa_cons (pe_ix ix_tup (pe_ix ix_tup (pv 3) pe_int (fun _ _ => rfl)) pe_int (fun _ _ => rfl)) (pa_cons pe_str pa_nil)))) pa_nil))) pa_nil))))
      pss_nil)
      (pss_one (ps_ret (pe_lst pa_nil))))))), ?_⟩
    refine ⟨_, rfl, _, rfl, a, _, 1, _, rfl, rfl, sql_ofT ha, rfl, _, rfl, b, _, 1, _, rfl, rfl, sql_ofT hb, rfl, sg, m1, m2, n1, n2, ts, us, k1, k2, rfl, hm1, hm2, b1, b2, by omega, fun t1 H1 s1 hd => ?_⟩
    refine ⟨_, rfl, _, rfl, a, _, 0, _, rfl, rfl, sql_ofT (s1 _ _ ha), rfl, _, rfl, b, _, 0, _, rfl, rfl, sql_ofT (s1 _ _ hb), rfl, sg, x, y, n1, n2, ts, us, k1, k2, rfl, ox.keep s1, oy.keep s1, g1, g2, hl, b1, b2, hsg, hform, hmul, hneg, fun t2 H2 s2 ht => ?_⟩
    have hk := due_dok (sg := sg) (n1 := n1) (n2 := n2) (k1 := k1) (k2 := k2) g1 g2 hl
    generalize dueOf sg n1 ts k1 n2 us k2 = due at hd ht hk k
    have s12 := s1.trans s2
    cases due with
    | told bb =>
      have e1' : H2 t1 = some (.tup [.str "told", .bl bb]) := s2 _ _ hd
      refine ⟨_, rfl, _, rfl, t2, t1, .told bb, rfl, ht, e1', hk, fun H3 s3' => ⟨true, rfl, iteF' rfl ?_⟩⟩
      have e1 := s3' _ _ e1'
      have s3 := s12.trans s3'
      refine ⟨_, rfl, t1, _, 0, _, rfl, rfl, sql_ofT e1, rfl, rfl, _, rfl, ?_⟩
      refine iteF' (by decide) ?_
      exact ⟨Nat.zero_le _, fun l nl => k l [] _ (s3.trans (same_upd nl)) upd_same rfl⟩
    | unl ww =>
      obtain ⟨l0, q0, z1, z2, z3⟩ := hd
      have e1' := s2 _ _ z1
      refine ⟨_, rfl, _, rfl, t2, t1, .unl ww, rfl, ht, ⟨l0, q0, e1', s2 _ _ z2, s2 _ _ z3⟩, hk, fun H3 s3' => ⟨true, rfl, iteF' rfl ?_⟩⟩
      have e1 := s3' _ _ e1'
      have s3 := s12.trans s3'
      refine ⟨_, rfl, t1, _, 0, _, rfl, rfl, sql_ofT e1, rfl, rfl, _, rfl, ?_⟩
      refine iteF' (by decide) ?_
      exact ⟨Nat.zero_le _, fun l nl => k l [] _ (s3.trans (same_upd nl)) upd_same rfl⟩
    | form n r =>
      obtain ⟨c, z1, hc⟩ := hd
      obtain ⟨p, z2, hp⟩ := id ht
      refine ⟨_, rfl, _, rfl, t2, t1, .form n r, rfl, ht, ⟨c, s2 _ _ z1, hc.keep s2⟩, hk, fun H3 s3' => ⟨true, rfl, iteF' rfl ?_⟩⟩
      have e1 := s3' _ _ (s2 _ _ z1)
      have e2 := s3' _ _ z2
      have s3 := s12.trans s3'
      obtain ⟨M, ⟨d, xs, y1, y2, y3, _, y4⟩, hM⟩ := hc.keep (s2.trans s3')
      refine ⟨_, rfl, t1, _, 0, _, rfl, rfl, sql_ofT e1, rfl, rfl, _, rfl, ?_⟩
      refine iteT' (by decide) ?_
      refine ⟨_, rfl, t2, _, 1, _, rfl, rfl, sql_ofT e2, rfl, _, rfl, t1, _, 1, _, rfl, rfl, sql_ofT e1, rfl, c, _, 0, _, rfl, rfl, sql_ofT y1, y2, _, rfl, t1, _, 1, _, rfl, rfl, sql_ofT e1, rfl, c, _, 1, _, rfl, rfl, sql_ofT y1, y3, (by show 3 ≤ sizeLine; decide), fun m nm => ⟨(by show 2 ≤ sizeLine; decide), fun e ne => ⟨(by show 1 ≤ sizeLine; decide), fun l nl => ?_⟩⟩⟩
      have u1 := same_upd (o := .tup [V.int n, V.ref d, V.str "form"]) nm
      have u2 := same_upd (o := .tup [V.ref p, V.ref m]) ne
      have u3 := same_upd (o := .lst [V.ref e]) nl
      refine k l [.ref e] _ (s3.trans ((u1.trans u2).trans u3)) upd_same ⟨e, rfl, .ref p, m, u3 _ _ upd_same, .form p n r ((hp.keep s3').keep ((u1.trans u2).trans u3)), M, ⟨d, _, (u2.trans u3) _ _ upd_same, rfl, rfl, fun s es => ?_, y4.keep ((u1.trans u2).trans u3)⟩, hM⟩
      cases es
      rfl
abbrev sPla : Stmt := top 40
theorem scPla : FnScope ["_law_number_here"] ["_law_number_here"] (defScope sPla) := ⟨rfl, rfl, rfl, by decide +kernel, rfl, by decide +kernel, by decide +kernel⟩
def spPla (C : Addr) : Sp := fun vs H Q _ => ∃ n : Int, vs = [.int n] ∧ ∀ e H', Same H H' → Ent C H' e n [] "number" → Q (.ref e) H'
theorem ok_pla {C : Addr} (D : Df K mg "_law_plain" sPla ["_law_number_here"]) : FnOk P w K mg base CX0 1 D.f D.fd ["_law_number_here"] (spPla C) := by
  refine D.fn.ok scPla (fun vs H Q E h => ?_) (fun cdv A outer s0 H vs Q E hr h => ?_)
  · obtain ⟨n, rfl, _⟩ := h
    rfl
  · obtain ⟨n, rfl, k⟩ := h
    refine ⟨_, (pss_one (ps_ret (pe_tup (pa_cons (pv 0) (pa_cons (pe_tup (pa_cons (pv 0) (pa_cons pe_dnewK (pa_cons pe_str pa_nil)))) pa_nil))))), ?_⟩
    refine ⟨_, rfl, _, rfl, fun d nd => ⟨(by show 3 ≤ sizeLine; decide), fun m nm => ⟨(by show 2 ≤ sizeLine; decide), fun e ne => ?_⟩⟩⟩
    have u1 := same_upd (o := .dK []) nd
    have u2 := same_upd (o := .tup [V.int n, V.ref d, V.str "number"]) nm
    have u3 := same_upd (o := .tup [V.int n, V.ref m]) ne
    refine k e _ ((u1.trans u2).trans u3) ⟨.int n, m, upd_same, .num n, [], ⟨d, _, u3 _ _ upd_same, rfl, rfl, fun s es => ?_, ⟨[], (u2.trans u3) _ _ upd_same, .nil⟩, List.nodup_nil, Nat.zero_le _⟩, srt_self (A := []) List.Pairwise.nil⟩
    cases es
    rfl
theorem atV_mem {α : Type} {l : List α} {i : Int} (h0 : 0 ≤ i) (h1 : i < l.length) : ∃ c ∈ l, atI l i = some c := by
  obtain ⟨j, rfl⟩ := Int.eq_ofNat_of_zero_le h0
  have hj : j < l.length := by omega
  exact ⟨l[j], List.getElem_mem hj, atI_nat (List.getElem?_eq_getElem hj)⟩
theorem atV_last {α : Type} {l : List α} (h : 0 < l.length) : ∃ c ∈ l, atI l (-1) = some c := by
  obtain ⟨ys, y, rfl⟩ : ∃ ys y, l = ys ++ [y] := ⟨l.dropLast, l.getLast (List.ne_nil_of_length_pos h), (List.dropLast_concat_getLast _).symm⟩
  exact ⟨y, by simp, atI_last ys y⟩
abbrev sPic : Stmt := top 41
theorem scPic : FnScope ["_law_source_here", "_law_pool"] ["_law_source_here", "_law_pool"] (defScope sPic) := ⟨rfl, rfl, rfl, by decide +kernel, rfl, by decide +kernel, by decide +kernel⟩
def spPic : Sp := fun vs H Q _ => ∃ (a c pl : Addr) (xs : List V), vs = [.ref a, .ref pl] ∧ Src H a c ∧ pl ≠ a ∧ H pl = some (.lst xs) ∧ 0 < xs.length ∧ xs.length ≤ 1000 ∧ ∀ x H', x ∈ xs → Kp a H H' → Src H' a c → Q x H'
theorem ok_pic (D : Df K mg "_law_pick" sPic ["_law_source_here", "_law_pool"]) (TT : Fk P w K mg base 2 "_law_take" sTake ["_law_source_here", "_law_many"] spTake) (ml : mg "len" = none) : FnOk P w K mg base CX0 3 D.f D.fd ["_law_source_here", "_law_pool"] spPic := by
  refine D.fn.ok scPic (fun vs H Q E h => ?_) (fun cdv A outer s0 H vs Q E hr h => ?_)
  · obtain ⟨a, c, pl, xs, rfl, _⟩ := h
    rfl
  · obtain ⟨a, c, pl, xs, rfl, sr, npl, hpl, hp, hz, k⟩ := h
    refine ⟨_, (pss_cons (ps_if (pt_cmpR op_eq (pe_call TT.G (hr.mono (by decide)) (by rfl) TT.D.mgf TT.D.fn.kp TT.D.bd .nil pass0 (pa_cons (pv 0) (pa_cons pe_int pa_nil))) pe_int (nomark _))
      (pss_one (ps_ret (pe_ix ix_list (pv 1) (pe_un un_neg pe_int) (fun _ _ => rfl))))
      pss_nil)
      (pss_one (ps_ret (pe_ix ix_list (pv 1) (pe_call TT.G (hr.mono (by decide)) (by rfl) TT.D.mgf TT.D.fn.kp TT.D.bd .nil pass0 (pa_cons (pv 0) (pa_cons (pe_callB call_len_seq (by rfl) ml PySem.boot_len (pa_cons (pv 1) pa_nil)) pa_nil))) (fun _ _ => rfl))))), ?_⟩
    refine ⟨_, rfl, a, c, 2, rfl, sr, by decide, by decide, fun t H1 _ _ kp1 sr1 => ⟨rfl, _, rfl, ite2 (fun _ => ?_) (fun _ => ?_)⟩⟩
    · obtain ⟨x, hx, ex⟩ := atV_last hp
      exact ⟨_, rfl, 1, rfl, pl, xs, -1, x, rfl, rfl, sql_of (kp1 _ _ hpl npl), ex, k x H1 hx kp1 sr1⟩
    · refine ⟨_, rfl, _, rfl, _, rfl, pl, xs, rfl, .inl (sql_of (kp1 _ _ hpl npl)), a, c, (xs.length : Nat), rfl, sr1, by omega, Nat.lt_of_le_of_lt (show _ ≤ 1000 by omega) (by decide), fun t2 H2 t0 t1 kp2 sr2 => ?_⟩
      obtain ⟨x, hx, ex⟩ := atV_mem (l := xs) t0 t1
      exact ⟨pl, xs, t2, x, rfl, rfl, sql_of (kp2 _ _ (kp1 _ _ hpl npl) npl), ex, k x H2 hx (kp1.trans kp2) sr2⟩
end
end DO

namespace DO
open PySem PySem.Spec PyProof.Rows L2
section
variable {P : Program} {w : World} {K : PySem.W.Frag} {mg : Str → Option Value} {base : Heap}
/-! ### one measure -/
structure Msr (P : Program) (w : World) (K : PySem.W.Frag) (mg : Str → Option Value) (base : Heap) (C CB CE : Addr) where
  f : Addr
  fd : FuncData
  mgf : mg "measured" = some (.ref f)
  fn : Fun K "measured" "measured" sMea f fd
  kb : KBn K fd ["name", "low", "high"] 1 ["low", "high"] (fun us ws => us ++ ws) (fun vs zs => vs ++ zs)
  G : FnOk P w K mg base (L2N.CX P w) 5 f fd ["name", "low", "high"] (spMea C CB CE)
theorem passZ {X : Cx} : Passes (L2N.CX X.prog X.w) X E0 := fun pins σ H s e s' I c => L2N.passAt takes0N σ pins H s e s' I c
theorem Nm.ok {ds : List Nat} (h : Nm ds) : okNm ds = true := by
  obtain ⟨⟨c, r, rfl, h1, h2⟩, hl, hf⟩ := h
  unfold okNm
  rw [isNm_cons]
  have e3 : ((c :: r).all fun x => decide (x ∈ azn.cps.toList)) = true := List.all_eq_true.mpr fun x hx => by
    rcases List.mem_cons.mp hx with z | z
    · rw [z]
      exact decide_eq_true (az_sub _ h1)
    · exact decide_eq_true (h2 x z)
  rw [e3, decide_eq_true hl, decide_eq_true h1, decide_eq_false hf]
  rfl
theorem azn_small : ∀ c ∈ azn.cps.toList, c < 0x110000 := by decide +kernel
theorem Nm.st {ds : List Nat} (h : Nm ds) : PyData.strOk (tx ds) = true := by
  unfold PyData.strOk
  rw [← Array.all_toList, tx_list]
  exact List.all_eq_true.mpr fun x hx => decide_eq_true (azn_small x (h.wd.all x hx))
theorem Gd.one {w : Str} {lo hi : Int} (h : PyData.strOk w = true) (hl : lo ≤ hi) : Gd [⟨w, 1, lo, hi⟩] := by
  refine ⟨?_, fun x hx => ?_, fun x hx => ?_, fun x hx => ?_, (by show (1 : Nat) ≤ 45; decide)⟩
  · exact List.pairwise_singleton _ _
  all_goals obtain rfl := List.mem_singleton.mp hx
  · show (1 : Int) ≠ 0
    decide
  · exact hl
  · exact h
abbrev sOne : Stmt := top 43
theorem scOne : FnScope ["_law_word_here", "_law_ends_here"] ["_law_word_here", "_law_ends_here"] (defScope sOne) := ⟨rfl, rfl, rfl, by decide +kernel, rfl, by decide +kernel, by decide +kernel⟩
def spOne (C : Addr) : Sp := fun vs H Q _ => ∃ (ds : List Nat) (t : Addr) (lo hi : Int), vs = [.str (tx ds), .ref t] ∧ Nm ds ∧ H t = some (.tup [.int lo, .int hi]) ∧ lo ≤ hi ∧ ∀ e H', Same H H' → Ent C H' e 0 [⟨tx ds, 1, lo, hi⟩] "form" → Q (.ref e) H'
theorem ok_one {C CB CE : Addr} (D : Df K mg "_law_one" sOne ["_law_word_here", "_law_ends_here"]) (MS : Msr P w K mg base C CB CE) : FnOk P w K mg base CX0 6 D.f D.fd ["_law_word_here", "_law_ends_here"] (spOne C) := by
  refine D.fn.ok scOne (fun vs H Q E h => ?_) (fun cdv A outer s0 H vs Q E hr h => ?_)
  · obtain ⟨ds, t, lo, hi, rfl, _⟩ := h
    rfl
  · obtain ⟨ds, t, lo, hi, rfl, hn, ht, hle, k⟩ := h
    have hu := hu_of hr
    refine ⟨_, (pss_one (ps_ret (pe_tup (pa_cons (pe_callN MS.G (hr.mono (by decide)) (by rfl) MS.mgf MS.fn.kp MS.kb passZ (pa_cons (pv 0) pa_nil) (pk_cons (pe_ix ix_tup (pv 1) pe_int (fun _ _ => rfl)) (pk_cons (pe_ix ix_tup (pv 1) pe_int (fun _ _ => rfl)) pk_nil))) (pa_cons (pe_tup (pa_cons pe_int (pa_cons (pe_disp (pps_cons (pv 0) (pe_tup (pa_cons pe_int (pa_cons (pe_ix ix_tup (pv 1) pe_int (fun _ _ => rfl)) (pa_cons (pe_ix ix_tup (pv 1) pe_int (fun _ _ => rfl)) pa_nil)))) pps_nil) (by rfl) (by rfl) (fun z => by cases z) (by decide)) (pa_cons pe_str pa_nil)))) pa_nil))))), ?_⟩
    refine ⟨_, rfl, _, rfl, t, _, 0, _, rfl, rfl, sql_ofT ht, rfl, _, rfl, t, _, 1, _, rfl, rfl, sql_ofT ht, rfl, rfl, rfl, ds, lo, hi, rfl, Nat.le_trans hn.len (by decide), fun z => ?_, fun _ z => ?_, fun _ _ r H1 nr s1 hf => ?_⟩
    · rw [hn.ok] at z
      cases z
    · omega
    have ht1 := s1 _ _ ht
    intro d nd
    have u1 := same_upd (o := .dK []) nd
    have ht2 := u1 _ _ ht1
    refine ⟨_, rfl, _, rfl, t, _, 0, _, rfl, rfl, sql_ofT ht2, rfl, _, rfl, t, _, 1, _, rfl, rfl, sql_ofT ht2, rfl, (by show 3 ≤ sizeLine; decide), fun q nq => ⟨same_upd nq _ _ upd_same, [(Sum.inr (tx ds), .ref q)], rfl, (by show (1 : Nat) ≤ 15; decide), (by show 3 ≤ sizeLine; decide), fun m nm => ⟨(by show 2 ≤ sizeLine; decide), fun e ne => ?_⟩⟩⟩
    have u2 := same_upd (o := .tup [V.int 1, V.int lo, V.int hi]) nq
    have u3 : Same H1 (upd (upd (upd H1 d (.dK [])) q (.tup [V.int 1, V.int lo, V.int hi])) d (.dK (mergeK [] [(Sum.inr (tx ds), V.ref q)]))) := fun b o eb => by
      rw [upd_ne (ne_of_none eb nd)]
      exact u2 _ _ (u1 _ _ eb)
    have u4 := same_upd (o := .tup [V.int 0, V.ref d, V.str "form"]) nm
    have u5 := same_upd (o := .tup [V.ref r, V.ref m]) ne
    have u45 := u4.trans u5
    have hq : (upd (upd (upd H1 d (.dK [])) q (.tup [V.int 1, V.int lo, V.int hi])) d (.dK (mergeK [] [(Sum.inr (tx ds), V.ref q)]))) q = some (.tup [V.int 1, V.int lo, V.int hi]) := by
      have : q ≠ d := (ne_of_none (upd_same (H := H1) (a := d) (o := .dK [])) nq).symm
      rw [upd_ne this]
      exact upd_same
    refine k e _ ((s1.trans u3).trans u45) ⟨.ref r, m, upd_same, .form r 0 _ ((hf.keep u3).keep u45), [⟨tx ds, 1, lo, hi⟩], ⟨d, _, u5 _ _ upd_same, rfl, rfl, fun s es => ?_, ⟨_, u45 _ _ upd_same, .cons ⟨tx ds, 1, lo, hi⟩ q (u45 _ _ hq) .nil⟩, ?_, (by show (1 : Nat) ≤ 100; decide)⟩, srt_self (List.pairwise_singleton _ _)⟩
    · cases es
      rfl
    · exact List.pairwise_singleton _ _
/-! ### all signs -/
abbrev sAll : Stmt := top 44
theorem scAll : FnScope ["_law_one_here", "_law_two", "_law_sign"] ["_law_one_here", "_law_two"] (defScope sAll) := ⟨rfl, rfl, rfl, by decide +kernel, rfl, by decide +kernel, by decide +kernel⟩
def SG5 : List V := [.str "+", .str "-", .str "<", .str ">", .str "="]
theorem sg5 {x : V} (h : x ∈ SG5) : ∃ sg : Str, x = .str sg ∧ sg ∈ (["+", "-", "*", "<", ">", "=", "neg"] : List Str) ∧ sg ≠ "*" ∧ sg ≠ "neg" := by
  unfold SG5 at h
  simp only [List.mem_cons, List.not_mem_nil, or_false] at h
  rcases h with rfl | rfl | rfl | rfl | rfl
  all_goals exact ⟨_, rfl, by decide, by decide, by decide⟩
def spAll (C : Addr) : Sp := fun vs H Q _ => ∃ (a b : Addr) (n1 n2 : Int) (ts us : List Tm) (k1 k2 : Str), vs = [.ref a, .ref b] ∧ Ent C H a n1 ts k1 ∧ Ent C H b n2 us k2 ∧ Gd ts ∧ Gd us ∧ ts.length + us.length ≤ 45 ∧ Bd 9000 n1 ts ∧ Bd 9000 n2 us ∧ (k1 = "form" ∨ k2 = "form") ∧ ∀ H', Same H H' → Q (.bl true) H'
theorem ok_all {C : Addr} (D : Df K mg "_law_all_signs" sAll ["_law_one_here", "_law_two"]) (AK : Fk P w K mg base 10 "_law_asked" sAsk ["_law_sign", "_law_one_here", "_law_two"] (spAsk C)) : FnOk P w K mg base CX0 11 D.f D.fd ["_law_one_here", "_law_two"] (spAll C) := by
  refine D.fn.ok scAll (fun vs H Q E h => ?_) (fun cdv A outer s0 H vs Q E hr h => ?_)
  · obtain ⟨a, b, n1, n2, ts, us, k1, k2, rfl, _⟩ := h
    rfl
  · obtain ⟨a, b, n1, n2, ts, us, k1, k2, rfl, ha, hb, g1, g2, hl, b1, b2, hk, k⟩ := h
    refine ⟨_, (pss_cons (ps_for PassesOwn.never rfl (pi_list (pe_lst (pa_cons pe_str (pa_cons pe_str (pa_cons pe_str (pa_cons pe_str (pa_cons pe_str pa_nil))))))) (pg_name (i := 2) scAll.nd rfl (Or.inl rfl))
      (pss_one (ps_if (PW.pt (pw_or (pt_cmp (pc_isN (pe_call AK.G (hr.mono (by decide)) (by rfl) AK.D.mgf AK.D.fn.kp AK.D.bd .nil pass0 (pa_cons (pv 2) (pa_cons (pv 0) (pa_cons (pv 1) pa_nil)))))) (pw_or1 (pt_cmp (pc_isN (pe_call AK.G (hr.mono (by decide)) (by rfl) AK.D.mgf AK.D.fn.kp AK.D.bd .nil pass0 (pa_cons (pv 2) (pa_cons (pv 1) (pa_cons (pv 0) pa_nil)))))))))
      (pss_one (ps_never))
      pss_nil)))
      (pss_one (ps_ret pe_bl))), ?_⟩
    refine ⟨(by show 5 ≤ sizeLine; decide), fun l nl => ⟨l, rfl, ⟨SG5, sql_of upd_same⟩, for_list (K := K) (a := l) (xs := SG5) (fun i σ H2 => ∃ x : Option V, σ = [some (.ref a), some (.ref b), x] ∧ Same (upd H l (.lst SG5)) H2) ⟨none, rfl, fun _ _ z => z⟩ (fun i σ H2 _ ⟨_, _, z⟩ => sql_of (z _ _ upd_same)) ?_ ?_⟩⟩
    · rintro i y σ H2 hi ⟨x, rfl, s2⟩
      obtain ⟨sg, rfl, hsg, hm, hn⟩ := sg5 (List.mem_of_getElem? hi)
      have s02 := (same_upd (o := .lst SG5) nl).trans s2
      refine ⟨_, rfl, _, rfl, _, rfl, sg, a, b, n1, n2, ts, us, k1, k2, rfl, ha.keep s02, hb.keep s02, g1, g2, hl, b1, b2, hsg, hk, fun z => absurd z hm, fun z => absurd z hn, fun l1 xs1 H3 s3 _ _ => ⟨false, rfl, iteF' rfl ?_⟩⟩
      refine ⟨_, rfl, _, rfl, _, rfl, sg, b, a, n2, n1, us, ts, k2, k1, rfl, (hb.keep s02).keep s3, (ha.keep s02).keep s3, g2, g1, by omega, b2, b1, hsg, hk.symm, fun z => absurd z hm, fun z => absurd z hn, fun l2 xs2 H4 s4 _ _ => ⟨false, rfl, iteF' rfl ?_⟩⟩
      exact ⟨_, rfl, s2.trans (s3.trans s4)⟩
    · rintro σ H2 ⟨x, rfl, s2⟩
      exact k H2 ((same_upd nl).trans s2)
/-! ### an operation -/
theorem nd_len {α : Type} [DecidableEq α] : ∀ {l m : List α}, l.Nodup → (∀ x ∈ l, x ∈ m) → l.length ≤ m.length
  | [], _, _, _ => Nat.zero_le _
  | x :: r, m, h, k => by
    obtain ⟨h1, h2⟩ := List.nodup_cons.mp h
    have hx := k x List.mem_cons_self
    have := nd_len (m := m.erase x) h2 fun y hy => (List.mem_erase_of_ne (fun e : y = x => h1 (e ▸ hy))).mpr (k y (List.mem_cons_of_mem _ hy))
    rw [List.length_erase_of_mem hx] at this
    have hp : 0 < m.length := List.length_pos_of_mem hx
    rw [List.length_cons]
    omega
def In (NS : List Str) (ts : List Tm) : Prop := ∀ w ∈ nms ts, w ∈ NS
theorem In.len {NS : List Str} {ts : List Tm} (h : In NS ts) (g : Gd ts) (hl : NS.length ≤ 10) : ts.length ≤ 10 := by
  have := nd_len g.up.nd h
  unfold nms at this
  rw [List.length_map] at this
  omega
/-- a good form of the pool -/
def EOk (C : Addr) (H : Hp) (NS : List Str) (B : Nat) (x : V) : Prop := ∃ e n ts, x = .ref e ∧ Ent C H e n ts "form" ∧ Gd ts ∧ Bd B n ts ∧ In NS ts
theorem EOk.kp {C a : Addr} {H H' : Hp} {NS : List Str} {B : Nat} {x : V} {xs : List V} (h : EOk C H NS B x) (q : Kp a H H') (ha : H a = some (.lst xs)) : EOk C H' NS B x := by
  obtain ⟨e, n, ts, h1, h2, h3⟩ := h
  exact ⟨e, n, ts, h1, h2.kp q ha, h3⟩
theorem EOk.keep {C : Addr} {H H' : Hp} {NS : List Str} {B : Nat} {x : V} (h : EOk C H NS B x) (q : Same H H') : EOk C H' NS B x := by
  obtain ⟨e, n, ts, h1, h2, h3⟩ := h
  exact ⟨e, n, ts, h1, h2.keep q, h3⟩
theorem EOk.mono {C : Addr} {H : Hp} {NS : List Str} {B B' : Nat} {x : V} (h : EOk C H NS B x) (q : B ≤ B') : EOk C H NS B' x := by
  obtain ⟨e, n, ts, h1, h2, h3, h4, h5⟩ := h
  exact ⟨e, n, ts, h1, h2, h3, h4.mono q, h5⟩
theorem Src.at_ {H : Hp} {a c : Addr} (h : Src H a c) : ∃ xs, H a = some (.lst xs) := by
  obtain ⟨a0, a1, ns, h1, _⟩ := h
  exact ⟨_, h1⟩
def SG9 : List V := [.str "+", .str "-", .str "+", .str "-", .str "*", .str "<", .str ">", .str "=", .str "neg"]
theorem sg9 {x : V} (h : x ∈ SG9) : ∃ sg : Str, x = .str sg ∧ sg ∈ (["+", "-", "*", "<", ">", "=", "neg"] : List Str) := by
  unfold SG9 at h
  simp only [List.mem_cons, List.not_mem_nil, or_false] at h
  rcases h with rfl | rfl | rfl | rfl | rfl | rfl | rfl | rfl | rfl
  all_goals exact ⟨_, rfl, by decide⟩
abbrev sOpe : Stmt := top 42
theorem scOpe : FnScope ["_law_source_here", "_law_pool", "_law_one_here", "_law_two", "_law_sign", "_law_shape", "_law_number_here"] ["_law_source_here", "_law_pool"] (defScope sOpe) := ⟨rfl, rfl, rfl, by decide +kernel, rfl, by decide +kernel, by decide +kernel⟩
def spOpe (C : Addr) : Sp := fun vs H Q _ => ∃ (a c pl : Addr) (xs : List V) (NS : List Str) (B : Nat), vs = [.ref a, .ref pl] ∧ Src H a c ∧ pl ≠ a ∧ H pl = some (.lst xs) ∧ 0 < xs.length ∧ xs.length ≤ 1000 ∧ NS.length ≤ 10 ∧ (∀ x ∈ xs, EOk C H NS B x) ∧ 200 ≤ B ∧ B ≤ 8000 ∧
  ∀ l ys H', Kp a H H' → Src H' a c → H' l = some (.lst ys) → ys.length ≤ 1 → (∀ y ∈ ys, EOk C H' NS (B + 200) y) → Q (.ref l) H'
theorem ok_ope {C : Addr} (D : Df K mg "_law_operation" sOpe ["_law_source_here", "_law_pool"]) (TT : Fk P w K mg base 2 "_law_take" sTake ["_law_source_here", "_law_many"] spTake) (PK : Fk P w K mg base 3 "_law_pick" sPic ["_law_source_here", "_law_pool"] spPic) (NU : Fk P w K mg base 3 "_law_number" sNumber ["_law_source_here"] spNumber) (PL : Fk P w K mg base 1 "_law_plain" sPla ["_law_number_here"] (spPla C)) (AK : Fk P w K mg base 10 "_law_asked" sAsk ["_law_sign", "_law_one_here", "_law_two"] (spAsk C)) : FnOk P w K mg base CX0 11 D.f D.fd ["_law_source_here", "_law_pool"] (spOpe C) := by
  refine D.fn.ok scOpe (fun vs H Q E h => ?_) (fun cdv A outer s0 H vs Q E hr h => ?_)
  · obtain ⟨a, c, pl, xs, NS, B, rfl, _⟩ := h
    rfl
  · obtain ⟨a, c, pl, xs, NS, B, rfl, sr, npl, hpl, hp, hz, hns, hx, hB, hB2, k⟩ := h
    refine ⟨_, (pss_cons (ps_set (i := 2) scOpe.nd rfl (.inl rfl) (pe_call PK.G (hr.mono (by decide)) (by rfl) PK.D.mgf PK.D.fn.kp PK.D.bd .nil pass0 (pa_cons (pv 0) (pa_cons (pv 1) pa_nil)))) (pss_cons (ps_set (i := 3) scOpe.nd rfl (.inl rfl) (pe_call PK.G (hr.mono (by decide)) (by rfl) PK.D.mgf PK.D.fn.kp PK.D.bd .nil pass0 (pa_cons (pv 0) (pa_cons (pv 1) pa_nil)))) (pss_cons (ps_set (i := 4) scOpe.nd rfl (.inl rfl) (pe_ix ix_list (pe_lst (pa_cons pe_str (pa_cons pe_str (pa_cons pe_str (pa_cons pe_str (pa_cons pe_str (pa_cons pe_str (pa_cons pe_str (pa_cons pe_str (pa_cons pe_str pa_nil)))))))))) (pe_call TT.G (hr.mono (by decide)) (by rfl) TT.D.mgf TT.D.fn.kp TT.D.bd .nil pass0 (pa_cons (pv 0) (pa_cons pe_int pa_nil))) (fun _ _ => rfl))) (pss_cons (ps_set (i := 5) scOpe.nd rfl (.inl rfl) (pe_call TT.G (hr.mono (by decide)) (by rfl) TT.D.mgf TT.D.fn.kp TT.D.bd .nil pass0 (pa_cons (pv 0) (pa_cons pe_int pa_nil)))) (pss_cons (ps_set (i := 6) scOpe.nd rfl (.inl rfl) (pe_call PL.G (hr.mono (by decide)) (by rfl) PL.D.mgf PL.D.fn.kp PL.D.bd .nil pass0 (pa_cons (pe_call NU.G (hr.mono (by decide)) (by rfl) NU.D.mgf NU.D.fn.kp NU.D.bd .nil pass0 (pa_cons (pv 0) pa_nil)) pa_nil))) (C8.pss_cut (ps_if (PW.pt (pw_or (pt_cmpR op_eq (pv 5) pe_int (nomark _)) (pw_or1 (PW.pt (pw_and (pt_cmpR op_lt (pv 5) pe_int (nomark _)) (pw_and1 (pt_cmpR op_eq (pv 4) pe_str (nomark _))))))))
      (pss_one (ps_set (i := 3) scOpe.nd rfl (.inl rfl) (pv 6)))
      (pss_one (ps_if (PW.pt (pw_and (pt_cmpR op_eq (pv 5) pe_int (nomark _)) (pw_and1 (pt_cmpR op_ne (pv 4) pe_str (nomark _)))))
      (pss_one (ps_set (i := 2) scOpe.nd rfl (.inl rfl) (pv 6)))
      pss_nil))) (pss_one (ps_ret (pe_call AK.G (hr.mono (by decide)) (by rfl) AK.D.mgf AK.D.fn.kp AK.D.bd .nil pass0 (pa_cons (pv 4) (pa_cons (pv 2) (pa_cons (pv 3) pa_nil)))))))))))), ?_⟩
    refine ⟨_, rfl, _, rfl, a, c, pl, xs, rfl, sr, npl, hpl, hp, hz, fun v1 H1 hv1 kp1 sr1 => ?_⟩
    refine ⟨_, rfl, _, rfl, a, c, pl, xs, rfl, sr1, npl, kp1 _ _ hpl npl, hp, hz, fun v2 H2 hv2 kp2 sr2 => ?_⟩
    have kp02 := kp1.trans kp2
    obtain ⟨_, hsa⟩ := sr.at_
    obtain ⟨e1, n1, ts, rfl, y1, g1, b1, i1⟩ := (hx _ hv1).kp kp02 hsa
    obtain ⟨e2, n2, us, rfl, y2, g2, b2, i2⟩ := (hx _ hv2).kp kp02 hsa
    refine ⟨(by show 9 ≤ sizeLine; decide), fun l nl => ?_⟩
    have sr3 := sr2.of_same (same_upd (o := .lst SG9) nl)
    obtain ⟨_, hs2⟩ := sr2.at_
    have nla : l ≠ a := (ne_of_none hs2 nl).symm
    refine ⟨_, rfl, a, c, 9, rfl, sr3, by decide, by decide, fun t H3 t0 t1 kp3 sr4 => ?_⟩
    obtain ⟨x, hxm, hxe⟩ := atV_mem (l := SG9) t0 t1
    obtain ⟨sg, rfl, hsg⟩ := sg9 hxm
    refine ⟨l, SG9, t, _, rfl, rfl, sql_of (kp3 _ _ upd_same nla), hxe, ?_⟩
    refine ⟨_, rfl, a, c, 4, rfl, sr4, by decide, by decide, fun sh H4 sh0 sh1 kp4 sr5 => ?_⟩
    refine ⟨_, rfl, a, c, rfl, sr5, fun z H5 hz5 kp5 sr6 => ⟨z, rfl, fun e3 H6 s6 y3 => ?_⟩⟩
    have kp26 : Kp a H2 H6 := ((((Kp.same (same_upd nl)).trans kp3).trans kp4).trans kp5).trans (Kp.same s6)
    have sr7 := sr6.of_same s6
    have kp06 := kp02.trans kp26
    have y1' := y1.kp kp26 hs2
    have y2' := y2.kp kp26 hs2
    have bz : Bd B z [] := ⟨lt_pow hz5 hB, fun x hx => by simp at hx⟩
    have iz : In NS [] := fun w hw => by simp [nms] at hw
    refine ⟨fun σ' H' => H' = H6 ∧ ∃ f1 f2 m1 m2 rs vs q1 q2, σ' = [some (.ref a), some (.ref pl), some (.ref f1), some (.ref f2), some (.str sg), some (.int sh), some (.ref e3)] ∧ Ent C H6 f1 m1 rs q1 ∧ Ent C H6 f2 m2 vs q2 ∧ Gd rs ∧ Gd vs ∧ Bd B m1 rs ∧ Bd B m2 vs ∧ In NS rs ∧ In NS vs ∧ (q1 = "form" ∨ q2 = "form") ∧ (sg = "*" → ¬ (q1 = "form" ∧ q2 = "form")) ∧ (sg = "neg" → q1 = "form") ∧ (sg = Str.ofString "*" → (q1 = Str.ofString "form" → m2.natAbs < 2 ^ 200) ∧ (¬ q1 = Str.ofString "form" → m1.natAbs < 2 ^ 200)), ?_, ?_⟩
    · have fn : H6 = H6 ∧ ∃ f1 f2 m1 m2 rs vs q1 q2, ([some (.ref a), some (.ref pl), some (.ref e1), some (.ref e3), some (.str sg), some (.int sh), some (.ref e3)] : List (Option V)) = [some (.ref a), some (.ref pl), some (.ref f1), some (.ref f2), some (.str sg), some (.int sh), some (.ref e3)] ∧ Ent C H6 f1 m1 rs q1 ∧ Ent C H6 f2 m2 vs q2 ∧ Gd rs ∧ Gd vs ∧ Bd B m1 rs ∧ Bd B m2 vs ∧ In NS rs ∧ In NS vs ∧ (q1 = "form" ∨ q2 = "form") ∧ (sg = "*" → ¬ (q1 = "form" ∧ q2 = "form")) ∧ (sg = "neg" → q1 = "form") ∧ (sg = Str.ofString "*" → (q1 = Str.ofString "form" → m2.natAbs < 2 ^ 200) ∧ (¬ q1 = Str.ofString "form" → m1.natAbs < 2 ^ 200)) :=
        ⟨rfl, e1, e3, n1, z, ts, [], "form", "number", rfl, y1', y3, g1, .nil, b1, bz, i1, iz, .inl rfl, fun _ w => absurd w.2 (by decide), fun _ => rfl, fun _ => ⟨fun _ => hz5, fun w => absurd rfl w⟩⟩
      refine ⟨_, rfl, rfl, _, rfl, ite2 (fun _ => ⟨_, rfl, fn⟩) (fun c1 => ?_)⟩
      refine ⟨_, rfl, _, _, rfl, rfl, _, rfl, ite2 (fun c2 => ?_) (fun c2 => ?_)⟩
      · refine ⟨_, rfl, rfl, _, rfl, ite2 (fun _ => ⟨_, rfl, fn⟩) (fun c3 => ?_)⟩
        have q3 := kN c3
        refine ⟨_, rfl, rfl, _, rfl, ite2 (fun c4 => ?_) (fun c4 => ?_)⟩
        · exfalso
          have h2 : sh < 2 := of_decide_eq_true c2
          have h3 := V.int.inj (of_decide_eq_true c4)
          omega
        · exact ⟨rfl, e1, e2, n1, n2, ts, us, "form", "form", rfl, y1', y2', g1, g2, b1, b2, i1, i2, .inl rfl, fun w => absurd w q3, fun _ => rfl, fun w => absurd w q3⟩
      · refine ⟨_, rfl, rfl, _, rfl, ite2 (fun c4 => ?_) (fun c4 => ?_)⟩
        · refine ⟨_, rfl, rfl, _, rfl, ite2 (fun c5 => ?_) (fun c5 => ?_)⟩
          · have q5 : ¬ sg = "neg" := fun w => by
              rw [w] at c5
              exact absurd c5 (by decide)
            exact ⟨_, rfl, rfl, e3, e2, z, n2, [], us, "number", "form", rfl, y3, y2', .nil, g2, bz, b2, iz, i2, .inr rfl, fun _ w => absurd w.1 (by decide), fun w => absurd w q5, fun _ => ⟨fun w => absurd w (by decide), fun _ => hz5⟩⟩
          · have q5 : sg = Str.ofString "neg" := by
              by_cases w : sg = Str.ofString "neg"
              · exact w
              · refine absurd ?_ c5
                show (!decide (V.str sg = V.str (Str.ofString "neg"))) = true
                rw [decide_eq_false (fun e => w (V.str.inj e))]
                rfl
            exact ⟨rfl, e1, e2, n1, n2, ts, us, "form", "form", rfl, y1', y2', g1, g2, b1, b2, i1, i2, .inl rfl, fun w => by rw [q5] at w; exact absurd w (by decide), fun _ => rfl, fun w => by rw [q5] at w; exact absurd w (by decide)⟩
        · have q4 : ¬ sh = 3 := fun e => c4 (by rw [e]; rfl)
          have q1 : ¬ sh = 2 := fun e => c1 (by rw [e]; rfl)
          have q2 : ¬ sh < 2 := fun e => c2 (decide_eq_true e)
          exfalso
          omega
    · rintro σ' H' ⟨rfl, f1, f2, m1, m2, rs, ws, q1, q2, rfl, z1, z2, gr, gw, br, bw, ir, iw, hk, hm, hn, hmb⟩
      have lr := ir.len gr hns
      have lw := iw.len gw hns
      refine ⟨_, rfl, _, rfl, _, rfl, sg, f1, f2, m1, m2, rs, ws, q1, q2, rfl, z1, z2, gr, gw, by omega, br.mono (by omega), bw.mono (by omega), hsg, hk, hm, hn, fun l2 ys H7 s7 hl2 ha => ?_⟩
      have sr8 := sr7.of_same s7
      have kp7 := kp06.trans (Kp.same s7)
      generalize hd : dueOf sg m1 rs q1 m2 ws q2 = due at ha
      cases due with
      | told b =>
        have e : ys = [] := ha
        subst e
        exact k l2 [] H7 kp7 sr8 hl2 (Nat.zero_le _) fun y hy => by simp at hy
      | unl b =>
        have e : ys = [] := ha
        subst e
        exact k l2 [] H7 kp7 sr8 hl2 (Nat.zero_le _) fun y hy => by simp at hy
      | form n r =>
        obtain ⟨e, rfl, he⟩ := ha
        obtain ⟨w1, w2, w3⟩ := due_form gr gw (by omega) hd
        refine k l2 [.ref e] H7 kp7 sr8 hl2 (Nat.le_refl _) fun y hy => ?_
        obtain rfl := List.mem_singleton.mp hy
        exact ⟨e, n, r, rfl, he, w1, w3 B 200 br bw (by decide) hmb, fun w hw => (w2 w hw).elim (ir w) (iw w)⟩
end
end DO

namespace DO
open PySem PySem.Spec PyProof.Rows L2
section
variable {P : Program} {w : World} {K : PySem.W.Frag} {mg : Str → Option Value} {base : Heap}
/-! ### near one another -/
theorem Opd.formE {C : Addr} {H : Hp} {x : V} {n : Int} {ts : List Tm} {k : Str} (h : Opd C H x n ts k) (e : k = "form") : ∃ p, x = .ref p ∧ FormAt C H p n ts := by
  cases h with
  | form p n ts h => exact ⟨p, rfl, h⟩
  | num n => exact absurd e (by decide)
theorem Ent.formE {C : Addr} {H : Hp} {e : Addr} {n : Int} {ts : List Tm} (h : Ent C H e n ts "form") : ∃ p m, H e = some (.tup [.ref p, .ref m]) ∧ FormAt C H p n ts ∧ Mo H m n ts (some "form") := by
  obtain ⟨x, m, h1, h2, h3⟩ := h
  obtain ⟨p, rfl, h4⟩ := h2.formE rfl
  exact ⟨p, m, h1, h4, h3⟩
theorem sum_lt {f : Tm → Int} {B : Nat} : ∀ ts : List Tm, (∀ x ∈ ts, (f x).natAbs < 2 ^ B) → ((ts.map f).sum).natAbs ≤ ts.length * 2 ^ B
  | [], _ => Nat.zero_le _
  | x :: r, h => by
    have h1 := h x List.mem_cons_self
    have h2 := sum_lt r fun y hy => h y (List.mem_cons_of_mem _ hy)
    rw [List.map_cons, List.sum_cons, List.length_cons, Nat.succ_mul]
    generalize (2 : Nat) ^ B = z at h1 h2 ⊢
    generalize r.length * z = q at h2 ⊢
    omega
theorem end_bd {f : Tm → Int} {B : Nat} {n : Int} {ts : List Tm} (h : Bd B n ts) (hl : ts.length ≤ 45) (hf : ∀ x ∈ ts, (f x).natAbs < 2 ^ (2 * B)) : (n + (ts.map f).sum).natAbs < 2 ^ (2 * B + 8) := by
  have h1 := sum_lt ts hf
  have h2 : n.natAbs < 2 ^ (2 * B) := lt_pow h.1 (by omega)
  have h3 : ts.length * 2 ^ (2 * B) ≤ 45 * 2 ^ (2 * B) := Nat.mul_le_mul_right _ hl
  rw [Nat.pow_add]
  generalize (2 : Nat) ^ (2 * B) = z at h1 h2 h3 ⊢
  have : (2 : Nat) ^ 8 = 256 := by decide
  omega
theorem mnT_bd {B : Nat} {n : Int} {ts : List Tm} (h : Bd B n ts) : ∀ x ∈ ts, (mnT x).natAbs < 2 ^ (2 * B) := fun x hx => by
  obtain ⟨h1, h2, h3⟩ := h.2 x hx
  unfold mnT
  rw [show 2 * B = B + B by omega]
  split
  · exact mul_pow h1 h2
  · exact mul_pow h1 h3
theorem mxT_bd {B : Nat} {n : Int} {ts : List Tm} (h : Bd B n ts) : ∀ x ∈ ts, (mxT x).natAbs < 2 ^ (2 * B) := fun x hx => by
  obtain ⟨h1, h2, h3⟩ := h.2 x hx
  unfold mxT
  rw [show 2 * B = B + B by omega]
  split
  · exact mul_pow h1 h3
  · exact mul_pow h1 h2
theorem due_mul {n1 n2 : Int} {ts us : List Tm} {k2 : Str} : dueOf (Str.ofString "*") n1 ts (Str.ofString "form") n2 us k2 = .form (n1 * n2) (mulT n2 ts) := by
  unfold dueOf
  rw [if_neg (by decide), if_pos rfl, if_pos rfl]
theorem due_mul2 {n1 n2 : Int} {ts us : List Tm} {k1 k2 : Str} (h : ¬ k1 = Str.ofString "form") : dueOf (Str.ofString "*") n1 ts k1 n2 us k2 = .form (n2 * n1) (mulT n1 us) := by
  unfold dueOf
  rw [if_neg (by decide), if_pos rfl, if_neg h]
theorem unl_add {ts us : List Tm} (h : (nms ts).Nodup) (h' : (nms us).Nodup) : unl (addS ts us) us = none := unl_of fun u hu t ht => by
  rw [addS_get h h', getT_mem h' hu] at ht
  obtain ⟨e1, _⟩ := Option.filter_eq_some_iff.mp ht
  have e := Option.some.inj e1
  rw [← e]
  exact ⟨rfl, rfl⟩
theorem Src.ne_len {H : Hp} {a c l : Addr} {xs : List V} (h : Src H a c) (hl : H l = some (.lst xs)) (hx : xs.length ≠ 3) : l ≠ a := fun e => by
  obtain ⟨a0, a1, ns, h1, _⟩ := h
  rw [e, h1] at hl
  cases hl
  exact hx rfl
/-- the ends by name: at d a dict of lists of two pairs -/
def EndsD (H : Hp) (d : Addr) (NS : List Str) (f g : Str → Int × Int) : Prop := ∃ kvs, H d = some (.dK kvs) ∧ ∀ w ∈ NS, ∃ l t1 t2, valV kvs (Sum.inr w : Key) = some (.ref l) ∧ H l = some (.lst [.ref t1, .ref t2]) ∧ EndsAt H t1 (f w).1 (f w).2 ∧ EndsAt H t2 (g w).1 (g w).2
theorem EndsD.keep {H H' : Hp} {d : Addr} {NS : List Str} {f g : Str → Int × Int} (h : EndsD H d NS f g) (s : Same H H') : EndsD H' d NS f g := by
  obtain ⟨kvs, h1, h2⟩ := h
  refine ⟨kvs, s _ _ h1, fun w hw => ?_⟩
  obtain ⟨l, t1, t2, e1, e2, e3, e4⟩ := h2 w hw
  exact ⟨l, t1, t2, e1, s _ _ e2, ⟨s _ _ e3.1, e3.2⟩, ⟨s _ _ e4.1, e4.2⟩⟩
theorem EndsD.kp {H H' : Hp} {a c d : Addr} {NS : List Str} {f g : Str → Int × Int} (h : EndsD H d NS f g) (k : Kp a H H') (sr : Src H a c) : EndsD H' d NS f g := by
  obtain ⟨kvs, h1, h2⟩ := h
  obtain ⟨_, ha⟩ := sr.at_
  refine ⟨kvs, k _ _ h1 (ne_of h1 ha fun z => nomatch z), fun w hw => ?_⟩
  obtain ⟨l, t1, t2, e1, e2, e3, e4⟩ := h2 w hw
  exact ⟨l, t1, t2, e1, k _ _ e2 (sr.ne_len e2 (by show (2 : Nat) ≠ 3; decide)), ⟨tup_kp k ha _ _ e3.1, e3.2⟩, ⟨tup_kp k ha _ _ e4.1, e4.2⟩⟩
theorem nml_at {ns : List (List Nat)} {x : V} (h : x ∈ NmL ns) : ∃ ds ∈ ns, x = .str (tx ds) := by
  obtain ⟨ds, h1, h2⟩ := List.mem_map.mp h
  exact ⟨ds, h1, h2.symm⟩
theorem nml_len (ns : List (List Nat)) : (NmL ns).length = ns.length := by
  unfold NmL
  rw [List.length_map]
abbrev sNea : Stmt := top 45
theorem scNea : FnScope ["_law_source_here", "_law_names_here", "_law_ends_here", "_law_one_here", "_law_word_here", "_law_here", "_law_gap", "_law_up", "_law_shift", "_law_above", "_law_back"] ["_law_source_here", "_law_names_here", "_law_ends_here", "_law_one_here"] (defScope sNea) := ⟨rfl, rfl, rfl, by decide +kernel, rfl, by decide +kernel, by decide +kernel⟩
def spNea (C : Addr) : Sp := fun vs H Q _ => ∃ (a c nl d e : Addr) (ns : List (List Nat)) (f g : Str → Int × Int) (n : Int) (ts : List Tm), vs = [.ref a, .ref nl, .ref d, .ref e] ∧ Src H a c ∧ nl ≠ a ∧ H nl = some (.lst (NmL ns)) ∧ 0 < ns.length ∧ ns.length ≤ 10 ∧ (∀ ds ∈ ns, Nm ds) ∧ EndsD H d (ns.map tx) f g ∧
  Ent C H e n ts "form" ∧ Gd ts ∧ ts.length ≤ 10 ∧ Bd 3000 n ts ∧ ∀ H', Kp a H H' → Src H' a c → Q (.bl true) H'
theorem ok_nea {C : Addr} (D : Df K mg "_law_near" sNea ["_law_source_here", "_law_names_here", "_law_ends_here", "_law_one_here"]) (T : Frm K mg C) (TT : Fk P w K mg base 2 "_law_take" sTake ["_law_source_here", "_law_many"] spTake) (PL : Fk P w K mg base 1 "_law_plain" sPla ["_law_number_here"] (spPla C)) (ON : Fk P w K mg base 6 "_law_one" sOne ["_law_word_here", "_law_ends_here"] (spOne C)) (AK : Fk P w K mg base 10 "_law_asked" sAsk ["_law_sign", "_law_one_here", "_law_two"] (spAsk C)) (AL : Fk P w K mg base 11 "_law_all_signs" sAll ["_law_one_here", "_law_two"] (spAll C)) (FA : Fk P w K mg base 1 "_law_far" sFar ["_law_model", "_law_sign"] spFar)
    {pA gA : Addr} {fdL : FuncData} (PO : PropOf K C "least" pA gA) (GL : FnOk P w K mg base CX0 1 gA fdL ["self"] (spEnd C mnT)) (bL : Binds K fdL ["self"] []) (ml : mg "len" = none) : FnOk P w K mg base CX0 12 D.f D.fd ["_law_source_here", "_law_names_here", "_law_ends_here", "_law_one_here"] (spNea C) := by
  refine D.fn.ok scNea (fun vs H Q E h => ?_) (fun cdv A outer s0 H vs Q E hr h => ?_)
  · obtain ⟨a, c, nl, d, e, ns, f, g, n, ts, rfl, _⟩ := h
    rfl
  · obtain ⟨a, c, nl, d, e, ns, f, g, n, ts, rfl, sr, nna, hnl, hp, hz, hnm, hD, he, g1, hl, hb, k⟩ := h
    have hu := hu_of hr
    have hr1 : Room (1 + 1) _ := hr.mono (by decide)
    refine ⟨_, (pss_cons (ps_set (i := 4) scNea.nd rfl (.inl rfl) (pe_ix ix_list (pv 1) (pe_call TT.G (hr.mono (by decide)) (by rfl) TT.D.mgf TT.D.fn.kp TT.D.bd .nil pass0 (pa_cons (pv 0) (pa_cons (pe_callB call_len_seq (by rfl) ml PySem.boot_len (pa_cons (pv 1) pa_nil)) pa_nil))) (fun _ _ => rfl)))
      (pss_cons (ps_set (i := 5) scNea.nd rfl (.inl rfl) (pe_ix ix_list (pe_dget hu (pv 2) (pv 4) (fun _ _ => rfl)) pe_int (fun _ _ => rfl)))
      (C8.pss_cut (ps_if (pt_cmp (pc_din hu (pv 4) (pe_ix ix_tup (pe_ix ix_tup (pv 3) pe_int (fun _ _ => rfl)) pe_int (fun _ _ => rfl))))
      (pss_one (ps_set (i := 5) scNea.nd rfl (.inl rfl) (pe_slice sl_tup (pe_dget hu (pe_ix ix_tup (pe_ix ix_tup (pv 3) pe_int (fun _ _ => rfl)) pe_int (fun _ _ => rfl)) (pv 4) (fun _ _ => rfl)) (po_some pe_int) po_none)))
      pss_nil)
      (pss_cons (ps_set (i := 6) scNea.nd rfl (.inl rfl) (pe_call AK.G (hr.mono (by decide)) (by rfl) AK.D.mgf AK.D.fn.kp AK.D.bd .nil pass0 (pa_cons pe_str (pa_cons (pe_call ON.G (hr.mono (by decide)) (by rfl) ON.D.mgf ON.D.fn.kp ON.D.bd .nil pass0 (pa_cons (pv 4) (pa_cons (pv 5) pa_nil))) (pa_cons (pe_call PL.G (hr.mono (by decide)) (by rfl) PL.D.mgf PL.D.fn.kp PL.D.bd .nil pass0 (pa_cons (pe_op op_subL (pe_call TT.G (hr.mono (by decide)) (by rfl) TT.D.mgf TT.D.fn.kp TT.D.bd .nil pass0 (pa_cons (pv 0) (pa_cons pe_int pa_nil))) pe_int) pa_nil)) pa_nil)))))
      (pss_cons (ps_if (PW.pt (pw_or (pt_cmp (pc_isN (pv 6))) (pw_or1 (pt_cmpR op_ne (pe_prop (pe_ix ix_tup (pe_ix ix_list (pv 6) pe_int (fun _ _ => rfl)) pe_int (fun _ _ => rfl)) T.cl PO GL hr1 bL .nil pass0 rfl) (pe_un un_neg (pe_call FA.G (hr.mono (by decide)) (by rfl) FA.D.mgf FA.D.fn.kp FA.D.bd .nil pass0 (pa_cons (pe_ix ix_tup (pe_ix ix_list (pv 6) pe_int (fun _ _ => rfl)) pe_int (fun _ _ => rfl)) (pa_cons (pe_un un_neg pe_int) pa_nil)))) (nomark _)))))
      (pss_one (ps_never))
      pss_nil)
      (pss_cons (ps_set (i := 7) scNea.nd rfl (.inl rfl) (pe_call AK.G (hr.mono (by decide)) (by rfl) AK.D.mgf AK.D.fn.kp AK.D.bd .nil pass0 (pa_cons pe_str (pa_cons (pe_ix ix_list (pv 6) pe_int (fun _ _ => rfl)) (pa_cons (pe_call PL.G (hr.mono (by decide)) (by rfl) PL.D.mgf PL.D.fn.kp PL.D.bd .nil pass0 (pa_cons (pe_prop (pe_ix ix_tup (pe_ix ix_list (pv 6) pe_int (fun _ _ => rfl)) pe_int (fun _ _ => rfl)) T.cl PO GL hr1 bL .nil pass0 rfl) pa_nil)) pa_nil)))))
      (pss_cons (ps_set (i := 8) scNea.nd rfl (.inl rfl) (pe_call PL.G (hr.mono (by decide)) (by rfl) PL.D.mgf PL.D.fn.kp PL.D.bd .nil pass0 (pa_cons (pe_op op_subL (pe_call TT.G (hr.mono (by decide)) (by rfl) TT.D.mgf TT.D.fn.kp TT.D.bd .nil pass0 (pa_cons (pv 0) (pa_cons pe_int pa_nil))) pe_int) pa_nil)))
      (pss_cons (ps_if (PW.pt (pw_or (pt_cmp (pc_isN (pv 7))) (pw_or1 (pt_cmp (pc_isN (pe_call AK.G (hr.mono (by decide)) (by rfl) AK.D.mgf AK.D.fn.kp AK.D.bd .nil pass0 (pa_cons pe_str (pa_cons (pv 8) (pa_cons (pe_ix ix_list (pv 7) pe_int (fun _ _ => rfl)) pa_nil)))))))))
      (pss_one (ps_never))
      pss_nil)
      (pss_cons (ps_set (i := 7) scNea.nd rfl (.inl rfl) (pe_call AK.G (hr.mono (by decide)) (by rfl) AK.D.mgf AK.D.fn.kp AK.D.bd .nil pass0 (pa_cons pe_str (pa_cons (pe_ix ix_list (pv 7) pe_int (fun _ _ => rfl)) (pa_cons (pv 8) pa_nil)))))
      (pss_cons (ps_set (i := 9) scNea.nd rfl (.inl rfl) (pe_ifExp (pt_cmp (pc_isN (pv 7))) pe_non (pe_call AK.G (hr.mono (by decide)) (by rfl) AK.D.mgf AK.D.fn.kp AK.D.bd .nil pass0 (pa_cons pe_str (pa_cons (pv 3) (pa_cons (pe_ix ix_list (pv 7) pe_int (fun _ _ => rfl)) pa_nil))))))
      (pss_cons (ps_if (PW.pt (pw_or (pt_cmp (pc_isN (pv 9))) (pw_or1 (pt_not (pt_val (pe_call AL.G (hr.mono (by decide)) (by rfl) AL.D.mgf AL.D.fn.kp AL.D.bd .nil pass0 (pa_cons (pv 3) (pa_cons (pe_ix ix_list (pv 9) pe_int (fun _ _ => rfl)) pa_nil))))))))
      (pss_one (ps_never))
      pss_nil)
      (pss_cons (ps_set (i := 10) scNea.nd rfl (.inl rfl) (pe_call AK.G (hr.mono (by decide)) (by rfl) AK.D.mgf AK.D.fn.kp AK.D.bd .nil pass0 (pa_cons pe_str (pa_cons (pe_ix ix_list (pv 9) pe_int (fun _ _ => rfl)) (pa_cons (pe_ix ix_list (pv 7) pe_int (fun _ _ => rfl)) pa_nil)))))
      (pss_one (ps_ret (pe_and (pe_cmp (pc_notN (pv 10)) rfl) (pe_one (pe_call AL.G (hr.mono (by decide)) (by rfl) AL.D.mgf AL.D.fn.kp AL.D.bd .nil pass0 (pa_cons (pv 3) (pa_cons (pe_ix ix_list (pv 10) pe_int (fun _ _ => rfl)) pa_nil))))))))))))))))))), ?_⟩
    refine ⟨_, rfl, _, rfl, _, rfl, nl, NmL ns, rfl, .inl (sql_of hnl), a, c, ((NmL ns).length : Nat), rfl, sr, by rw [nml_len]; omega, Nat.lt_of_le_of_lt (show _ ≤ 1000 by rw [nml_len]; omega) (by decide), fun t H1 t0 t1 kp1 sr1 => ?_⟩
    obtain ⟨x, hx, ex⟩ := atV_mem (l := NmL ns) t0 t1
    obtain ⟨ds, hds, rfl⟩ := nml_at hx
    have hNm := hnm ds hds
    have hD1 := hD.kp kp1 sr
    obtain ⟨_, hsa⟩ := sr.at_
    have he1 := he.kp kp1 hsa
    obtain ⟨kvs, hd1, hen⟩ := id hD1
    obtain ⟨ll, p1, p2, w1, w2, w3, _⟩ := hen (tx ds) (List.mem_map.mpr ⟨ds, hds, rfl⟩)
    refine ⟨nl, NmL ns, t, _, rfl, rfl, sql_of (kp1 _ _ hnl nna), ex, ?_⟩
    refine ⟨_, rfl, _, rfl, d, .ref ll, rfl, by rw [← w1]; exact DGet.k (k := Sum.inr (tx ds)) hd1, ll, _, 0, _, rfl, rfl, sql_of w2, rfl, ?_⟩
    obtain ⟨p, m, y1, y2, y3⟩ := he1.formE
    obtain ⟨M, ⟨dd, xs, z1, z2, z3, _, ⟨⟨kv, hdd, hA⟩, nd1, _⟩⟩, hs1⟩ := id y3
    have hget : getT ts (tx ds) = getT M (tx ds) := by rw [← hs1, get_srt nd1]
    refine ⟨fun σ' H' => ∃ (tp : Addr) (lo hi : Int), σ' = [some (.ref a), some (.ref nl), some (.ref d), some (.ref e), some (.str (tx ds)), some (.ref tp), none, none, none, none, none] ∧ Same H1 H' ∧ H' tp = some (.tup [.int lo, .int hi]) ∧ lo ≤ hi ∧ lo.natAbs < 2 ^ 3000 ∧ hi.natAbs < 2 ^ 3000 ∧ ∀ x, getT ts (tx ds) = some x → x.lo = lo ∧ x.hi = hi, ?_, ?_⟩
    · obtain ⟨e1, e2⟩ | ⟨x0, qq, e1, e2, e3⟩ := hA.get (tx ds)
      · refine ⟨_, rfl, _, rfl, e, _, 1, _, rfl, rfl, sql_ofT y1, rfl, m, _, 1, _, rfl, rfl, sql_ofT z1, z3, dd, none, rfl, by rw [← e2]; exact DGet.k (k := Sum.inr (tx ds)) hdd, _, rfl, ?_⟩
        refine iteF' rfl ?_
        refine ⟨p1, _, _, rfl, fun _ _ z => z, w3.1, w3.2.1, lt_pow w3.2.2.1 (by decide), lt_pow w3.2.2.2 (by decide), fun x hx => ?_⟩
        rw [hget, e1] at hx
        cases hx
      · refine ⟨_, rfl, _, rfl, e, _, 1, _, rfl, rfl, sql_ofT y1, rfl, m, _, 1, _, rfl, rfl, sql_ofT z1, z3, dd, some (.ref qq), rfl, by rw [← e2]; exact DGet.k (k := Sum.inr (tx ds)) hdd, _, rfl, ?_⟩
        refine iteT' rfl ?_
        refine ⟨_, rfl, e, _, 1, _, rfl, rfl, sql_ofT y1, rfl, m, _, 1, _, rfl, rfl, sql_ofT z1, z3, _, rfl, dd, .ref qq, rfl, by rw [← e2]; exact DGet.k (k := Sum.inr (tx ds)) hdd, ?_⟩
        refine ⟨_, rfl, qq, _, rfl, sql_ofT e3, (show ¬ (HT.sIx 3 0 (some 1) = 0 ∧ HT.sIx 3 3 none = 3) by decide), fun z1 n1 => ?_⟩
        have hin : x0 ∈ ts := by
          rw [← hget] at e1
          exact getT_in e1
        have hbx := hb.2 x0 hin
        refine ⟨z1, x0.lo, x0.hi, rfl, same_upd n1, upd_same, g1.eo x0 hin, hbx.2.1, hbx.2.2, fun x hx => ?_⟩
        rw [hget, e1] at hx
        cases hx
        exact ⟨rfl, rfl⟩
    rintro σ' H2 ⟨tp, lo, hi, rfl, s2, htp, hlh, blo, bhi, hx2⟩
    have sr2 := sr1.of_same s2
    obtain ⟨_, hsa2⟩ := sr2.at_
    refine ⟨_, rfl, _, rfl, ds, tp, lo, hi, rfl, hNm, htp, hlh, fun o1 H3 s3 ho1 => ?_⟩
    have sr3 := sr2.of_same s3
    obtain ⟨_, hsa3⟩ := sr3.at_
    refine ⟨_, rfl, a, c, 5, rfl, sr3, by decide, by decide, fun t5 H4 t50 t51 kp4 sr4 => ⟨_, _, rfl, rfl, fun r er => ⟨r, rfl, fun o2 H5 s5 ho2 => ?_⟩⟩⟩
    have go1 : Gd [⟨tx ds, 1, lo, hi⟩] := .one hNm.st hlh
    have bo1 : Bd 3000 0 [⟨tx ds, 1, lo, hi⟩] := ⟨Nat.two_pow_pos _, fun x hx => by
      obtain rfl := List.mem_singleton.mp hx
      exact ⟨Nat.lt_of_lt_of_le (show (1 : Int).natAbs < 2 ^ 1 by decide) (pow_le2 (by decide)), blo, bhi⟩⟩
    have hr2 : r.natAbs < 2 ^ 2 := by
      show r.natAbs < 4
      omega
    have bo2 : Bd 3000 r [] := ⟨lt_pow hr2 (by decide), fun x hx => by simp at hx⟩
    refine ⟨Str.ofString "*", o1, o2, 0, r, _, [], _, _, rfl, (ho1.kp kp4 hsa3).keep s5, ho2, go1, .nil, (by show (1 : Nat) + 0 ≤ 45; decide), bo1.mono (by decide), bo2.mono (by decide), by decide, .inl rfl, fun _ z => absurd z.2 (by decide), fun z => absurd z (by decide), fun l6 xs6 H6 s6 hl6 ha6 => ?_⟩
    rw [due_mul] at ha6
    obtain ⟨e6, rfl, he6⟩ := ha6
    obtain ⟨gg, ig, bg⟩ := due_form (sg := Str.ofString "*") (k1 := Str.ofString "form") (k2 := "number") (us := []) go1 .nil (by show (1 : Nat) + 0 ≤ 45; decide) due_mul
    have bg := bg 3000 2 bo1 bo2 (by decide) fun _ => ⟨fun _ => hr2, fun z => absurd rfl z⟩
    have sub : ∀ u ∈ mulT r [⟨tx ds, 1, lo, hi⟩], u.nm = tx ds ∧ u.lo = lo ∧ u.hi = hi := fun u hu => by
      obtain ⟨_, y, hy, rfl⟩ := mulT_mem hu
      obtain rfl := List.mem_singleton.mp hy
      exact ⟨rfl, rfl, rfl⟩
    have lg : (mulT r [⟨tx ds, 1, lo, hi⟩]).length ≤ 1 := mulT_len _ _
    generalize mulT r [⟨tx ds, 1, lo, hi⟩] = gt at he6 gg bg sub lg
    generalize 0 * r = gn at he6 bg
    -- the gap
    have sr6 := (sr4.of_same s5).of_same s6
    have kp16 : Kp a H H6 := (((kp1.trans (Kp.same (s2.trans s3))).trans kp4).trans (Kp.same s5)).trans (Kp.same s6)
    have he16 := he.kp kp16 hsa
    obtain ⟨p6, m6, a1, a2, a3⟩ := he6.formE
    obtain ⟨dx6, tt6, uu6, b1, _, _⟩ := id a2
    refine ⟨_, rfl, _, rfl, iteF' rfl ?_⟩
    refine ⟨_, rfl, l6, _, 0, _, rfl, rfl, sql_of hl6, rfl, e6, _, 0, _, rfl, rfl, sql_ofT a1, rfl, p6, dx6, _, rfl, b1, p6, gn, gt, rfl, a2, by omega, bg.mono (by decide), fun H7 s7 => ?_⟩
    refine ⟨_, rfl, l6, _, 0, _, rfl, rfl, sql_of (s7 _ _ hl6), rfl, e6, _, 1, _, rfl, rfl, sql_ofT (s7 _ _ a1), rfl, 1, rfl, m6, gn, -1, gt, rfl, (a3.keep s7).any, bg.mono (by decide), .inr rfl, fun H8 s8 => ⟨_, rfl, rfl, _, rfl, iteF' ?_ ?_⟩⟩
    · rw [far_min gg]
      show (!decide (V.int _ = V.int (- -(_)))) = false
      rw [Int.neg_neg]
      simp
    -- up
    have s78 := s7.trans s8
    have he8 := he6.keep s78
    obtain ⟨dx8, tt8, uu8, b8, _, _⟩ := id (a2.keep s78)
    refine ⟨_, rfl, l6, _, 0, _, rfl, rfl, sql_of (s78 _ _ hl6), rfl, _, rfl, l6, _, 0, _, rfl, rfl, sql_of (s78 _ _ hl6), rfl, e6, _, 0, _, rfl, rfl, sql_ofT (s78 _ _ a1), rfl, p6, dx8, _, rfl, b8, p6, gn, gt, rfl, a2.keep s78, by omega, bg.mono (by decide), fun H9 s9 => ⟨_, rfl, fun o3 H10 s10 ho3 => ?_⟩⟩
    have bL1 := end_bd bg (by omega) (mnT_bd bg)
    generalize gn + (gt.map mnT).sum = L at ho3 bL1
    have bL2 : Bd 6012 L [] := ⟨bL1, fun x hx => by simp at hx⟩
    have bg2 : Bd 6012 gn gt := bg.mono (by decide)
    have s810 := s78.trans (s9.trans s10)
    refine ⟨Str.ofString "-", e6, o3, gn, L, gt, [], _, _, rfl, he6.keep s810, ho3, gg, .nil, by simp; omega, bg2.mono (by decide), bL2.mono (by decide), by decide, .inl rfl, fun z => absurd z (by decide), fun z => absurd z (by decide), fun l11 xs11 H11 s11 hl11 ha11 => ?_⟩
    rw [due_sub (unl_nil gt), subS_nil gg] at ha11
    obtain ⟨e11, rfl, he11⟩ := ha11
    have bu : Bd 6013 (gn - L) gt := by
      refine ⟨?_, fun x hx => ?_⟩
      · have h1 := bg2.1
        have h2 := bL2.1
        rw [show (6013 : Nat) = 6012 + 1 from rfl, Nat.pow_succ]
        generalize (2 : Nat) ^ 6012 = z at h1 h2 ⊢
        omega
      · obtain ⟨h1, h2, h3⟩ := bg2.2 x hx
        exact ⟨lt_pow h1 (by decide), lt_pow h2 (by decide), lt_pow h3 (by decide)⟩
    generalize gn - L = un at he11 bu
    have s611 := s810.trans s11
    have sr11 := sr6.of_same s611
    obtain ⟨_, hsa11⟩ := sr11.at_
    refine ⟨_, rfl, a, c, 3, rfl, sr11, by decide, by decide, fun t12 H12 t120 t121 kp12 sr12 => ⟨_, _, rfl, rfl, fun r2 er2 => ⟨r2, rfl, fun o4 H13 s13 ho4 => ?_⟩⟩⟩
    have hl13 := s13 _ _ (kp12 _ _ hl11 (sr11.ne_len hl11 (by show (1 : Nat) ≠ 3; decide)))
    have he13 := (he11.kp kp12 hsa11).keep s13
    have b2s : Bd 6013 r2 [] := ⟨Nat.lt_of_lt_of_le (show r2.natAbs < 2 ^ 2 by show r2.natAbs < 4; omega) (pow_le2 (by decide)), fun x hx => by simp at hx⟩
    refine ⟨_, rfl, _, rfl, iteF' rfl ?_⟩
    refine ⟨_, rfl, _, rfl, l11, _, 0, _, rfl, rfl, sql_of hl13, rfl, Str.ofString "+", o4, e11, r2, un, [], gt, _, _, rfl, ho4, he13, .nil, gg, by simp; omega, b2s.mono (by decide), bu.mono (by decide), by decide, .inr rfl, fun z => absurd z (by decide), fun z => absurd z (by decide), fun l14 xs14 H14 s14 _ _ => ⟨_, rfl, iteF' rfl ?_⟩⟩
    refine ⟨_, rfl, l11, _, 0, _, rfl, rfl, sql_of (s14 _ _ hl13), rfl, _, rfl, Str.ofString "+", e11, o4, un, r2, gt, [], _, _, rfl, he13.keep s14, ho4.keep s14, gg, .nil, by simp; omega, bu.mono (by decide), b2s.mono (by decide), by decide, .inl rfl, fun z => absurd z (by decide), fun z => absurd z (by decide), fun l15 xs15 H15 s15 hl15 ha15 => ?_⟩
    rw [due_add (unl_nil gt), addS_nil gg] at ha15
    obtain ⟨e15, rfl, he15⟩ := ha15
    have bv : Bd 6014 (un + r2) gt := by
      refine ⟨?_, fun x hx => ?_⟩
      · have h1 := bu.1
        have h2 := b2s.1
        rw [show (6014 : Nat) = 6013 + 1 from rfl, Nat.pow_succ]
        generalize (2 : Nat) ^ 6013 = z at h1 h2 ⊢
        omega
      · obtain ⟨h1, h2, h3⟩ := bu.2 x hx
        exact ⟨lt_pow h1 (by decide), lt_pow h2 (by decide), lt_pow h3 (by decide)⟩
    generalize un + r2 = vn at he15 bv
    have s1315 := s14.trans s15
    have kp115 : Kp a H H15 := ((kp16.trans (Kp.same s611)).trans kp12).trans (Kp.same (s13.trans s1315))
    have he16 := he.kp kp115 hsa
    have sr15 := sr12.of_same (s13.trans s1315)
    -- above
    refine ⟨_, rfl, _, rfl, iteF' rfl ?_⟩
    have hun : unl ts gt = none := unl_of fun u hu x hx => by
      obtain ⟨q1, q2, q3⟩ := sub u hu
      rw [q1] at hx
      obtain ⟨q4, q5⟩ := hx2 x hx
      rw [q2, q3]
      exact ⟨q4, q5⟩
    refine ⟨_, rfl, _, rfl, l15, _, 0, _, rfl, rfl, sql_of hl15, rfl, Str.ofString "+", e, e15, n, vn, ts, gt, _, _, rfl, he16, he15, g1, gg, by omega, hb.mono (by decide), bv.mono (by decide), by decide, .inl rfl, fun z => absurd z (by decide), fun z => absurd z (by decide), fun l17 xs17 H17 s17 hl17 ha17 => ?_⟩
    rw [due_add hun] at ha17
    obtain ⟨e17, rfl, he17⟩ := ha17
    have ba := bd_add g1.up.nd gg.up.nd (hb.mono (show 3000 ≤ 6014 by decide)) bv
    have ga := g1.add gg (by omega)
    have la := addS_len ts gt
    have hun2 := unl_add (ts := ts) (us := gt) g1.up.nd gg.up.nd
    generalize addS ts gt = at_ at he17 ba ga la hun2
    generalize n + vn = an at he17 ba
    refine ⟨_, rfl, _, rfl, iteF' rfl ?_⟩
    refine ⟨_, rfl, _, rfl, l17, _, 0, _, rfl, rfl, sql_of hl17, rfl, e, e17, n, an, ts, at_, _, _, rfl, he16.keep s17, he17, g1, ga, by omega, hb.mono (by decide), ba.mono (by decide), .inl rfl, fun H18 s18 => ⟨true, rfl, iteF' rfl ?_⟩⟩
    -- back
    refine ⟨_, rfl, l17, _, 0, _, rfl, rfl, sql_of (s18 _ _ hl17), rfl, _, rfl, l15, _, 0, _, rfl, rfl, sql_of (s18 _ _ (s17 _ _ hl15)), rfl, Str.ofString "-", e17, e15, an, vn, at_, gt, _, _, rfl, he17.keep s18, he15.keep (s17.trans s18), ga, gg, by omega, ba.mono (by decide), bv.mono (by decide), by decide, .inl rfl, fun z => absurd z (by decide), fun z => absurd z (by decide), fun l19 xs19 H19 s19 hl19 ha19 => ?_⟩
    rw [due_sub hun2] at ha19
    obtain ⟨e19, rfl, he19⟩ := ha19
    have bb := bd_sub ga.up.nd gg.ts ba (bv.mono (by decide))
    have gb : Gd (subS at_ gt) := ga.add gg.mul (by have := mulT_len (-1) gt; omega)
    have lb := subS_len at_ gt
    refine ⟨_, rfl, _, rfl, ?_⟩
    refine iteT' rfl ?_
    have s1519 := (s17.trans s18).trans s19
    exact ⟨_, rfl, _, rfl, l19, _, 0, _, rfl, rfl, sql_of hl19, rfl, e, e19, n, _, ts, _, _, _, rfl, he16.keep s1519, he19, g1, gb, by omega, hb.mono (by decide), bb.mono (by decide), .inl rfl, fun H20 s20 => k H20 (kp115.trans (Kp.same (s1519.trans s20))) (sr15.of_same (s1519.trans s20))⟩
end
end DO

namespace DO
open PySem PySem.Spec PyProof.Rows L2
section
variable {P : Program} {w : World} {K : PySem.W.Frag} {mg : Str → Option Value} {base : Heap}
/-! ### unlike ends -/
structure FMk (P : Program) (w : World) (K : PySem.W.Frag) (mg : Str → Option Value) (base : Heap) (C : Addr) where
  T : Frm K mg C
  MI : Mf K C "__init__" "Form.__init__" sIni ["self", "constant"]
  MK : Mk K C MI.f
  GI : FnOk P w K mg base CX0 1 MI.f MI.fd ["self", "constant"] (spIni C)
abbrev sUnl : Stmt := top 46
theorem scUnl : FnScope ["_law_source_here", "_law_names_here", "_law_ends_here", "_law_number_here", "_law_further", "_law_turned", "_law_one_here", "_law_two", "_law_word_here", "_law_times", "_law_left", "_law_right", "_law_more"] ["_law_source_here", "_law_names_here", "_law_ends_here"] (defScope sUnl) := ⟨rfl, rfl, rfl, by decide +kernel, rfl, by decide +kernel, by decide +kernel⟩
def Ends_ (ts : List Tm) (f : Str → Int × Int) : Prop := ∀ x ∈ ts, x.lo = (f x.nm).1 ∧ x.hi = (f x.nm).2
theorem Ends_.unl {ts us : List Tm} {f : Str → Int × Int} (h : Ends_ ts f) (h' : Ends_ us f) : unl ts us = none := unl_of fun u hu t ht => by
  obtain ⟨a1, a2⟩ := h t (getT_in ht)
  obtain ⟨b1, b2⟩ := h' u hu
  rw [getT_nm ht] at a1 a2
  exact ⟨a1.trans b1.symm, a2.trans b2.symm⟩
theorem Ends_.add {ts us : List Tm} {f : Str → Int × Int} (g : (nms ts).Nodup) (g' : (nms us).Nodup) (h : Ends_ ts f) (h' : Ends_ us f) : Ends_ (addS ts us) f := fun x hx => by
  obtain ⟨_, ⟨h1, _⟩ | ⟨u, hu, e, e1, e2, _⟩⟩ := addS_mem g g' hx
  · exact h x h1
  · rw [e1, e2, ← e]
    exact h' u hu
theorem Ends_.mul {k : Int} {w : Str} {f : Str → Int × Int} : Ends_ (mulT k [⟨w, 1, (f w).1, (f w).2⟩]) f := fun x hx => by
  obtain ⟨_, y, hy, rfl⟩ := mulT_mem hx
  obtain rfl := List.mem_singleton.mp hy
  exact ⟨rfl, rfl⟩
theorem In.mul {k : Int} {w : Str} {lo hi : Int} {NS : List Str} (h : w ∈ NS) : In NS (mulT k [⟨w, 1, lo, hi⟩]) := fun z hz => by
  have := mulT_sub z hz
  obtain ⟨y, hy, rfl⟩ := List.mem_map.mp this
  obtain rfl := List.mem_singleton.mp hy
  exact h
theorem bd_one {w : Str} {lo hi : Int} {B : Nat} (hB : 1 ≤ B) (h1 : lo.natAbs < 2 ^ B) (h2 : hi.natAbs < 2 ^ B) : Bd B 0 [⟨w, 1, lo, hi⟩] := ⟨Nat.two_pow_pos _, fun x hx => by
  obtain rfl := List.mem_singleton.mp hx
  exact ⟨Nat.lt_of_lt_of_le (show (1 : Int).natAbs < 2 ^ 1 by decide) (pow_le2 hB), h1, h2⟩⟩
theorem bd_nil {B : Nat} {n : Int} (h : n.natAbs < 2 ^ B) : Bd B n [] := ⟨h, fun x hx => by simp at hx⟩
/-- a form of the sums that are made -/
structure Su (C : Addr) (H : Hp) (NS : List Str) (f : Str → Int × Int) (B : Nat) (e : Addr) (n : Int) (ts : List Tm) : Prop where
  en : Ent C H e n ts "form"
  gd : Gd ts
  bd : Bd B n ts
  inn : In NS ts
  ends : Ends_ ts f
theorem Su.keep {C : Addr} {H H' : Hp} {NS : List Str} {f : Str → Int × Int} {B : Nat} {e : Addr} {n : Int} {ts : List Tm} (h : Su C H NS f B e n ts) (s : Same H H') : Su C H' NS f B e n ts := ⟨h.en.keep s, h.gd, h.bd, h.inn, h.ends⟩
theorem Su.kp {C a : Addr} {H H' : Hp} {NS : List Str} {f : Str → Int × Int} {B : Nat} {e : Addr} {n : Int} {ts : List Tm} {xs : List V} (h : Su C H NS f B e n ts) (s : Kp a H H') (ha : H a = some (.lst xs)) : Su C H' NS f B e n ts := ⟨h.en.kp s ha, h.gd, h.bd, h.inn, h.ends⟩
theorem Su.add {C : Addr} {H H' : Hp} {NS : List Str} {f : Str → Int × Int} {B : Nat} {e e' : Addr} {n m : Int} {ts us : List Tm} {xs : List V} {k1 k2 : Str} (h : Su C H NS f B e n ts) (g : Gd us) (b : Bd B m us) (i : In NS us) (d : Ends_ us f) (hz : NS.length ≤ 10)
    (ha : AskedAt C H' xs (dueOf (Str.ofString "+") n ts k1 m us k2)) : ∃ e' n' ts', xs = [.ref e'] ∧ Su C H' NS f (B + 1) e' n' ts' := by
  have hl1 := h.inn.len h.gd hz
  have hl2 := i.len g hz
  rw [due_add (h.ends.unl d)] at ha
  obtain ⟨e', rfl, he'⟩ := ha
  exact ⟨e', _, _, rfl, he', h.gd.add g (by omega), bd_add h.gd.up.nd g.up.nd h.bd b, fun w hw => (addS_sub h.gd.up.nd g.up.nd w hw).elim (h.inn w) (i w), .add h.gd.up.nd g.up.nd h.ends d⟩
def spUnl (C : Addr) : Sp := fun vs H Q _ => ∃ (a c nl d : Addr) (ns : List (List Nat)) (f g : Str → Int × Int), vs = [.ref a, .ref nl, .ref d] ∧ Src H a c ∧ nl ≠ a ∧ H nl = some (.lst (NmL ns)) ∧ ns.length ≤ 10 ∧ (∀ ds ∈ ns, Nm ds) ∧ EndsD H d (ns.map tx) f g ∧ ∀ H', Kp a H H' → Src H' a c → Q (.bl true) H'
theorem ok_unl {C : Addr} (D : Df K mg "_law_unlike" sUnl ["_law_source_here", "_law_names_here", "_law_ends_here"]) (FM : FMk P w K mg base C) (TT : Fk P w K mg base 2 "_law_take" sTake ["_law_source_here", "_law_many"] spTake) (PL : Fk P w K mg base 1 "_law_plain" sPla ["_law_number_here"] (spPla C)) (ON : Fk P w K mg base 6 "_law_one" sOne ["_law_word_here", "_law_ends_here"] (spOne C)) (AK : Fk P w K mg base 10 "_law_asked" sAsk ["_law_sign", "_law_one_here", "_law_two"] (spAsk C)) (AL : Fk P w K mg base 11 "_law_all_signs" sAll ["_law_one_here", "_law_two"] (spAll C)) : FnOk P w K mg base CX0 12 D.f D.fd ["_law_source_here", "_law_names_here", "_law_ends_here"] (spUnl C) := by
  refine D.fn.ok scUnl (fun vs H Q E h => ?_) (fun cdv A outer s0 H vs Q E hr h => ?_)
  · obtain ⟨a, c, nl, d, ns, f, g, rfl, _⟩ := h
    rfl
  · obtain ⟨a, c, nl, d, ns, f, g, rfl, sr, nna, hnl, hz, hnm, hD, k⟩ := h
    have hu := hu_of hr
    refine ⟨_, (pss_cons (ps_set (i := 3) scUnl.nd rfl (.inl rfl) (pe_op op_subL (pe_call TT.G (hr.mono (by decide)) (by rfl) TT.D.mgf TT.D.fn.kp TT.D.bd .nil pass0 (pa_cons (pv 0) (pa_cons pe_int pa_nil))) pe_int))
      (pss_cons (ps_set (i := 4) scUnl.nd rfl (.inl rfl) (pe_op op_addL (pv 3) (pe_call TT.G (hr.mono (by decide)) (by rfl) TT.D.mgf TT.D.fn.kp TT.D.bd .nil pass0 (pa_cons (pv 0) (pa_cons pe_int pa_nil)))))
      (pss_cons (ps_set (i := 5) scUnl.nd rfl (.inl rfl) (pe_op op_subL pe_int (pe_op op_mulL pe_int (pe_call TT.G (hr.mono (by decide)) (by rfl) TT.D.mgf TT.D.fn.kp TT.D.bd .nil pass0 (pa_cons (pv 0) (pa_cons pe_int pa_nil))))))
      (pss_cons (ps_set (i := 6) scUnl.nd rfl (.inl rfl) (pe_tup (pa_cons (pe_make FM.MK FM.GI (hr.mono (by decide)) rfl FM.T.mgC FM.MI.bd .nil pass0 (pa_cons (pv 3) pa_nil)) (pa_cons (pe_tup (pa_cons (pv 3) (pa_cons pe_dnewK (pa_cons pe_str pa_nil)))) pa_nil))))
      (pss_cons (ps_set (i := 7) scUnl.nd rfl (.inl rfl) (pe_tup (pa_cons (pe_make FM.MK FM.GI (hr.mono (by decide)) rfl FM.T.mgC FM.MI.bd .nil pass0 (pa_cons (pv 4) pa_nil)) (pa_cons (pe_tup (pa_cons (pv 4) (pa_cons pe_dnewK (pa_cons pe_str pa_nil)))) pa_nil))))
      (pss_cons (ps_for PassesOwn.never rfl (pi_list (pv 1)) (pg_name (i := 8) scUnl.nd rfl (Or.inl rfl))
      (pss_cons (ps_set (i := 9) scUnl.nd rfl (.inl rfl) (pe_op op_addL pe_int (pe_call TT.G (hr.mono (by decide)) (by rfl) TT.D.mgf TT.D.fn.kp TT.D.bd .nil pass0 (pa_cons (pv 0) (pa_cons pe_int pa_nil)))))
      (pss_cons (ps_set (i := 10) scUnl.nd rfl (.inl rfl) (pe_call AK.G (hr.mono (by decide)) (by rfl) AK.D.mgf AK.D.fn.kp AK.D.bd .nil pass0 (pa_cons pe_str (pa_cons (pe_call ON.G (hr.mono (by decide)) (by rfl) ON.D.mgf ON.D.fn.kp ON.D.bd .nil pass0 (pa_cons (pv 8) (pa_cons (pe_ix ix_list (pe_dget hu (pv 2) (pv 8) (fun _ _ => rfl)) pe_int (fun _ _ => rfl)) pa_nil))) (pa_cons (pe_call PL.G (hr.mono (by decide)) (by rfl) PL.D.mgf PL.D.fn.kp PL.D.bd .nil pass0 (pa_cons (pv 9) pa_nil)) pa_nil)))))
      (pss_cons (ps_set (i := 11) scUnl.nd rfl (.inl rfl) (pe_call AK.G (hr.mono (by decide)) (by rfl) AK.D.mgf AK.D.fn.kp AK.D.bd .nil pass0 (pa_cons pe_str (pa_cons (pe_call PL.G (hr.mono (by decide)) (by rfl) PL.D.mgf PL.D.fn.kp PL.D.bd .nil pass0 (pa_cons (pe_op op_mulL (pv 5) (pv 9)) pa_nil)) (pa_cons (pe_call ON.G (hr.mono (by decide)) (by rfl) ON.D.mgf ON.D.fn.kp ON.D.bd .nil pass0 (pa_cons (pv 8) (pa_cons (pe_ix ix_list (pe_dget hu (pv 2) (pv 8) (fun _ _ => rfl)) pe_int (fun _ _ => rfl)) pa_nil))) pa_nil)))))
      (pss_cons (ps_if (PW.pt (pw_or (pt_cmp (pc_isN (pv 10))) (pw_or1 (pt_cmp (pc_isN (pv 11))))))
      (pss_one (ps_never))
      pss_nil)
      (pss_cons (ps_set (i := 12) scUnl.nd rfl (.inl rfl) (pe_call AK.G (hr.mono (by decide)) (by rfl) AK.D.mgf AK.D.fn.kp AK.D.bd .nil pass0 (pa_cons pe_str (pa_cons (pv 6) (pa_cons (pe_ix ix_list (pv 10) pe_int (fun _ _ => rfl)) pa_nil)))))
      (pss_cons (ps_if (pt_cmp (pc_isN (pv 12)))
      (pss_one (ps_never))
      pss_nil)
      (pss_cons (ps_set (i := 6) scUnl.nd rfl (.inl rfl) (pe_ix ix_list (pv 12) pe_int (fun _ _ => rfl)))
      (pss_one (ps_if (pt_cmpR op_gt (pe_call TT.G (hr.mono (by decide)) (by rfl) TT.D.mgf TT.D.fn.kp TT.D.bd .nil pass0 (pa_cons (pv 0) (pa_cons pe_int pa_nil))) pe_int (nomark _))
      (pss_cons (ps_set (i := 12) scUnl.nd rfl (.inl rfl) (pe_call AK.G (hr.mono (by decide)) (by rfl) AK.D.mgf AK.D.fn.kp AK.D.bd .nil pass0 (pa_cons pe_str (pa_cons (pv 7) (pa_cons (pe_ix ix_list (pv 11) pe_int (fun _ _ => rfl)) pa_nil)))))
      (pss_cons (ps_if (pt_cmp (pc_isN (pv 12)))
      (pss_one (ps_never))
      pss_nil)
      (pss_one (ps_set (i := 7) scUnl.nd rfl (.inl rfl) (pe_ix ix_list (pv 12) pe_int (fun _ _ => rfl))))))
      pss_nil))))))))))
      (pss_one (ps_ret (pe_call AL.G (hr.mono (by decide)) (by rfl) AL.D.mgf AL.D.fn.kp AL.D.bd .nil pass0 (pa_cons (pv 6) (pa_cons (pv 7) pa_nil))))))))))), ?_⟩
    have hz' : (ns.map tx).length ≤ 10 := by rw [List.length_map]; exact hz
    obtain ⟨_, hsa⟩ := sr.at_
    refine ⟨_, rfl, a, c, 7, rfl, sr, by decide, by decide, fun t1 H1 t10 t11 kp1 sr1 => ⟨_, _, rfl, rfl, fun q1 eq1 => ?_⟩⟩
    refine ⟨_, rfl, _, rfl, a, c, 2, rfl, sr1, by decide, by decide, fun t2 H2 t20 t21 kp2 sr2 => ⟨_, _, rfl, rfl, fun q2 eq2 => ?_⟩⟩
    refine ⟨_, rfl, a, c, 2, rfl, sr2, by decide, by decide, fun t3 H3 t30 t31 kp3 sr3 => ⟨_, _, rfl, rfl, .inl ⟨by decide, by decide⟩, fun q3 eq3 => ⟨_, _, rfl, rfl, fun q4 eq4 => ?_⟩⟩⟩
    refine ⟨_, rfl, fun x1 dx1 nx1 ndx1 _ => ⟨x1, dx1, q1, rfl, upd_same, fun tt1 HA1 _ hx1 ht1 kq1 => ⟨rfl, ?_⟩⟩⟩
    have sA1 := made_same nx1 ndx1 kq1
    refine ⟨_, rfl, fun dd1 nd1 => ⟨(by show 3 ≤ sizeLine; decide), fun mm1 nm1 => ⟨(by show 2 ≤ sizeLine; decide), fun ee1 ne1 => ?_⟩⟩⟩
    have w11 := same_upd (o := .dK []) nd1
    have w21 := same_upd (o := .tup [V.int q1, V.ref dd1, V.str "form"]) nm1
    have w31 := same_upd (o := .tup [V.ref x1, V.ref mm1]) ne1
    have sE1 := ((sA1.trans w11).trans w21).trans w31
    have hE1 : Ent C _ ee1 q1 [] "form" := ⟨.ref x1, mm1, upd_same, .form x1 _ [] ((show FormAt C HA1 x1 q1 [] from ⟨dx1, tt1, [], hx1, ht1, .nil⟩).keep ((w11.trans w21).trans w31)), [], ⟨dd1, _, w31 _ _ upd_same, rfl, rfl, fun s es => (by cases es; rfl), ⟨[], (w21.trans w31) _ _ upd_same, .nil⟩, List.nodup_nil, Nat.zero_le _⟩, srt_self (A := []) List.Pairwise.nil⟩
    generalize upd (upd (upd HA1 dd1 (.dK [])) mm1 (.tup [V.int q1, V.ref dd1, V.str "form"])) ee1 (.tup [V.ref x1, V.ref mm1]) = HE1 at sE1 hE1 ⊢
    refine ⟨_, rfl, fun x2 dx2 nx2 ndx2 _ => ⟨x2, dx2, q2, rfl, upd_same, fun tt2 HA2 _ hx2 ht2 kq2 => ⟨rfl, ?_⟩⟩⟩
    have sA2 := made_same nx2 ndx2 kq2
    refine ⟨_, rfl, fun dd2 nd2 => ⟨(by show 3 ≤ sizeLine; decide), fun mm2 nm2 => ⟨(by show 2 ≤ sizeLine; decide), fun ee2 ne2 => ?_⟩⟩⟩
    have w12 := same_upd (o := .dK []) nd2
    have w22 := same_upd (o := .tup [V.int q2, V.ref dd2, V.str "form"]) nm2
    have w32 := same_upd (o := .tup [V.ref x2, V.ref mm2]) ne2
    have sE2 := ((sA2.trans w12).trans w22).trans w32
    have hE2 : Ent C _ ee2 q2 [] "form" := ⟨.ref x2, mm2, upd_same, .form x2 _ [] ((show FormAt C HA2 x2 q2 [] from ⟨dx2, tt2, [], hx2, ht2, .nil⟩).keep ((w12.trans w22).trans w32)), [], ⟨dd2, _, w32 _ _ upd_same, rfl, rfl, fun s es => (by cases es; rfl), ⟨[], (w22.trans w32) _ _ upd_same, .nil⟩, List.nodup_nil, Nat.zero_le _⟩, srt_self (A := []) List.Pairwise.nil⟩
    generalize upd (upd (upd HA2 dd2 (.dK [])) mm2 (.tup [V.int q2, V.ref dd2, V.str "form"])) ee2 (.tup [V.ref x2, V.ref mm2]) = HE2 at sE2 hE2 ⊢
    have kpE : Kp a H HE2 := ((kp1.trans kp2).trans kp3).trans (Kp.same (sE1.trans sE2))
    have srE := sr3.of_same (sE1.trans sE2)
    have b1 : q1.natAbs < 2 ^ 500 := Nat.lt_of_lt_of_le (show q1.natAbs < 2 ^ 4 by show _ < 16; omega) (pow_le2 (by decide))
    have b2 : q2.natAbs < 2 ^ 500 := Nat.lt_of_lt_of_le (show q2.natAbs < 2 ^ 4 by show _ < 16; omega) (pow_le2 (by decide))
    have fnil : ∀ f, Ends_ [] f := fun f x hx => by simp at hx
    have inil : In (ns.map tx) [] := fun w hw => by simp [nms] at hw
    refine ⟨_, rfl, nl, rfl, ⟨_, sql_of (kpE _ _ hnl nna)⟩, for_list (K := K) (a := nl) (xs := NmL ns) (fun i σ H' => ∃ (e1 e2 : Addr) (n1 n2 : Int) (ts us : List Tm) (x8 x9 x10 x11 x12 : Option V), σ = [some (.ref a), some (.ref nl), some (.ref d), some (.int q1), some (.int q2), some (.int q4), some (.ref e1), some (.ref e2), x8, x9, x10, x11, x12] ∧ Su C H' (ns.map tx) f (500 + i) e1 n1 ts ∧ Su C H' (ns.map tx) g (500 + i) e2 n2 us ∧ Kp a H H' ∧ Src H' a c)
      ⟨ee1, ee2, q1, q2, [], [], none, none, none, none, none, rfl, ⟨hE1.keep sE2, .nil, bd_nil b1, inil, fnil f⟩, ⟨hE2, .nil, bd_nil b2, inil, fnil g⟩, kpE, srE⟩ (fun i σ H' _ ⟨_, _, _, _, _, _, _, _, _, _, _, _, _, _, z, _⟩ => sql_of (z _ _ hnl nna)) ?_ ?_⟩
    · rintro i y σ H4 hi ⟨e1, e2, n1, n2, ts, us, x8, x9, x10, x11, x12, rfl, S1, S2, kp4, sr4⟩
      have hil : i < 10 := by
        have := (List.getElem?_eq_some_iff.mp hi).1
        rw [nml_len] at this
        omega
      obtain ⟨ds, hds, rfl⟩ := nml_at (List.mem_of_getElem? hi)
      have hNm := hnm ds hds
      have hw : tx ds ∈ ns.map tx := List.mem_map.mpr ⟨ds, hds, rfl⟩
      refine ⟨_, rfl, a, c, 3, rfl, sr4, by decide, by decide, fun t5 H5 t50 t51 kp5 sr5 => ⟨_, _, rfl, rfl, fun q5 eq5 => ?_⟩⟩
      have kp45 := kp4.trans kp5
      obtain ⟨kvs, hd1, hen⟩ := hD.kp kp45 sr
      obtain ⟨ll, p1, p2, w1, w2, w3, w4⟩ := hen (tx ds) hw
      have gA : Gd [⟨tx ds, 1, (f (tx ds)).1, (f (tx ds)).2⟩] := .one hNm.st w3.2.1
      have gB : Gd [⟨tx ds, 1, (g (tx ds)).1, (g (tx ds)).2⟩] := .one hNm.st w4.2.1
      have bA : Bd 201 0 [⟨tx ds, 1, (f (tx ds)).1, (f (tx ds)).2⟩] := bd_one (by decide) w3.2.2.1 w3.2.2.2
      have bB : Bd 201 0 [⟨tx ds, 1, (g (tx ds)).1, (g (tx ds)).2⟩] := bd_one (by decide) w4.2.2.1 w4.2.2.2
      have b5 : q5.natAbs < 2 ^ 2 := by
        show _ < 4
        omega
      refine ⟨_, rfl, _, rfl, _, rfl, d, .ref ll, rfl, by rw [← w1]; exact DGet.k (k := Sum.inr (tx ds)) hd1, ll, _, 0, _, rfl, rfl, sql_of w2, rfl, ds, p1, _, _, rfl, hNm, w3.1, w3.2.1, fun o1 H6 s6 ho1 => ?_⟩
      refine ⟨_, rfl, q5, rfl, fun o2 H7 s7 ho2 => ?_⟩
      refine ⟨Str.ofString "*", o1, o2, 0, q5, _, [], _, _, rfl, ho1.keep s7, ho2, gA, .nil, (by show (1 : Nat) + 0 ≤ 45; decide), bA.mono (by decide), bd_nil (lt_pow b5 (by decide)), by decide, .inl rfl, fun _ z => absurd z.2 (by decide), fun z => absurd z (by decide), fun l8 xs8 H8 s8 hl8 ha8 => ?_⟩
      rw [due_mul] at ha8
      obtain ⟨e8, rfl, he8⟩ := ha8
      have gl : Gd (mulT q5 [⟨tx ds, 1, (f (tx ds)).1, (f (tx ds)).2⟩]) := gA.mul
      have bl : Bd (201 + 2) (0 * q5) (mulT q5 [⟨tx ds, 1, (f (tx ds)).1, (f (tx ds)).2⟩]) := bd_mulT bA b5
      have il : In (ns.map tx) (mulT q5 [⟨tx ds, 1, (f (tx ds)).1, (f (tx ds)).2⟩]) := .mul hw
      have el : Ends_ (mulT q5 [⟨tx ds, 1, (f (tx ds)).1, (f (tx ds)).2⟩]) f := .mul
      generalize mulT q5 [⟨tx ds, 1, (f (tx ds)).1, (f (tx ds)).2⟩] = lt at he8 gl bl il el
      generalize 0 * q5 = ln at he8 bl
      -- right
      have s58 := (s6.trans s7).trans s8
      refine ⟨_, rfl, _, rfl, _, _, rfl, rfl, .inl ⟨by omega, by omega⟩, fun q6 eq6 => ⟨q6, rfl, fun o3 H9 s9 ho3 => ?_⟩⟩
      have b6 : q6.natAbs < 2 ^ 2 := by
        show _ < 4
        have hq4 : q4 = 1 ∨ q4 = -1 := by omega
        rcases hq4 with z | z
        · rw [z] at eq6
          omega
        · rw [z] at eq6
          omega
      have s59 := s58.trans s9
      refine ⟨_, rfl, _, rfl, _, rfl, d, .ref ll, rfl, by rw [← w1]; exact DGet.k (k := Sum.inr (tx ds)) (s59 _ _ hd1), ll, _, 1, _, rfl, rfl, sql_of (s59 _ _ w2), rfl, ds, p2, _, _, rfl, hNm, s59 _ _ w4.1, w4.2.1, fun o4 H10 s10 ho4 => ?_⟩
      refine ⟨Str.ofString "*", o3, o4, q6, 0, [], _, "number", "form", rfl, ho3.keep s10, ho4, .nil, gB, (by show 0 + (1 : Nat) ≤ 45; decide), bd_nil (lt_pow b6 (by decide)), bB.mono (by decide), by decide, .inr rfl, fun _ z => absurd z.1 (by decide), fun z => absurd z (by decide), fun l11 xs11 H11 s11 hl11 ha11 => ?_⟩
      rw [due_mul2 (by decide)] at ha11
      obtain ⟨e11, rfl, he11⟩ := ha11
      have gr : Gd (mulT q6 [⟨tx ds, 1, (g (tx ds)).1, (g (tx ds)).2⟩]) := gB.mul
      have br : Bd (201 + 2) (0 * q6) (mulT q6 [⟨tx ds, 1, (g (tx ds)).1, (g (tx ds)).2⟩]) := bd_mulT bB b6
      have ir : In (ns.map tx) (mulT q6 [⟨tx ds, 1, (g (tx ds)).1, (g (tx ds)).2⟩]) := .mul hw
      have er : Ends_ (mulT q6 [⟨tx ds, 1, (g (tx ds)).1, (g (tx ds)).2⟩]) g := .mul
      generalize mulT q6 [⟨tx ds, 1, (g (tx ds)).1, (g (tx ds)).2⟩] = rt at he11 gr br ir er
      generalize 0 * q6 = rn at he11 br
      have s811 := (s9.trans s10).trans s11
      have s511 := s58.trans s811
      refine ⟨_, rfl, _, rfl, iteF' rfl ?_⟩
      refine ⟨_, rfl, _, rfl, iteF' rfl ?_⟩
      -- more
      have S1' := (S1.kp kp5 sr4.at_.choose_spec).keep s511
      have S2' := (S2.kp kp5 sr4.at_.choose_spec).keep s511
      have lts := S1'.inn.len S1'.gd hz'
      have llt := il.len gl hz'
      have lus := S2'.inn.len S2'.gd hz'
      have lrt := ir.len gr hz'
      refine ⟨_, rfl, _, rfl, l8, _, 0, _, rfl, rfl, sql_of (s811 _ _ hl8), rfl, Str.ofString "+", e1, e8, n1, ln, ts, lt, _, _, rfl, S1'.en, he8.keep s811, S1'.gd, gl, by omega, S1'.bd.mono (by omega), bl.mono (by decide), by decide, .inl rfl, fun z => absurd z (by decide), fun z => absurd z (by decide), fun l12 xs12 H12 s12 hl12 ha12 => ?_⟩
      obtain ⟨e12, n12, t12, rfl, S12⟩ := S1'.add (e' := e8) gl (bl.mono (by omega)) il el hz' ha12
      refine ⟨_, rfl, _, rfl, iteF' rfl ?_⟩
      refine ⟨_, rfl, l12, _, 0, _, rfl, rfl, sql_of hl12, rfl, ?_⟩
      have sr12 := sr5.of_same (s511.trans s12)
      obtain ⟨_, hsa12⟩ := sr12.at_
      refine ⟨_, rfl, a, c, 3, rfl, sr12, by decide, by decide, fun t13 H13 _ _ kp13 sr13 => ⟨_, _, rfl, rfl, _, rfl, ite2 (fun _ => ?_) (fun _ => ?_)⟩⟩
      · have S2'' := (S2'.keep s12).kp kp13 hsa12
        have hl11' := kp13 _ _ (s12 _ _ hl11) (sr12.ne_len (s12 _ _ hl11) (by show (1 : Nat) ≠ 3; decide))
        refine ⟨_, rfl, _, rfl, l11, _, 0, _, rfl, rfl, sql_of hl11', rfl, Str.ofString "+", e2, e11, n2, rn, us, rt, _, _, rfl, S2''.en, (he11.keep s12).kp kp13 hsa12, S2''.gd, gr, by omega, S2''.bd.mono (by omega), br.mono (by decide), by decide, .inl rfl, fun z => absurd z (by decide), fun z => absurd z (by decide), fun l14 xs14 H14 s14 hl14 ha14 => ?_⟩
        obtain ⟨e14, n14, t14, rfl, S14⟩ := S2''.add (e' := e8) gr (br.mono (by omega)) ir er hz' ha14
        refine ⟨_, rfl, _, rfl, iteF' rfl ?_⟩
        exact ⟨_, rfl, l14, _, 0, _, rfl, rfl, sql_of hl14, rfl, e12, e14, n12, n14, t12, t14, _, _, _, _, _, rfl, (S12.kp kp13 hsa12).keep s14, S14, ((kp45.trans (Kp.same (s511.trans s12))).trans kp13).trans (Kp.same s14), sr13.of_same s14⟩
      · have S2'' := (S2'.keep s12).kp kp13 hsa12
        exact ⟨e12, e2, n12, n2, t12, us, _, _, _, _, _, rfl, S12.kp kp13 hsa12, ⟨S2''.en, S2''.gd, S2''.bd.mono (by omega), S2''.inn, S2''.ends⟩, (kp45.trans (Kp.same (s511.trans s12))).trans kp13, sr13⟩
    · rintro σ H4 ⟨e1, e2, n1, n2, ts, us, x8, x9, x10, x11, x12, rfl, S1, S2, kp4, sr4⟩
      have lts := S1.inn.len S1.gd hz'
      have lus := S2.inn.len S2.gd hz'
      have hB : 500 + (NmL ns).length ≤ 9000 := by rw [nml_len]; omega
      exact ⟨_, rfl, _, rfl, e1, e2, n1, n2, ts, us, _, _, rfl, S1.en, S2.en, S1.gd, S2.gd, by omega, S1.bd.mono hB, S2.bd.mono hB, .inl rfl, fun H5 s5 => k H5 (kp4.trans (Kp.same s5)) (sr4.of_same s5)⟩
/-! ### the bounds -/
abbrev sBou : Stmt := top 47
theorem scBou : FnScope ["_law_source_here", "_law_one_here", "_law_top", "_law_bottom"] ["_law_source_here", "_law_one_here"] (defScope sBou) := ⟨rfl, rfl, rfl, by decide +kernel, rfl, by decide +kernel, by decide +kernel⟩
def spBou (C : Addr) : Sp := fun vs H Q _ => ∃ (a c e : Addr) (n : Int) (ts : List Tm), vs = [.ref a, .ref e] ∧ Src H a c ∧ Ent C H e n ts "form" ∧ Gd ts ∧ ts.length ≤ 10 ∧ Bd 3000 n ts ∧ ∀ H', Kp a H H' → Src H' a c → Q (.bl true) H'
theorem ok_bou {C : Addr} (D : Df K mg "_law_bounds" sBou ["_law_source_here", "_law_one_here"]) (T : Frm K mg C) (TT : Fk P w K mg base 2 "_law_take" sTake ["_law_source_here", "_law_many"] spTake) (PL : Fk P w K mg base 1 "_law_plain" sPla ["_law_number_here"] (spPla C)) (AL : Fk P w K mg base 11 "_law_all_signs" sAll ["_law_one_here", "_law_two"] (spAll C)) (FA : Fk P w K mg base 1 "_law_far" sFar ["_law_model", "_law_sign"] spFar) (IN : Fk P w K mg base 1 "_law_is_number" sIsN ["_law_actual"] spIsN)
    {pA gA : Addr} {fdL : FuncData} (PO : PropOf K C "least" pA gA) (GL : FnOk P w K mg base CX0 1 gA fdL ["self"] (spEnd C mnT)) (bL : Binds K fdL ["self"] []) {pB gB : Addr} {fdM : FuncData} (PM : PropOf K C "most" pB gB) (GM : FnOk P w K mg base CX0 1 gB fdM ["self"] (spEnd C mxT)) (bM : Binds K fdM ["self"] []) (ma : mg "abs" = none) : FnOk P w K mg base CX0 12 D.f D.fd ["_law_source_here", "_law_one_here"] (spBou C) := by
  refine D.fn.ok scBou (fun vs H Q E h => ?_) (fun cdv A outer s0 H vs Q E hr h => ?_)
  · obtain ⟨a, c, e, n, ts, rfl, _⟩ := h
    rfl
  · obtain ⟨a, c, e, n, ts, rfl, sr, he, g1, hl, hb, k⟩ := h
    have hr1 : Room (1 + 1) _ := hr.mono (by decide)
    refine ⟨_, (pss_cons (ps_set (i := 2) scBou.nd rfl (.inl rfl) (pe_call FA.G (hr.mono (by decide)) (by rfl) FA.D.mgf FA.D.fn.kp FA.D.bd .nil pass0 (pa_cons (pe_ix ix_tup (pv 1) pe_int (fun _ _ => rfl)) (pa_cons pe_int pa_nil))))
      (pss_cons (ps_set (i := 3) scBou.nd rfl (.inl rfl) (pe_un un_neg (pe_call FA.G (hr.mono (by decide)) (by rfl) FA.D.mgf FA.D.fn.kp FA.D.bd .nil pass0 (pa_cons (pe_ix ix_tup (pv 1) pe_int (fun _ _ => rfl)) (pa_cons (pe_un un_neg pe_int) pa_nil)))))
      (pss_cons (ps_if (PW.pt (pw_or (pt_not (pt_val (pe_call IN.G (hr.mono (by decide)) (by rfl) IN.D.mgf IN.D.fn.kp IN.D.bd .nil pass0 (pa_cons (pe_prop (pe_ix ix_tup (pv 1) pe_int (fun _ _ => rfl)) T.cl PM GM hr1 bM .nil pass0 rfl) pa_nil)))) (pw_or1 (pt_not (pt_val (pe_call IN.G (hr.mono (by decide)) (by rfl) IN.D.mgf IN.D.fn.kp IN.D.bd .nil pass0 (pa_cons (pe_prop (pe_ix ix_tup (pv 1) pe_int (fun _ _ => rfl)) T.cl PO GL hr1 bL .nil pass0 rfl) pa_nil)))))))
      (pss_one (ps_never))
      pss_nil)
      (pss_cons (ps_if (PW.pt (pw_or (pt_cmpR op_ne (pe_prop (pe_ix ix_tup (pv 1) pe_int (fun _ _ => rfl)) T.cl PM GM hr1 bM .nil pass0 rfl) (pv 2) (nomark _)) (pw_or1 (pt_cmpR op_ne (pe_prop (pe_ix ix_tup (pv 1) pe_int (fun _ _ => rfl)) T.cl PO GL hr1 bL .nil pass0 rfl) (pv 3) (nomark _)))))
      (pss_one (ps_never))
      pss_nil)
      (C8.pss_cut (ps_if (pt_cmpR op_lt (pe_op op_addL (pe_callB call_absL (by rfl) ma (by decide +kernel) (pa_cons (pv 2) pa_nil)) (pe_callB call_absL (by rfl) ma (by decide +kernel) (pa_cons (pv 3) pa_nil))) (pe_op op_powL pe_int pe_int) (nomark _))
      (pss_cons (ps_set (i := 2) scBou.nd rfl (.inl rfl) (pe_op op_subL (pe_op op_addL (pv 2) (pe_call TT.G (hr.mono (by decide)) (by rfl) TT.D.mgf TT.D.fn.kp TT.D.bd .nil pass0 (pa_cons (pv 0) (pa_cons pe_int pa_nil)))) pe_int))
      (pss_one (ps_set (i := 3) scBou.nd rfl (.inl rfl) (pe_op op_subL (pe_op op_addL (pv 3) (pe_call TT.G (hr.mono (by decide)) (by rfl) TT.D.mgf TT.D.fn.kp TT.D.bd .nil pass0 (pa_cons (pv 0) (pa_cons pe_int pa_nil)))) pe_int))))
      pss_nil)
      (pss_one (ps_ret (pe_and (pe_call AL.G (hr.mono (by decide)) (by rfl) AL.D.mgf AL.D.fn.kp AL.D.bd .nil pass0 (pa_cons (pv 1) (pa_cons (pe_call PL.G (hr.mono (by decide)) (by rfl) PL.D.mgf PL.D.fn.kp PL.D.bd .nil pass0 (pa_cons (pv 2) pa_nil)) pa_nil))) (pe_one (pe_call AL.G (hr.mono (by decide)) (by rfl) AL.D.mgf AL.D.fn.kp AL.D.bd .nil pass0 (pa_cons (pv 1) (pa_cons (pe_call PL.G (hr.mono (by decide)) (by rfl) PL.D.mgf PL.D.fn.kp PL.D.bd .nil pass0 (pa_cons (pv 3) pa_nil)) pa_nil)))))))))))), ?_⟩
    obtain ⟨p, m, y1, y2, y3⟩ := he.formE
    obtain ⟨dx, tt, uu, b1, _, _⟩ := id y2
    refine ⟨_, rfl, e, _, 1, _, rfl, rfl, sql_ofT y1, rfl, m, n, 1, ts, rfl, y3.any, hb.mono (by decide), .inl rfl, fun H1 s1 => ?_⟩
    refine ⟨_, rfl, e, _, 1, _, rfl, rfl, sql_ofT (s1 _ _ y1), rfl, 1, rfl, m, n, -1, ts, rfl, (y3.keep s1).any, hb.mono (by decide), .inr rfl, fun H2 s2' => ⟨_, rfl, ?_⟩⟩
    have s2 := s1.trans s2'
    refine ⟨_, rfl, e, _, 0, _, rfl, rfl, sql_ofT (s2 _ _ y1), rfl, p, dx, _, rfl, s2 _ _ b1, p, n, ts, rfl, y2.keep s2, by omega, hb.mono (by decide), fun H3 s3' => ⟨_, rfl, true, rfl, iteF' rfl ?_⟩⟩
    have s3 := s2.trans s3'
    refine ⟨_, rfl, e, _, 0, _, rfl, rfl, sql_ofT (s3 _ _ y1), rfl, p, dx, _, rfl, s3 _ _ b1, p, n, ts, rfl, y2.keep s3, by omega, hb.mono (by decide), fun H4 s4' => ⟨_, rfl, true, rfl, iteF' rfl ?_⟩⟩
    have s4 := s3.trans s4'
    refine ⟨_, rfl, e, _, 0, _, rfl, rfl, sql_ofT (s4 _ _ y1), rfl, p, dx, _, rfl, s4 _ _ b1, p, n, ts, rfl, y2.keep s4, by omega, hb.mono (by decide), fun H5 s5' => ⟨_, rfl, rfl, _, rfl, iteF' ?_ ?_⟩⟩
    · rw [far_max g1]
      simp
    have s5 := s4.trans s5'
    refine ⟨_, rfl, e, _, 0, _, rfl, rfl, sql_ofT (s5 _ _ y1), rfl, p, dx, _, rfl, s5 _ _ b1, p, n, ts, rfl, y2.keep s5, by omega, hb.mono (by decide), fun H6 s6' => ⟨_, rfl, rfl, _, rfl, iteF' ?_ ?_⟩⟩
    · rw [far_min g1]
      show (!decide (V.int _ = V.int (- -(_)))) = false
      rw [Int.neg_neg]
      simp
    have s6 := s5.trans s6'
    have c1 : (farS 1 n ts).natAbs < 2 ^ 6008 := by
      rw [far_max g1]
      exact end_bd hb (by omega) (mxT_bd hb)
    have c2 : (- farS (-1) n ts).natAbs < 2 ^ 6008 := by
      rw [far_min g1, Int.neg_neg]
      exact end_bd hb (by omega) (mnT_bd hb)
    have sr6 := sr.of_same s6
    have kp6 : Kp a H H6 := Kp.same s6
    refine ⟨fun σ' H' => ∃ u v : Int, σ' = [some (.ref a), some (.ref e), some (.int u), some (.int v)] ∧ u.natAbs < 2 ^ 6010 ∧ v.natAbs < 2 ^ 6010 ∧ Kp a H H' ∧ Src H' a c, ?_, ?_⟩
    · have d1 : (2 : Nat) ^ 6010 = 4 * 2 ^ 6008 := by rw [show (6010 : Nat) = 6008 + 2 from rfl, Nat.pow_add]; omega
      have hpos : 0 < (2 : Nat) ^ 6008 := Nat.two_pow_pos _
      refine ⟨_, rfl, _, rfl, fun r1 z1 z2 => ⟨_, rfl, _, rfl, fun r2 z3 z4 => ⟨_, _, rfl, rfl, fun r3 z5 => ⟨10, 50, rfl, rfl, ⟨by decide, by decide, by decide⟩, fun b eb => ⟨_, _, rfl, rfl, _, rfl, ite2 (fun _ => ?_) (fun _ => ?_)⟩⟩⟩⟩⟩
      · refine ⟨_, rfl, _, rfl, a, c, 3, rfl, sr6, by decide, by decide, fun t7 H7 t70 t71 kp7 sr7 => ⟨_, _, rfl, rfl, fun q7 e7 => ⟨_, _, rfl, rfl, fun q8 e8 => ?_⟩⟩⟩
        refine ⟨_, rfl, _, rfl, a, c, 3, rfl, sr7, by decide, by decide, fun t9 H9 t90 t91 kp9 sr9 => ⟨_, _, rfl, rfl, fun q9 e9 => ⟨_, _, rfl, rfl, fun q10 e10 => ?_⟩⟩⟩
        refine ⟨q8, q10, rfl, ?_, ?_, (kp6.trans kp7).trans kp9, sr9⟩
        · rw [d1]
          have h4 : 4 ≤ (2 : Nat) ^ 6008 := by
            have := pow_le2 (show 2 ≤ 6008 by decide)
            exact this
          generalize (2 : Nat) ^ 6008 = z at c1 c2 h4 hpos ⊢
          omega
        · rw [d1]
          have h4 : 4 ≤ (2 : Nat) ^ 6008 := by
            have := pow_le2 (show 2 ≤ 6008 by decide)
            exact this
          generalize (2 : Nat) ^ 6008 = z at c1 c2 h4 hpos ⊢
          omega
      · exact ⟨_, _, rfl, lt_pow c1 (by decide), lt_pow c2 (by decide), kp6, sr6⟩
    rintro σ' H7 ⟨u, v, rfl, hu1, hv1, kp7, sr7⟩
    obtain ⟨_, hsa⟩ := sr.at_
    have he7 := he.kp kp7 hsa
    refine ⟨_, rfl, _, rfl, u, rfl, fun o1 H8 s8 ho1 => ?_⟩
    refine ⟨e, o1, n, u, ts, [], _, _, rfl, he7.keep s8, ho1, g1, .nil, by simp; omega, hb.mono (by decide), bd_nil (lt_pow hu1 (by decide)), .inl rfl, fun H9 s9 => ⟨true, rfl, iteT' rfl ?_⟩⟩
    refine ⟨_, rfl, _, rfl, v, rfl, fun o2 H10 s10 ho2 => ?_⟩
    have s710 := (s8.trans s9).trans s10
    exact ⟨e, o2, n, v, ts, [], _, _, rfl, he7.keep s710, ho2, g1, .nil, by simp; omega, hb.mono (by decide), bd_nil (lt_pow hv1 (by decide)), .inl rfl, fun H11 s11 => k H11 (kp7.trans (Kp.same (s710.trans s11))) (sr7.of_same (s710.trans s11))⟩
end
end DO

namespace DO
open PySem PySem.Spec PyProof.Rows L2
section
variable {P : Program} {w : World} {K : PySem.W.Frag} {mg : Str → Option Value} {base : Heap}
/-! ### a def that is called while no repr is under way -/
structure FnG (P : Program) (w : World) (K : PySem.W.Frag) (mg : Str → Option Value) (base : Heap) (k : Nat) (f : Addr) (fd : FuncData) (ps : List Str) (sp : Sp) : Prop where
  len : ∀ vs H Q E, sp vs H Q E → vs.length = ps.length
  run : ∀ (A : Around) (out : List Env) (s : Shared) (H : Hp) (args : Args) (us : List Value) (vs : List V) (Q : VK) (E : XK), A.guards = some [] → Room k A → Env0 P w K mg base A out s H →
    BindsTo s fd args (ps.zip us) → Vals vs us → sp vs H Q E → codeAny (model P w) A (.call (.ref f) args) (CR CX0 out P w H s Q E) s
/-- the rule for such a def -/
theorem okG {x qual : Str} {st : Stmt} {f : Addr} {fd : FuncData} {N ps : List Str} {k : Nat} {sp : Sp} (F : Fun K x qual st f fd) (S : FnScope N ps (defScope st)) (len : ∀ vs H Q E, sp vs H Q E → vs.length = ps.length)
    (go : ∀ (cv : Value) (A : Around) (out : List Env) (s : Shared) (H : Hp) (vs : List V) (Q : VK) (E : XK), A.guards = some [] → Room k (A.deeper (envOfC qual (defScope st) s.heap.objs.size f cv)) → sp vs H Q E →
      ∃ t, PSs (cxOf CX0 P w K mg base N qual (defScope st) f cv A out s H E).nox (defBody st) t ∧ t { nx := fun _ H' => Q .non H', rt := Q } (L2.start N vs) H) : FnG P w K mg base (k + 1) f fd ps sp := by
  obtain ⟨oc, od, kV, doc, pm, an, cv, ct, osl, rfl, lk, hcd⟩ := F.ex
  refine ⟨len, fun A out s H args us vs Q E hg hr env bnd rel sat => ?_⟩
  have inK : K.In s.heap := env.mod.kin.keeps fun b o z => (env.bs b o z).1
  have nl : s.heap.NoLimit := env.mod.nolimit.keeps fun b o z => (env.bs b o z).1
  have loc : ∀ y ∈ ps.zip us, (defScope st).names.lookup y.1 = some .local ∨ ((defScope st).names.lookup y.1 = some .cell ∧ ((cellsFrom (s.heap.objs.size + 1) (defScope st).names []).lookup y.1).isSome = true) := by
    rintro ⟨nm, val⟩ hy
    have hp := S.par nm (List.of_mem_zip hy).1
    exact hp.imp id fun z => ⟨z, PySem.W.cellsFrom_some _ _ _ (.inl z)⟩
  refine codeAny_call_function hr.depth (inK _ _ lk) rfl S.co S.gen rfl (PySem.W.codeRec_of inK hcd) (bnd _ _ _ _ (wpAny_newFunctionEnv_cells S.kind loc fun ev hev s1 ic => ?_))
  subst hev
  obtain ⟨t, ht, rd⟩ := go cv A out s H vs Q E hg (hr.deeper _) sat
  have J := inv_start (CX := CX0) (E := E) (f := f) (cd := cv) S hr.hd env (len _ _ _ _ sat) rel ic
  refine ⟨nl.keeps ic.toInCall.keep, codeAny_func (wpAny_mono (ht.nox.run [] s1 (L2.start N vs) H _ J rd) ?_ fun _ _ z => z)⟩
  rintro fl s2 hfl
  cases fl
  case ret u =>
    obtain ⟨y, σ2, H2, J2, ry, qy⟩ := hfl
    exact ⟨y, H2, J2.os, J2.bare, J2.base, J2.hok, ry, qy⟩
  case next =>
    obtain ⟨σ2, H2, J2, qy⟩ := hfl
    exact ⟨V.non, H2, J2.os, J2.bare, J2.base, J2.hok, rfl, qy⟩
  case brk =>
    obtain ⟨_, _, _, z⟩ := hfl
    exact z.elim
  case cont =>
    obtain ⟨_, _, _, z⟩ := hfl
    exact z.elim
section
variable {X : Cx} {k : Nat} {f : Addr} {fd : FuncData} {ps : List Str} {sp : Sp} {x : Str} {p pos : Pos} {e : Expr} {es : List Expr} {t : TA}
/-- f(e, ..), no repr being under way -/
theorem pe_callG (F : FnG X.prog X.w X.K X.mg X.base k f fd ps sp) (hg0 : X.A.guards = some []) (hr : Room k X.A) (hg : Gl X x) (hm : X.mg x = some (.ref f)) (kp : PySem.W.keepIn X.K (.ref f) = true) (bd : Binds X.K fd ps []) (ha : PA X (e :: es) t) (hdb : (x == ("__debug__" : Str)) = false := by decide)
    (hst : starEach (e :: es) X.env = (false, eval e X.env) :: starEach es X.env := by rfl) (hpl : (backTo pos (starEach es X.env)).any (·.1) = false := by rfl) : PE X (.Call (.Name x p) (e :: es) [] pos) (tCall sp [] E0 t) := ⟨fun pins s σ H Q I h => by
  refine wpAny_Call_Name_kw (ld_glob I hg hm ?_ hdb)
  have hargs := ha.run pos pins s σ H _ I h
  refine PySem.W.callWith_K (h₀ := X.base) I.ok.mod.kin kp (thn hargs fun us s1 z => ?_) hst hpl
  obtain ⟨vs, H1, I1, rel, q⟩ := z
  rw [List.append_nil] at q
  have ln : us.length = ps.length := by
    rw [← rel.length]
    exact F.len _ _ _ _ q
  have bnd := bd s1 us I1.kIn (by rw [List.append_nil]; exact ln)
  rw [List.append_nil] at bnd
  refine ⟨I1.kIn, wpAny_call (codeAny_mono (F.run X.A X.stack s1 H1 _ us vs Q E0 hg0 hr I1.env0 bnd rel q) ?_)⟩
  rintro (er | fl) s2 hz
  · exact False.elim hz
  · cases fl
    case ret u => exact I1.after hz
    all_goals exact False.elim hz⟩
/-! ### repr of a dict of whole numbers by names -/
def reD (M : List Tm) : PyData := .dict (M.map fun x => (.str x.nm, .int x.k))
structure ReOk (M : List Tm) : Prop where
  sz : M.length ≤ 20
  nm : ∀ x ∈ M, x.nm.length ≤ 12 ∧ ∀ c ∈ x.nm.cps.toList, c < 16 ^ 8
  bd : ∀ x ∈ M, x.k.natAbs < 2 ^ 201
theorem re_show {M : List Tm} (h : ReOk M) : (reD M).showable = true := by
  unfold reD
  simp only [PyData.showable]
  have hb := h.bd
  clear h
  induction M with
  | nil => rfl
  | cons x r ih =>
    simp only [List.map_cons, PyData.showableKv, PyData.showable, Bool.true_and, Bool.and_eq_true, decide_eq_true_eq]
    refine ⟨?_, ih fun y hy => hb y (List.mem_cons_of_mem _ hy)⟩
    have h1 := hb x List.mem_cons_self
    by_cases z : x.k.natAbs = 0
    · rw [z]
      decide
    · exact Nat.lt_trans ((Nat.log2_lt z).mpr h1) (by decide)
theorem re_short : ∀ M : List Tm, (∀ x ∈ M, x.nm.length ≤ 12 ∧ ∀ c ∈ x.nm.cps.toList, c < 16 ^ 8) → (∀ x ∈ M, x.k.natAbs < 2 ^ 201) → PyData.leavesShortKv 70 (M.map fun x => (.str x.nm, .int x.k)) = true ∧ PyData.weightKv (M.map fun x => (.str x.nm, .int x.k)) ≤ M.length * 250
  | [], _, _ => ⟨rfl, by simp only [List.map_nil, PyData.weightKv]; omega⟩
  | x :: r, h1, h2 => by
    obtain ⟨i1, i2⟩ := re_short r (fun y hy => h1 y (List.mem_cons_of_mem _ hy)) fun y hy => h2 y (List.mem_cons_of_mem _ hy)
    obtain ⟨a1, a2⟩ := h1 x List.mem_cons_self
    have a3 := h2 x List.mem_cons_self
    constructor
    · simp only [List.map_cons, PyData.leavesShortKv, PyData.leavesShort, Bool.and_eq_true, List.all_eq_true, decide_eq_true_eq]
      refine ⟨⟨a2, ?_⟩, i1⟩
      have e := int_text_length_le10 (k := 61) (by decide) (Nat.lt_of_lt_of_le a3 (by decide +kernel))
      show (Str.ofString (toString x.k)).length ≤ 70
      rw [PySem.ofString_length]
      omega
    · simp only [List.map_cons, PyData.weightKv, PyData.weight, List.length_cons]
      have e1 : x.nm.cps.size = x.nm.length := rfl
      have e2 : (if (x.k == 0) = true then 0 else x.k.natAbs.log2 + 1) ≤ 202 := by
        split
        · omega
        · rename_i z
          have z' : x.k.natAbs ≠ 0 := fun y => z (by simpa using y)
          have := (Nat.log2_lt z').mpr a3
          omega
      omega
theorem re_len {M : List Tm} (h : ReOk M) : (reD M).shown.length ≤ sizeLine := by
  obtain ⟨h1, h2, h3⟩ := h
  obtain ⟨i1, i2⟩ := re_short M h2 h3
  have := PyData.shown_le 70 (by decide) (reD M) (by unfold reD; simp only [PyData.leavesShort]; exact i1)
  have e : (reD M).weight = PyData.weightKv (M.map fun x => (.str x.nm, .int x.k)) := by unfold reD; simp only [PyData.weight]
  rw [e] at this
  have z := sizeLine_eq
  omega
theorem re_reads {h : Heap} {P : Program} {w : World} : ∀ {M : List Tm} {es : List DictEntry} {vs : List (Key × Value)}, KV (SD M) vs → Pairs (mixKind P w) es vs →
    ReadsAll h (es.map (·.key)) (M.map fun x => .str x.nm) [] ∧ ReadsAll h (es.map (·.val)) (M.map fun x => .int x.k) []
  | [], es, vs, r, q => by
    have r' : Paired _ [] vs := r
    cases r'
    cases q
    exact ⟨.nil, .nil⟩
  | x :: M, es, vs, r, q => by
    have r' : Paired _ ((Sum.inr x.nm, V.int x.k) :: SD M) vs := r
    cases r' with
    | @cons p0 kv ps0 vs2 a b =>
      obtain ⟨a1, a2⟩ := a
      cases q with
      | @cons en _ es2 _ c d e =>
        obtain ⟨i1, i2⟩ := re_reads (M := M) b e
        obtain ⟨t, ht⟩ := a2
        have c' : keyIs (Sum.inr x.nm) en.key = true := by
          have c2 : keyIs kv.1 en.key = true := c
          rw [← a1] at c2
          exact c2
        rw [ht] at d
        rcases keyIs_shape c' with ⟨i, u, z, _⟩ | ⟨y, u, z, ek⟩
        · cases z
        · cases z
          constructor
          · show ReadsAll h (en.key :: es2.map (·.key)) (.str x.nm :: M.map fun x => .str x.nm) ([] ++ [])
            rw [ek]
            exact .cons (.str _ _) i1
          · show ReadsAll h (en.val :: es2.map (·.val)) (.int x.k :: M.map fun x => .int x.k) ([] ++ [])
            rw [d]
            exact .cons (.int _ _) i2
theorem call_reprD (hg : X.A.guards = some []) (hu : X.A.units + 8 < cLine) : CallR X (.builtin "repr") (fun xs H Q => ∃ (d : Addr) (M : List Tm), xs = [.ref d] ∧ H d = some (.dK (SD M)) ∧ ReOk M ∧ Q (.str (reD M).shown) H) := by
  intro pins s σ H xs us Q I r h
  obtain ⟨d, M, rfl, hd, ok, q⟩ := h
  obtain ⟨u, rfl, hu2⟩ := vals1 r
  obtain rfl : u = Value.ref d := hu2
  obtain ⟨_, hsys, vs, rkv, ho, es, ep, hget, hex, hdat, _, hpairs, _⟩ := dk_of I.hok hd
  obtain ⟨i1, i2⟩ := re_reads (h := s.heap) rkv hpairs
  have rd : Reads s.heap (.ref d) (reD M) (d :: [] ++ []) := by
    unfold reD
    refine .dict hget hex.1 hdat ?_ ?_
    · rw [List.map_map]
      exact i1
    · rw [List.map_map]
      exact i2
  have hdep : (reD M).depth ≤ 2 := by
    unfold reD
    simp only [PyData.depth]
    have : ∀ M : List Tm, PyData.depthKv (M.map fun x => (.str x.nm, .int x.k)) = 0 := fun M => by
      induction M with
      | nil => rfl
      | cons x r ih => simp only [List.map_cons, PyData.depthKv, PyData.depth, ih]; rfl
    rw [this]
    decide
  exact repr_of_reads' rd (re_show ok) (fun _ hm => by
    have hm' : sysModules ∈ [d] := hm
    have e := List.mem_singleton.mp hm'
    rw [← e] at hsys
    simp at hsys) hg (by omega) (fun _ _ z => z) (fun h' u tk hk => ⟨.str (reD M).shown, H, I.kept hk, ⟨u, rfl⟩, q⟩) (re_len ok)
end
end
end DO

namespace DO
open PySem PySem.Spec PyProof.Rows L2
section
variable {P : Program} {w : World} {K : PySem.W.Frag} {mg : Str → Option Value} {base : Heap}
/-! ### values -/
def knD (w : Str) : PyData := .tuple [.str "raised", .list [.tuple [.str "UnknownName", .str w]]]
theorem dp_kn {H : Hp} {t l : Addr} {w : Str} (h1 : H t = some (.tup [.str "raised", .ref l])) (h2 : RaisedAt H l [.str "UnknownName", .str w]) : Dp K H (.ref t) (knD w) := by
  obtain ⟨q, z1, z2⟩ := h2
  exact .tup (sql_ofT h1) (.cons (.str _) (.cons (.lst (sql_of z1) (.cons (.tup (sql_ofT z2) (.cons (.str _) (.cons (.str _) .nil))) .nil)) .nil))
theorem sh_kn {w : Str} (h : PyData.strOk w = true) : SeqAt.shaped (knD w) = true := by
  have e1 : PyData.strOk (Str.ofString "raised") = true := by decide +kernel
  have e2 : PyData.strOk (Str.ofString "UnknownName") = true := by decide +kernel
  unfold SeqAt.shaped knD
  simp [PyData.canLay0, PyData.canLayAll0, PyData.depth, PyData.depthAll, h, e1, e2]
theorem eqv_kn (w : Str) : PyData.eqv (knD w) (knD w) = true := by
  unfold knD
  simp [PyData.eqv, PyData.eqvAll]
theorem neverX {X : Cx} (h : X.xe = fun _ _ => False) : PassesOwn (model X.prog X.w) X.A X.env X.xe := by
  rw [h]
  exact PassesOwn.never
def mL (M ts : List Tm) : List Str := (nms ts).filter fun w => (getT M w).isNone
def gO (M : List Tm) : Str → Option Int := fun w => (getT M w).map (·.k)
theorem gO_none (M : List Tm) (w : Str) : (gO M w).isNone = (getT M w).isNone := by
  unfold gO
  cases getT M w <;> rfl
theorem miss_head (M : List Tm) : ∀ ts : List Tm, missT (gO M) ts = (mL M ts).head?
  | [] => rfl
  | x :: r => by
    have ih := miss_head M r
    unfold missT mL nms at ih ⊢
    rw [List.find?_cons, List.map_cons, List.filter_cons, gO_none]
    cases q : (getT M x.nm).isNone with
    | true => rfl
    | false => exact ih
theorem gO_getD (M : List Tm) (w : Str) : (gO M w).getD 0 = kOf M w := by
  unfold gO kOf
  cases getT M w <;> rfl
theorem valT_eq {M M1 ts : List Tm} (h : missT (gO M) ts = none) (hk : ∀ x ∈ ts, ∀ y, getT M x.nm = some y → kOf M1 x.nm = y.k) : valT (gO M) ts = (ts.map fun x => x.k * kOf M1 x.nm).sum := by
  unfold valT
  refine congrArg List.sum (List.map_congr_left fun x hx => ?_)
  have h2 : ts.find? (fun x => (gO M x.nm).isNone) = none := by
    unfold missT at h
    cases q : ts.find? (fun x => (gO M x.nm).isNone) with
    | none => rfl
    | some y =>
      rw [q] at h
      cases h
  have h3 := List.find?_eq_none.mp h2 x hx
  rw [gO_none] at h3
  show x.k * (gO M x.nm).getD 0 = x.k * kOf M1 x.nm
  rw [gO_getD]
  cases e : getT M x.nm with
  | none =>
    rw [e] at h3
    exact absurd rfl h3
  | some y => rw [hk x hx y e, kOf_some e]
theorem sum_perm (f : Tm → Int) {A B : List Tm} (h : A.Perm B) : (A.map f).sum = (B.map f).sum := by
  induction h with
  | nil => rfl
  | cons x _ ih => rw [List.map_cons, List.map_cons, List.sum_cons, List.sum_cons, ih]
  | swap x y l =>
    rw [List.map_cons, List.map_cons, List.map_cons, List.map_cons, List.sum_cons, List.sum_cons, List.sum_cons, List.sum_cons]
    omega
  | trans _ _ h1 h2 => exact h1.trans h2
theorem un8 {k : Nat} {A : Around} (hr : Room k A) : A.units + 8 < cLine := by
  have := hr.un
  omega
theorem Nm.cs {ds : List Nat} (h : Nm ds) : (tx ds).length ≤ 12 ∧ ∀ c ∈ (tx ds).cps.toList, c < 16 ^ 8 := by
  rw [tx_len, tx_list]
  exact ⟨h.len, fun c hc => Nat.lt_trans (azn_small c (h.wd.all c hc)) (by decide)⟩
theorem frame_cs : (Str.ofString "frame").length ≤ 12 ∧ ∀ c ∈ (Str.ofString "frame").cps.toList, c < 16 ^ 8 := by decide +kernel
abbrev sVls : Stmt := top 48
theorem scVls : FnScope ["_law_source_here", "_law_names_here", "_law_ends_here", "_law_one_here", "_law_values_here", "_law_word_here", "_law_some", "_law_given", "_law_missing", "_law_total", "_law_before", "_law_tried_here", "_law_key"] ["_law_source_here", "_law_names_here", "_law_ends_here", "_law_one_here"] (defScope sVls) := ⟨rfl, rfl, rfl, by decide +kernel, rfl, by decide +kernel, by decide +kernel⟩
def spVls (C : Addr) : Sp := fun vs H Q _ => ∃ (a c nl d e : Addr) (ns : List (List Nat)) (f g : Str → Int × Int) (n : Int) (ts : List Tm), vs = [.ref a, .ref nl, .ref d, .ref e] ∧ Src H a c ∧ nl ≠ a ∧ H nl = some (.lst (NmL ns)) ∧ ns.length ≤ 10 ∧ (∀ ds ∈ ns, Nm ds) ∧ EndsD H d (ns.map tx) f g ∧
  Ent C H e n ts "form" ∧ Gd ts ∧ In (ns.map tx) ts ∧ Bd 3000 n ts ∧ ∀ H', Kp a H H' → Src H' a c → Q (.bl true) H'
theorem ok_vls {C : Addr} (D : Df K mg "_law_values" sVls ["_law_source_here", "_law_names_here", "_law_ends_here", "_law_one_here"]) (TT : Fk P w K mg base 2 "_law_take" sTake ["_law_source_here", "_law_many"] spTake) (NU : Fk P w K mg base 3 "_law_number" sNumber ["_law_source_here"] spNumber) (IN : Fk P w K mg base 1 "_law_is_number" sIsN ["_law_actual"] spIsN)
    (DV : Df K mg "_law_tried" sTri ["_law_sign", "_law_one_here", "_law_two"]) (GV : FnOk P w K mg base CX0 9 DV.f DV.fd ["_law_sign", "_law_one_here", "_law_two"] (spTriV C)) (mso : mg "sorted" = none) (mst : mg "str" = none) (ml : mg "len" = none) (mre : mg "repr" = none) :
    FnG P w K mg base 10 D.f D.fd ["_law_source_here", "_law_names_here", "_law_ends_here", "_law_one_here"] (spVls C) := by
  refine okG D.fn scVls (fun vs H Q E h => ?_) (fun cdv A outer s0 H vs Q E hgd hr h => ?_)
  · obtain ⟨a, c, nl, d, e, ns, f, g, n, ts, rfl, _⟩ := h
    rfl
  · obtain ⟨a, c, nl, d, e, ns, f, g, n, ts, rfl, sr, nna, hnl, hz, hnm, hD, he, g1, hi, hb, k⟩ := h
    have hu := hu_of hr
    have hu8 := un8 hr
    have hu2 : (A.deeper (envOfC "_law_values" (defScope sVls) s0.heap.objs.size D.f cdv)).units + 2 < cLine := by omega
    refine ⟨_, (pss_cons (ps_set (i := 4) scVls.nd rfl (.inl rfl) pe_dnewK)
      (pss_cons (ps_for PassesOwn.never rfl (pi_list (pv 1)) (pg_name (i := 5) scVls.nd rfl (Or.inl rfl))
      (pss_one (ps_dput hu (pv 4) (pv 5) (pe_ix ix_list (pe_lst (pa_cons (pe_ix ix_tup (pe_ix ix_list (pe_dget hu (pv 2) (pv 5) (fun _ _ => rfl)) pe_int (fun _ _ => rfl)) pe_int (fun _ _ => rfl)) (pa_cons (pe_ix ix_tup (pe_ix ix_list (pe_dget hu (pv 2) (pv 5) (fun _ _ => rfl)) pe_int (fun _ _ => rfl)) pe_int (fun _ _ => rfl)) (pa_cons (pe_call NU.G (hr.mono (by decide)) (by rfl) NU.D.mgf NU.D.fn.kp NU.D.bd .nil pass0 (pa_cons (pv 0) pa_nil)) pa_nil)))) (pe_call TT.G (hr.mono (by decide)) (by rfl) TT.D.mgf TT.D.fn.kp TT.D.bd .nil pass0 (pa_cons (pv 0) (pa_cons pe_int pa_nil))) (fun _ _ => rfl)) rfl)))
      (pss_cons (ps_set (i := 6) scVls.nd rfl (.inl rfl) (pe_disp (pps_cons pe_str pe_int pps_nil) (by rfl) (by rfl) (fun z => by cases z) (by decide)))
      (pss_cons (ps_for PassesOwn.never rfl (pi_list (pv 1)) (pg_name (i := 5) scVls.nd rfl (Or.inl rfl))
      (pss_one (ps_if (pt_cmpR op_gt (pe_call TT.G (hr.mono (by decide)) (by rfl) TT.D.mgf TT.D.fn.kp TT.D.bd .nil pass0 (pa_cons (pv 0) (pa_cons pe_int pa_nil))) pe_int (nomark _))
      (pss_one (ps_dput hu (pv 6) (pv 5) (pe_dget hu (pv 4) (pv 5) (fun _ _ => rfl)) rfl))
      pss_nil)))
      (pss_cons (ps_for PassesOwn.never rfl (pi_list (pe_lst (pa_cons (pv 4) (pa_cons (pv 6) pa_nil)))) (pg_name (i := 7) scVls.nd rfl (Or.inr rfl))
      (pss_cons (ps_setLc (i := 8) (own := [("_law_word_here", 5)]) (g := gName 5) (tt := _) rfl scVls.nd rfl rfl (sw_true rfl rfl rfl (by decide +kernel)) (pi_list (pe_callB (cr_sortedT hu2) (by rfl) mso (by decide +kernel) (pa_cons (pe_lock (pe_lc (own := [("_law_key", 12)]) (g := gName 12) (tt := tYes) rfl scVls.nd (pi_keys (pe_ix (show IxR _ (rIxT K) from ix_tup) (pe_ix (show IxR _ (rIxT K) from ix_tup) (pv 3) pe_int (fun _ _ => rfl)) pe_int (fun _ _ => rfl))) (blkOk_by (N := ["_law_source_here", "_law_names_here", "_law_ends_here", "_law_one_here", "_law_values_here", "_law_word_here", "_law_some", "_law_given", "_law_missing", "_law_total", "_law_before", "_law_tried_here", "_law_key"]) (sc := defScope sVls) (by decide +kernel)) (fun _ _ _ _ _ => pg_name (i := 12) scVls.nd rfl (Or.inl rfl)) (fun _ _ _ _ _ => pts_nil) (fun _ _ _ _ _ => (pe_callTy SkE.call_str_str (by rfl) mst (by decide +kernel) (pa_cons (pv 12) pa_nil))))) pa_nil))) (blkOk_by (N := ["_law_source_here", "_law_names_here", "_law_ends_here", "_law_one_here", "_law_values_here", "_law_word_here", "_law_some", "_law_given", "_law_missing", "_law_total", "_law_before", "_law_tried_here", "_law_key"]) (sc := defScope sVls) (by decide +kernel)) (fun _ _ _ _ _ => pg_name (i := 5) scVls.nd rfl (Or.inl rfl)) (fun _ _ _ _ _ => pts_one (pt_cmp (pc_dnotin hu (pv 5) (pv 7)))) (fun _ _ _ _ _ => (pv 5)))
      (pss_cons (ps_set (i := 9) scVls.nd rfl (.inl rfl) (pe_ix ix_tup (pe_ix ix_tup (pv 3) pe_int (fun _ _ => rfl)) pe_int (fun _ _ => rfl)))
      (pss_cons (ps_lock (ps_for PassesOwn.never rfl (pi_keys (pe_ix ix_tup (pe_ix ix_tup (pv 3) pe_int (fun _ _ => rfl)) pe_int (fun _ _ => rfl))) (pg_name (i := 5) scVls.nd rfl (Or.inl rfl))
      (pss_one (ps_set (i := 9) scVls.nd rfl (.inl rfl) (pe_op op_addL (pv 9) (pe_op op_mulWL (pe_ix ix_tup (pe_dget hu (pe_ix ix_tup (pe_ix ix_tup (pv 3) pe_int (fun _ _ => rfl)) pe_int (fun _ _ => rfl)) (pv 5) (fun _ _ => rfl)) pe_int (fun _ _ => rfl)) (pe_dget hu (pv 4) (pv 5) (fun _ _ => rfl))))))))
      (pss_cons (ps_set (i := 10) scVls.nd rfl (.inl rfl) (pe_callB (call_reprD hgd hu8) (by rfl) mre (by decide +kernel) (pa_cons (pv 7) pa_nil)))
      (pss_cons (ps_set (i := 11) scVls.nd rfl (.inl rfl) (pe_call GV (hr.mono (by decide)) (by rfl) DV.mgf DV.fn.kp DV.bd .nil pass0 (pa_cons pe_str (pa_cons (pe_ix ix_tup (pv 3) pe_int (fun _ _ => rfl)) (pa_cons (pv 7) pa_nil)))))
      (pss_cons (ps_if (pt_cmpR op_ne (pe_callB (call_reprD hgd hu8) (by rfl) mre (by decide +kernel) (pa_cons (pv 7) pa_nil)) (pv 10) (nomark _))
      (pss_one (ps_never))
      pss_nil)
      (pss_one (ps_if (pt_cmpR op_gt (pe_callB call_len_seq (by rfl) ml PySem.boot_len (pa_cons (pv 8) pa_nil)) pe_int (nomark _))
      (pss_one (ps_if (pt_cmpR (op_neD hr.units) (pv 11) (pe_tup (pa_cons pe_str (pa_cons (pe_lst (pa_cons (pe_tup (pa_cons pe_str (pa_cons (pe_ix ix_list (pv 8) pe_int (fun _ _ => rfl)) pa_nil))) pa_nil)) pa_nil))) (nomark _))
      (pss_one (ps_never))
      pss_nil))
      (pss_one (ps_if (PW.pt (pw_or (pt_cmpR op_ne (pe_ix ix_tup (pv 11) pe_int (fun _ _ => rfl)) pe_str (nomark _)) (pw_or (pt_not (pt_val (pe_call IN.G (hr.mono (by decide)) (by rfl) IN.D.mgf IN.D.fn.kp IN.D.bd .nil pass0 (pa_cons (pe_ix ix_tup (pv 11) pe_int (fun _ _ => rfl)) pa_nil)))) (pw_or1 (pt_cmpR op_ne (pe_ix ix_tup (pv 11) pe_int (fun _ _ => rfl)) (pv 9) (nomark _))))))
      (pss_one (ps_never))
      pss_nil)))))))))))
      (pss_one (ps_ret pe_bl))))))), ?_⟩
    intro V1 nV1
    have u1 := same_upd (o := .dK []) nV1
    have sr1 := sr.of_same u1
    obtain ⟨_, hsa⟩ := sr.at_
    have nV1a : V1 ≠ a := (ne_of_none hsa nV1).symm
    have nlV1 : nl ≠ V1 := ne_of_none hnl nV1
    refine ⟨_, rfl, nl, rfl, ⟨_, sql_of (u1 _ _ hnl)⟩, for_list (K := K) (a := nl) (xs := NmL ns) (fun i σ H' => ∃ (x5 : Option V) (M : List Tm), σ = [some (.ref a), some (.ref nl), some (.ref d), some (.ref e), some (.ref V1), x5, none, none, none, none, none, none, none] ∧ H' V1 = some (.dK (SD M)) ∧ M.length ≤ i ∧ (∀ x ∈ M, ∃ ds ∈ ns, x.nm = tx ds) ∧ (∀ x ∈ M, x.k.natAbs < 2 ^ 201) ∧ (∀ ds ∈ ns.take i, tx ds ∈ nms M) ∧ Kp a H H' ∧ Src H' a c)
      ⟨none, [], rfl, upd_same, Nat.le_refl _, fun x hx => by simp at hx, fun x hx => by simp at hx, fun x hx => by simp at hx, Kp.same u1, sr1⟩ (fun i σ H' _ ⟨_, _, _, _, _, _, _, _, z, _⟩ => sql_of (z _ _ hnl nna)) ?_ ?_⟩
    · rintro i y σ H1 hi' ⟨x5, M, rfl, hV, hMl, hMn, hMb, hMi, kp1, sr1⟩
      have hil : i < ns.length := by
        have := (List.getElem?_eq_some_iff.mp hi').1
        rw [nml_len] at this
        exact this
      have hx : ns[i]? = some ns[i] := List.getElem?_eq_getElem hil
      generalize ns[i] = ds at hx
      have hy : y = .str (tx ds) := by
        unfold NmL at hi'
        rw [List.getElem?_map, hx] at hi'
        exact (Option.some.inj hi').symm
      subst hy
      have hds := List.mem_of_getElem? hx
      obtain ⟨kvs, hd1, hen⟩ := hD.kp kp1 sr
      obtain ⟨ll, p1, p2, w1, w2, w3, _⟩ := hen (tx ds) (List.mem_map.mpr ⟨ds, hds, rfl⟩)
      have gd : DGet H1 d (V.str (tx ds)) (some (.ref ll)) := by rw [← w1]; exact DGet.k (k := Sum.inr (tx ds)) hd1
      refine ⟨_, rfl, _, rfl, d, .ref ll, rfl, gd, ll, _, 0, _, rfl, rfl, sql_of w2, rfl, p1, _, 0, _, rfl, rfl, sql_ofT w3.1, rfl, _, rfl, _, rfl, d, .ref ll, rfl, gd, ll, _, 0, _, rfl, rfl, sql_of w2, rfl, p1, _, 1, _, rfl, rfl, sql_ofT w3.1, rfl, _, rfl, a, c, rfl, sr1, fun z H2 hz2 kp2 sr2 => ⟨(by show 3 ≤ sizeLine; decide), fun l nl2 => ?_⟩⟩
      have u3 := same_upd (o := .lst [V.int (f (tx ds)).1, V.int (f (tx ds)).2, V.int z]) nl2
      have sr3 := sr2.of_same u3
      obtain ⟨_, hs2⟩ := sr2.at_
      have nla : l ≠ a := (ne_of_none hs2 nl2).symm
      refine ⟨_, rfl, a, c, 3, rfl, sr3, by decide, by decide, fun t H4 t0 t1 kp4 sr4 => ?_⟩
      obtain ⟨q, hq, eq⟩ := atV_mem (l := [V.int (f (tx ds)).1, V.int (f (tx ds)).2, V.int z]) t0 t1
      obtain ⟨r, rfl, hr1⟩ : ∃ r : Int, q = .int r ∧ r.natAbs < 2 ^ 201 := by
        simp only [List.mem_cons, List.not_mem_nil, or_false] at hq
        rcases hq with rfl | rfl | rfl
        · exact ⟨_, rfl, w3.2.2.1⟩
        · exact ⟨_, rfl, w3.2.2.2⟩
        · exact ⟨_, rfl, lt_pow hz2 (by decide)⟩
      have hV4 : H4 V1 = some (.dK (SD M)) := kp4 _ _ (u3 _ _ (kp2 _ _ hV nV1a)) nV1a
      refine ⟨l, _, t, _, rfl, rfl, sql_of (kp4 _ _ upd_same nla), eq, ?_⟩
      have kp14 : Kp a H H4 := ((kp1.trans kp2).trans (Kp.same u3)).trans kp4
      refine ⟨_, rfl, _, rfl, V1, _, rfl, DPut.k (k := Sum.inr (tx ds)) hV4 (by rw [SD_len]; exact small1000 (by omega)), _, putT M ⟨tx ds, r, 0, 0⟩, rfl, ?_, ?_, ?_, ?_, ?_, ?_, ?_⟩
      · rw [upd_same]
        exact congrArg (fun z => some (HO.dK z)) (SD_put M ⟨tx ds, r, 0, 0⟩)
      · have := putT_len (M := M) (x := ⟨tx ds, r, 0, 0⟩)
        omega
      · intro x hx2
        rcases putT_mem hx2 with w | rfl
        · exact hMn x w
        · exact ⟨ds, hds, rfl⟩
      · intro x hx2
        rcases putT_mem hx2 with w | rfl
        · exact hMb x w
        · exact hr1
      · intro ds' hds'
        rw [List.take_add_one, hx] at hds'
        rw [putT_nms]
        rcases List.mem_append.mp hds' with w | w
        · have := hMi ds' w
          split
          · exact this
          · exact List.mem_append_left _ this
        · have w' : ds' = ds := by simpa using w
          subst w'
          split
          · assumption
          · exact List.mem_append_right _ (by simp)
      · intro b o eb nb
        rw [upd_ne (ne_of_none eb nV1)]
        exact kp14 _ _ eb nb
      · exact sr4.of_upd nV1a.symm (by
          obtain ⟨_, _, _, _, _, hc, _⟩ := id sr4
          exact ne_of hc hV4 fun z => nomatch z)
    rintro σ H1 ⟨x5, M1, rfl, hV1, hM1l, hM1n, hM1b, hM1i, kp1, sr1⟩
    rw [nml_len] at hM1l hM1i
    rw [List.take_length] at hM1i
    intro V2 nV2
    refine ⟨upd_same, [(Sum.inr (Str.ofString "frame"), .int 7)], rfl, (by show (1 : Nat) ≤ 15; decide), ?_⟩
    rw [upd_upd]
    have u2 := same_upd (o := .dK (mergeK [] [(Sum.inr (Str.ofString "frame"), V.int 7)])) nV2
    have e2 : mergeK [] [((Sum.inr (Str.ofString "frame") : Key), V.int 7)] = SD [⟨Str.ofString "frame", 7, 0, 0⟩] := rfl
    rw [e2] at u2 ⊢
    have nV12 : V1 ≠ V2 := ne_of_none hV1 nV2
    obtain ⟨_, hsa1⟩ := sr1.at_
    have nV2a : V2 ≠ a := (ne_of_none hsa1 nV2).symm
    refine ⟨_, rfl, nl, rfl, ⟨_, sql_of (u2 _ _ (kp1 _ _ hnl nna))⟩, for_list (K := K) (a := nl) (xs := NmL ns) (fun i σ H' => ∃ (x5 : Option V) (M : List Tm), σ = [some (.ref a), some (.ref nl), some (.ref d), some (.ref e), some (.ref V1), x5, some (.ref V2), none, none, none, none, none, none] ∧ H' V1 = some (.dK (SD M1)) ∧ H' V2 = some (.dK (SD M)) ∧ M.length ≤ i + 1 ∧ (∀ x ∈ M, (x.nm = Str.ofString "frame" ∧ x.k = 7) ∨ ∃ ds ∈ ns, x.nm = tx ds) ∧ (∀ x ∈ M, x.k.natAbs < 2 ^ 201) ∧ (∀ w x, getT M w = some x → w = Str.ofString "frame" ∨ kOf M1 w = x.k) ∧ (∀ b o, H1 b = some o → b ≠ a → H' b = some o) ∧ Src H' a c)
      ⟨x5, [⟨Str.ofString "frame", 7, 0, 0⟩], rfl, u2 _ _ hV1, upd_same, Nat.le_refl _, fun x hx => .inl (by rw [List.mem_singleton.mp hx]; exact ⟨rfl, rfl⟩), fun x hx => by
          rw [List.mem_singleton.mp hx]
          decide +kernel, fun w x hx => .inl (by
          have h1 := getT_nm hx
          have h2 := List.mem_singleton.mp (getT_in hx)
          rw [← h1, h2]), Kp.same u2, sr1.of_same u2⟩ (fun i σ H' _ ⟨_, _, _, _, _, _, _, _, _, z, _⟩ => sql_of (z _ _ (kp1 _ _ hnl nna) nna)) ?_ ?_⟩
    · rintro i y σ H2 hi' ⟨x5, M, rfl, hV1', hV2, hMl, hMn, hMb, hMk, kp2, sr2⟩
      have hil : i < ns.length := by
        have := (List.getElem?_eq_some_iff.mp hi').1
        rw [nml_len] at this
        exact this
      obtain ⟨ds, hds, rfl⟩ := nml_at (List.mem_of_getElem? hi')
      refine ⟨_, rfl, a, c, 3, rfl, sr2, by decide, by decide, fun t H3 _ _ kp3 sr3 => ⟨_, _, rfl, rfl, _, rfl, ite2 (fun _ => ?_) (fun _ => ?_)⟩⟩
      · have hV13 := kp3 _ _ hV1' nV1a
        have hV23 := kp3 _ _ hV2 nV2a
        have hin := hM1i ds hds
        obtain ⟨y, hy⟩ : ∃ y, getT M1 (tx ds) = some y := by
          cases q : getT M1 (tx ds) with
          | none => exact absurd hin (getT_none.mp q)
          | some y => exact ⟨y, rfl⟩
        have gv : valV (SD M1) (Sum.inr (tx ds) : Key) = some (.int y.k) := by rw [SD_get, hy]; rfl
        refine ⟨_, rfl, _, rfl, V1, .int y.k, rfl, by rw [← gv]; exact DGet.k (k := Sum.inr (tx ds)) hV13, _, rfl, _, rfl, V2, _, rfl, DPut.k (k := Sum.inr (tx ds)) hV23 (by rw [SD_len]; exact small1000 (by omega)), _, putT M ⟨tx ds, y.k, 0, 0⟩, rfl, ?_, ?_, ?_, ?_, ?_, ?_, ?_, ?_⟩
        · rw [upd_ne nV12]
          exact hV13
        · rw [upd_same]
          exact congrArg (fun z => some (HO.dK z)) (SD_put M ⟨tx ds, y.k, 0, 0⟩)
        · have := putT_len (M := M) (x := ⟨tx ds, y.k, 0, 0⟩)
          omega
        · intro x hx2
          rcases putT_mem hx2 with w | rfl
          · exact hMn x w
          · exact .inr ⟨ds, hds, rfl⟩
        · intro x hx2
          rcases putT_mem hx2 with w | rfl
          · exact hMb x w
          · exact hM1b y (getT_in hy)
        · intro w x hx2
          rw [getT_put] at hx2
          split at hx2
          · rename_i hw
            cases hx2
            right
            show kOf M1 w = y.k
            rw [hw]
            exact (kOf_some hy : kOf M1 (tx ds) = y.k)
          · exact hMk w x hx2
        · intro b o eb nb
          rw [upd_ne (ne_of_none eb nV2)]
          exact kp3 _ _ (kp2 _ _ eb nb) nb
        · exact sr3.of_upd nV2a.symm (by
            obtain ⟨_, _, _, _, _, hc, _⟩ := id sr3
            exact ne_of hc hV23 fun z => nomatch z)
      · exact ⟨_, M, rfl, kp3 _ _ hV1' nV1a, kp3 _ _ hV2 nV2a, by omega, hMn, hMb, hMk, fun b o eb nb => kp3 _ _ (kp2 _ _ eb nb) nb, sr3⟩
    rintro σ H2 ⟨x5', M2, rfl, hV1', hV2, hM2l, hM2n, hM2b, hM2k, kp2, sr2⟩
    rw [nml_len] at hM2l
    have kp02 : Kp a H H2 := kp1.trans kp2
    obtain ⟨p, m, y1o, y2o, y3⟩ := he.formE
    obtain ⟨Mo_, ⟨dd, xs, z1o, z2, z3, _, ⟨⟨kv, hddo, hAo⟩, nd1, msz⟩⟩, hs1⟩ := id y3
    have y1 := tup_kp kp02 hsa _ _ y1o
    have y2 := y2o.kp kp02 hsa
    have z1 := tup_kp kp02 hsa _ _ z1o
    have hdd := kp02 _ _ hddo (ne_of hddo hsa fun z => nomatch z)
    have hA := hAo.mono (tup_kp kp02 hsa)
    have ndV1 : dd ≠ V1 := ne_of_none hddo nV1
    have lkv : kv.length = Mo_.length := hA.len
    refine ⟨_, rfl, _, rfl, (by show 2 ≤ sizeLine; decide), fun gl ngl => ⟨gl, rfl, ⟨_, sql_of upd_same⟩, ?_⟩⟩
    have ok1 : ReOk M1 := ⟨by omega, fun x hx => by
      obtain ⟨ds, h1, h2⟩ := hM1n x hx
      rw [h2]
      exact (hnm ds h1).cs, hM1b⟩
    have ok2 : ReOk M2 := ⟨by omega, fun x hx => by
      obtain ⟨h1, _⟩ | ⟨ds, h1, h2⟩ := hM2n x hx
      · rw [h1]
        exact frame_cs
      · rw [h2]
        exact (hnm ds h1).cs, hM2b⟩
    have nfr : ∀ x ∈ ts, ¬ x.nm = Str.ofString "frame" := fun x hx z => by
      obtain ⟨ds, h1, h2⟩ := List.mem_map.mp (hi x.nm (List.mem_map.mpr ⟨x, hx, rfl⟩))
      exact (hnm ds h1).fr (h2.trans z)
    have in1 : ∀ x ∈ ts, ∃ y, getT M1 x.nm = some y := fun x hx => by
      obtain ⟨ds, h1, h2⟩ := List.mem_map.mp (hi x.nm (List.mem_map.mpr ⟨x, hx, rfl⟩))
      have h3 := hM1i ds h1
      rw [h2] at h3
      cases q : getT M1 x.nm with
      | none => exact absurd h3 (getT_none.mp q)
      | some y => exact ⟨y, rfl⟩
    have hbM : ∀ x ∈ Mo_, x.k.natAbs < 2 ^ 3000 := fun x hx => (hb.2 x (hs1 ▸ (mem_srt nd1).mpr hx)).1
    have mts : ∀ x ∈ Mo_, x ∈ ts := fun x hx => hs1 ▸ (mem_srt nd1).mpr hx
    have lts : ts.length ≤ 10 := hi.len g1 (by rw [List.length_map]; exact hz)
    have nts : nms ts = sortS (nms Mo_) := by rw [← hs1, srt_nms]
    have tot : (Mo_.map fun x => x.k * kOf M1 x.nm).sum = (ts.map fun x => x.k * kOf M1 x.nm).sum := by
      rw [← hs1]
      exact (sum_perm (fun x : Tm => x.k * kOf M1 x.nm) (srt_perm nd1)).symm
    refine for_list (K := K) (a := gl) (xs := [V.ref V1, V.ref V2]) (fun i σ H' => ∃ x5 x7 x8 x9 x10 x11 x12 : Option V, σ = [some (.ref a), some (.ref nl), some (.ref d), some (.ref e), some (.ref V1), x5, some (.ref V2), x7, x8, x9, x10, x11, x12] ∧ Same (upd H2 gl (.lst [V.ref V1, V.ref V2])) H')
      ⟨_, none, none, none, none, none, none, rfl, fun _ _ z => z⟩ (fun i σ H' _ ⟨_, _, _, _, _, _, _, _, z⟩ => sql_of (z _ _ upd_same)) ?_ ?_
    · rintro i y σ H3 hi' ⟨x5, x7, x8, x9, x10, x11, x12, rfl, s3⟩
      have s23 := (same_upd (o := .lst [V.ref V1, V.ref V2]) ngl).trans s3
      obtain ⟨dM, M, rfl, hdM, okM, hMk⟩ : ∃ (dM : Addr) (M : List Tm), y = .ref dM ∧ H3 dM = some (.dK (SD M)) ∧ ReOk M ∧ ∀ x ∈ ts, ∀ y, getT M x.nm = some y → kOf M1 x.nm = y.k := by
        have hm := List.mem_of_getElem? hi'
        simp only [List.mem_cons, List.not_mem_nil, or_false] at hm
        rcases hm with rfl | rfl
        · exact ⟨V1, M1, rfl, s23 _ _ hV1', ok1, fun x _ y hy => kOf_some hy⟩
        · exact ⟨V2, M2, rfl, s23 _ _ hV2, ok2, fun x hx y hy => (hM2k x.nm y hy).resolve_left (nfr x hx)⟩
      have y1' := s23 _ _ y1
      have z1' := s23 _ _ z1
      have hdd' := s23 _ _ hdd
      have hV13 := s23 _ _ hV1'
      have med : m ≠ dd := ne_of z1' hdd' fun z => nomatch z
      have eed : e ≠ dd := ne_of y1' hdd' fun z => nomatch z
      refine ⟨dd, .dK kv, hdd', trivial, fun od => ?_⟩
      have hfz : (upd H3 dd (.frz od (.dK kv))) dd = some (.frz od (.dK kv)) := upd_same
      have y1z : (upd H3 dd (.frz od (.dK kv))) e = some (.tup [.ref p, .ref m]) := by rw [upd_ne eed]; exact y1'
      have z1z : (upd H3 dd (.frz od (.dK kv))) m = some (.tup xs) := by rw [upd_ne med]; exact z1'
      refine ⟨_, rfl, e, _, 1, _, rfl, rfl, sql_ofT y1z, rfl, m, _, 1, _, rfl, rfl, sql_ofT z1z, z3, dd, od, rfl, .inl ⟨kv, hfz, fun B nB => ?_⟩⟩
      have hBd : dd ≠ B := ne_of_none hfz nB
      refine lc_it walk_keys (fun i H2 => H2 = upd (upd H3 dd (.frz od (.dK kv))) B (.lst ((KeyL Mo_).take i))) rfl (fun i H2 _ e => by rw [e, upd_ne hBd]; exact hfz) ?_ ?_
      · rintro i x H4 H5 hi rfl ⟨rfl, kk, vv, hk, rfl⟩
        obtain ⟨y, t, hy, rfl, rfl, ht⟩ := hA.at_ hk
        have hc' : (KeyL Mo_)[i]? = some (.str y.nm) := by
          unfold KeyL nms
          rw [List.getElem?_map, List.getElem?_map, hy]
          rfl
        refine ⟨rfl, ?_⟩
        refine ⟨_, rfl, y.nm, rfl, _, upd_same, ?_, ?_⟩
        · rw [List.length_take]
          exact small1000 (by omega)
        · rw [upd_upd, List.take_add_one, hc']
          rfl
      rintro H4 rfl
      have nB' : H3 B = none := by
        rw [upd_ne hBd.symm] at nB
        exact nB
      have lk : (KeyL Mo_).length = Mo_.length := by
        unfold KeyL nms
        rw [List.length_map, List.length_map]
      rw [List.take_of_length_le (by omega)]
      refine ⟨by rw [upd_ne hBd]; exact hfz, ?_⟩
      have hB : (upd (upd (upd H3 dd (.frz od (.dK kv))) B (.lst (KeyL Mo_))) dd (.dK kv)) B = some (.lst (KeyL Mo_)) := by rw [upd_ne hBd.symm, upd_same]
      have sm : Same H3 (upd (upd (upd H3 dd (.frz od (.dK kv))) B (.lst (KeyL Mo_))) dd (.dK kv)) := fun b o e => by
        have h2 := ne_of_none e nB'
        by_cases h1 : b = dd
        · subst h1
          rw [hdd'] at e
          rw [upd_same]
          exact e
        · rw [upd_ne h1, upd_ne h2, upd_ne h1]
          exact e
      generalize (upd (upd (upd H3 dd (.frz od (.dK kv))) B (.lst (KeyL Mo_))) dd (.dK kv)) = H4 at hB sm
      refine ⟨B, nms Mo_, rfl, sql_of hB, fun ol no => ?_⟩
      have hO : (upd H4 ol (.lst (((nms Mo_).mergeSort leT).map V.str))) ol = some (.lst ((nms ts).map V.str)) := by rw [nts]; exact upd_same
      have sm5 := sm.trans (same_upd (o := .lst (((nms Mo_).mergeSort leT).map V.str)) no)
      generalize (upd H4 ol (.lst (((nms Mo_).mergeSort leT).map V.str))) = H5 at hO sm5
      have lnt : (nms ts).length = ts.length := by
        unfold nms
        rw [List.length_map]
      refine ⟨ol, rfl, ⟨_, sql_of hO⟩, fun DD nDD => lc_list (K := K) (a := ol) (xs := (nms ts).map V.str) (fun i H' => H' DD = some (.lst ((((nms ts).take i).filter fun w => (getT M w).isNone).map V.str)) ∧ Same H5 H') ⟨upd_same, same_upd nDD⟩ (fun i H' _ ⟨_, z⟩ => sql_of (z _ _ hO)) ?_ ?_⟩
      · rintro i y H6 hi ⟨hD6, s6⟩
        obtain ⟨w, hw, rfl⟩ : ∃ w, (nms ts)[i]? = some w ∧ y = .str w := by
          rw [List.getElem?_map] at hi
          cases q : (nms ts)[i]? with
          | none =>
            rw [q] at hi
            cases hi
          | some w =>
            rw [q] at hi
            exact ⟨w, rfl, (Option.some.inj hi).symm⟩
        have hdM6 := s6 _ _ (sm5 _ _ hdM)
        have tk : (nms ts).take (i + 1) = (nms ts).take i ++ [w] := by rw [List.take_add_one, hw, Option.toList_some]
        have hsz : ((((nms ts).take i).filter fun w => (getT M w).isNone).map V.str).length < sizeLine := by
          rw [List.length_map]
          refine small1000 (Nat.le_trans (List.length_filter_le _ _) ?_)
          rw [List.length_take]
          omega
        refine ⟨rfl, ?_⟩
        cases q : getT M w with
        | none =>
          have gv : valV (SD M) (Sum.inr w : Key) = none := by rw [SD_get, q]; rfl
          refine ⟨_, rfl, _, rfl, dM, none, rfl, by rw [← gv]; exact DGet.k (k := Sum.inr w) hdM6, _, rfl, ?_⟩
          refine ⟨_, rfl, _, hD6, hsz, ?_, fun b o eb => ?_⟩
          · rw [upd_same, tk, List.filter_append, List.map_append]
            simp [q]
          · rw [upd_ne (ne_of_none eb nDD)]
            exact s6 _ _ eb
        | some x =>
          have gv : valV (SD M) (Sum.inr w : Key) = some (.int x.k) := by rw [SD_get, q]; rfl
          refine ⟨_, rfl, _, rfl, dM, some (.int x.k), rfl, by rw [← gv]; exact DGet.k (k := Sum.inr w) hdM6, _, rfl, ?_⟩
          refine ⟨?_, s6⟩
          rw [tk, List.filter_append, hD6]
          simp [q]
      rintro H6 ⟨hD6, s6⟩
      rw [List.length_map, List.take_length] at hD6
      have hD6' : H6 DD = some (.lst ((mL M ts).map V.str)) := hD6
      have s36 := sm5.trans s6
      have hd6 := s36 _ _ hdd'
      have y16o := s36 _ _ y1'
      have z16o := s36 _ _ z1'
      refine ⟨_, rfl, e, _, 1, _, rfl, rfl, sql_ofT y16o, rfl, m, _, 0, _, rfl, rfl, sql_ofT z16o, z2, ?_⟩
      refine ⟨dd, .dK kv, hd6, trivial, fun od2 => ?_⟩
      have hfz2 : (upd H6 dd (.frz od2 (.dK kv))) dd = some (.frz od2 (.dK kv)) := upd_same
      have y16 : (upd H6 dd (.frz od2 (.dK kv))) e = some (.tup [.ref p, .ref m]) := by rw [upd_ne eed]; exact y16o
      have z16 : (upd H6 dd (.frz od2 (.dK kv))) m = some (.tup xs) := by rw [upd_ne med]; exact z16o
      have V16 : (upd H6 dd (.frz od2 (.dK kv))) V1 = some (.dK (SD M1)) := by rw [upd_ne ndV1.symm]; exact s36 _ _ hV13
      have hA6 : DAll (upd H6 dd (.frz od2 (.dK kv))) kv Mo_ := hA.mono fun t ys z => by
        rw [upd_ne (ne_of z hdd fun w => nomatch w)]
        exact s36 _ _ (s23 _ _ z)
      have sfz : Same H6 (upd (upd H6 dd (.frz od2 (.dK kv))) dd (.dK kv)) := fun b o eb => by
        by_cases h1 : b = dd
        · subst h1
          rw [hd6] at eb
          rw [upd_same]
          exact eb
        · rw [upd_ne h1, upd_ne h1]
          exact eb
      generalize (upd H6 dd (.frz od2 (.dK kv))) = Hz at hfz2 y16 z16 V16 hA6 sfz
      refine ⟨_, rfl, e, _, 1, _, rfl, rfl, sql_ofT y16, rfl, m, _, 1, _, rfl, rfl, sql_ofT z16, z3, dd, od2, rfl, .inl ⟨kv, hfz2, for_it walk_keys (fun i σ H' => ∃ (x5 x10 x11 x12 : Option V) (tt : Int), tt = n + ((Mo_.take i).map fun x : Tm => x.k * kOf M1 x.nm).sum ∧ σ = [some (.ref a), some (.ref nl), some (.ref d), some (.ref e), some (.ref V1), x5, some (.ref V2), some (.ref dM), some (.ref DD), some (.int tt), x10, x11, x12] ∧ H' = Hz)
        ⟨_, _, _, _, n, by simp, rfl, rfl⟩ (fun i σ H' _ ⟨_, _, _, _, _, _, _, z⟩ => by rw [z]; exact hfz2) ?_ ?_⟩⟩
      · rintro i y σ H7 H8 hi ⟨x5, x10, x11, x12, tt, htt, rfl, rfl⟩ ⟨rfl, kk, vv, hkv, rfl⟩
        obtain ⟨x, t, hx, rfl, rfl, ht⟩ := hA6.at_ hkv
        obtain ⟨e', _⟩ | ⟨x', t', e', gv, ht3⟩ := hA6.get x.nm
        · have h6 := getT_mem nd1 (List.mem_of_getElem? hx)
          rw [e'] at h6
          cases h6
        obtain rfl : x' = x := Option.some.inj (e'.symm.trans (getT_mem nd1 (List.mem_of_getElem? hx)))
        have gd : DGet H8 dd (V.str x'.nm) (some (.ref t')) := by
          rw [← gv]
          exact .inl ⟨_, Sum.inr x'.nm, .inr ⟨od2, hfz2⟩, rfl, rfl⟩
        have hxm := List.mem_of_getElem? hx
        obtain ⟨yy, hyy⟩ := in1 x' (mts x' hxm)
        have gV : valV (SD M1) (Sum.inr x'.nm : Key) = some (.int yy.k) := by rw [SD_get, hyy]; rfl
        have tk : Mo_.take (i + 1) = Mo_.take i ++ [x'] := by rw [List.take_add_one, hx, Option.toList_some]
        refine ⟨_, rfl, _, rfl, e, _, 1, _, rfl, rfl, sql_ofT y16, rfl, m, _, 1, _, rfl, rfl, sql_ofT z16, z3, _, rfl, dd, .ref t', rfl, gd, t', _, 0, _, rfl, rfl, sql_ofT ht3, rfl, _, rfl, _, rfl, V1, .int yy.k, rfl, by rw [← gV]; exact DGet.k (k := Sum.inr x'.nm) V16, _, _, rfl, rfl, wide_mul (hbM x' hxm) (hM1b yy (getT_in hyy)) (by decide) (by decide) (by decide), fun r er => ⟨_, _, rfl, rfl, fun r2 er2 => ⟨_, _, _, _, r2, ?_, rfl, rfl⟩⟩⟩
        rw [er2, er, htt, tk, List.map_append, List.map_singleton, sum_snoc, kOf_some hyy]
        omega
      rintro σ H7 ⟨x5, x10, x11, x12, tt, htt, rfl, rfl⟩
      rw [lkv, List.take_length, tot] at htt
      refine ⟨hfz2, ?_⟩
      have s37 := s36.trans sfz
      have hDD7 := sfz _ _ hD6'
      generalize (upd H7 dd (.dK kv)) = H8 at s37 hDD7
      -- repr, the value, repr
      have hdM8 := s37 _ _ hdM
      refine ⟨_, rfl, dM, M, rfl, hdM8, okM, ?_⟩
      have gl : ∀ w, valV (SD M) (Sum.inr w : Key) = (gO M w).map V.int := fun w => by
        rw [SD_get]
        unfold gO
        cases getT M w <;> rfl
      have gb : ∀ w z, gO M w = some z → z.natAbs < 2 ^ 10000 := fun w z hz => by
        unfold gO at hz
        cases q : getT M w with
        | none =>
          rw [q] at hz
          cases hz
        | some x =>
          rw [q] at hz
          cases hz
          exact lt_pow (okM.bd x (getT_in q)) (by decide)
      refine ⟨_, rfl, e, _, 0, _, rfl, rfl, sql_ofT (s37 _ _ y1'), rfl, _, rfl, p, dM, n, ts, SD M, gO M, rfl, (y2.keep s23).keep s37, by omega, hb.mono (by decide), hdM8, gl, gb, fun w hw t l H9 s9 ht hr9 => ?_, fun hn t H9 s9 ht => ?_⟩
      · rw [miss_head] at hw
        refine ⟨_, rfl, dM, M, rfl, s9 _ _ hdM8, okM, _, rfl, rfl, _, rfl, iteF' (by simp) ?_⟩
        have hDD9 := s9 _ _ hDD7
        have hwm : w ∈ nms ts := by
          have : w ∈ mL M ts := List.mem_of_head? hw
          exact (List.mem_filter.mp this).1
        obtain ⟨xw, hxw, exw⟩ := List.mem_map.mp hwm
        have okw : PyData.strOk w = true := by
          rw [← exw]
          exact g1.ok xw hxw
        cases hml : mL M ts with
        | nil =>
          rw [hml] at hw
          cases hw
        | cons w' rr =>
          rw [hml] at hw hDD9
          obtain rfl : w' = w := Option.some.inj hw
          refine ⟨_, rfl, DD, _, rfl, .inl (sql_of hDD9), _, _, rfl, rfl, _, rfl, iteT' ?_ ?_⟩
          · refine decide_eq_true ?_
            rw [List.map_cons, List.length_cons]
            omega
          have at0 : atI ((w' :: rr).map V.str) 0 = some (V.str w') := atI_nat (j := 0) (by rfl)
          refine ⟨_, rfl, _, rfl, DD, _, 0, _, rfl, rfl, sql_of hDD9, at0, (by show 2 ≤ sizeLine; decide), fun q nq => ⟨(by show 1 ≤ sizeLine; decide), fun l2 nl2 => ⟨(by show 2 ≤ sizeLine; decide), fun t2 nt2 => ?_⟩⟩⟩
          have a1 := same_upd (o := .tup [V.str "UnknownName", V.str w']) nq
          have a2 := same_upd (o := .lst [V.ref q]) nl2
          have a3 := same_upd (o := .tup [V.str "raised", V.ref l2]) nt2
          have a13 := (a1.trans a2).trans a3
          obtain ⟨qq, r1, r2⟩ := hr9
          refine ⟨knD w', knD w', dp_kn (a13 _ _ ht) ⟨qq, a13 _ _ r1, a13 _ _ r2⟩, dp_kn upd_same ⟨q, a3 _ _ upd_same, (a2.trans a3) _ _ upd_same⟩, sh_kn okw, sh_kn okw, _, rfl, iteF' ?_ ?_⟩
          · rw [eqv_kn]
            rfl
          exact ⟨_, _, _, _, _, _, _, rfl, s3.trans (s37.trans (s9.trans a13))⟩
      · have hml : mL M ts = [] := by
          rw [miss_head] at hn
          exact List.head?_eq_none_iff.mp hn
        refine ⟨_, rfl, dM, M, rfl, s9 _ _ hdM8, okM, _, rfl, rfl, _, rfl, iteF' (by simp) ?_⟩
        have hDD9 := s9 _ _ hDD7
        rw [hml] at hDD9
        refine ⟨_, rfl, DD, _, rfl, .inl (sql_of hDD9), _, _, rfl, rfl, _, rfl, iteF' rfl ?_⟩
        refine ⟨_, rfl, t, _, 0, _, rfl, rfl, sql_ofT ht, rfl, rfl, _, rfl, iteF' (by decide) ?_⟩
        refine ⟨_, rfl, t, _, 1, _, rfl, rfl, sql_ofT ht, rfl, _, rfl, true, rfl, iteF' rfl ?_⟩
        refine ⟨_, rfl, t, _, 1, _, rfl, rfl, sql_ofT ht, rfl, _, rfl, rfl, _, rfl, iteF' ?_ ?_⟩
        · rw [htt, valT_eq hn hMk]
          simp
        exact ⟨_, _, _, _, _, _, _, rfl, s3.trans (s37.trans s9)⟩
    · rintro σ H3 ⟨_, _, _, _, _, _, _, rfl, s3⟩
      have s23 := (same_upd (o := .lst [V.ref V1, V.ref V2]) ngl).trans s3
      exact k H3 (kp02.trans (Kp.same s23)) (sr2.of_same s23)
end
end DO

namespace DO
open PySem PySem.Spec PyProof.Rows L2
section
variable {P : Program} {w : World} {K : PySem.W.Frag} {mg : Str → Option Value} {base : Heap}
/-! ### a call with keywords that may raise -/
section
variable {X : Cx} {CX : CXT} {k n : Nat} {f : Addr} {fd : FuncData} {ps ks : List Str} {sp : Sp} {E : L2.St → XK} {x : Str} {p pos : Pos} {e : Expr} {es : List Expr} {kws : List Keyword} {t tk : TA} {g : List Value → List Value → List Value} {gV : List V → List V → List V}
def tCallNS (n m : Nat) (sp : Sp) (gV : List V → List V → List V) (E : L2.St → XK) (t tk : TA) : TE := fun σ H Q => t σ H fun vs H1 => tk σ H1 fun zs H2 => vs.length = n ∧ zs.length = m ∧ sp (gV vs zs) H2 Q (E σ)
theorem pe_callNS (F : FnOk X.prog X.w X.K X.mg X.base CX k f fd ps sp) (hr : Room k X.A) (hg : Gl X x) (hm : X.mg x = some (.ref f)) (kp : PySem.W.keepIn X.K (.ref f) = true) (kb : KBn X.K fd ps n ks g gV) (hx : ∀ σ, PassesAt CX X σ (E σ))
    (ha : PA X (e :: es) t) (hkw : PK X kws tk) (hall : (backToKw pos (keywordEach kws X.env)).all (·.1.isSome) = true := by rfl) (hks : (backToKw pos (keywordEach kws X.env)).filterMap (·.1) = ks := by rfl)
    (hdb : (x == ("__debug__" : Str)) = false := by decide) (hst : starEach (e :: es) X.env = (false, eval e X.env) :: starEach es X.env := by rfl)
    (hpl : ((backTo pos (starEach (e :: es) X.env)).any (·.1) || (backToKw pos (keywordEach kws X.env)).any (·.1.isNone)) = false := by rfl) : PE X (.Call (.Name x p) (e :: es) kws pos) (tCallNS n ks.length sp gV E t tk) := ⟨fun pins s σ H Q I h => by
  refine wpAny_Call_Name_kw (ld_glob I hg hm ?_ hdb)
  have hargs := ha.run pos pins s σ H _ I h
  refine PySem.W.callWith_KW (h₀ := X.base) I.ok.mod.kin kp hall (thn hargs fun us s1 z => ?_) hpl hst
  obtain ⟨vs, H1, I1, r, q⟩ := z
  have hkws := hkw.run pos pins s1 σ H1 _ I1 q
  refine thn hkws fun ws s2 z2 => ?_
  obtain ⟨zs, H2, I2, rz, l1, l2, q2⟩ := z2
  rw [hks]
  have bnd := kb.to s2 us ws I2.kIn (r.length.symm.trans l1) (rz.length.symm.trans l2)
  refine ⟨I2.kIn, wpAny_call (codeAny_mono (F.run X.A X.stack s2 H2 _ _ _ Q (E σ) hr I2.env0 bnd (kb.rel r rz) q2) ?_)⟩
  rintro (er | fl) s3 hz
  · exact hx σ pins H2 s2 er s3 I2 hz
  · cases fl
    case ret u => exact I2.after hz
    all_goals exact False.elim hz⟩
end
/-! ### what is raised by bad names and bad ends -/
def spRaiM (CB CE a : Addr) (cls : Value) (d : Option Addr) : Sp := fun vs H Q E => ∃ (d' : Addr) (y z : V), d = some d' ∧ ((cls = .ref CB ∧ spRai a d' [("name", y)] [.str "BadName", y] vs H Q E) ∨ (cls = .ref CE ∧ spRai a d' [("high", z), ("low", y)] [.str "BadEnds", y, z] vs H Q E))
theorem fnH_raiM {a C0 C1 C2 C3 C4 f : Addr} {fd : FuncData} {oe : Obj} {cls : Value} {d : Option Addr} (F : Fun K "_law_raised" "_law_raised" sRai f fd) (G : RaiG mg C0 C1 C2 C3 C4) (RB : RaiC K C0 C0 C1 C2 C3 C4 true false false false false) (RE : RaiC K C1 C0 C1 C2 C3 C4 false true false false false)
    (hz : L2N.Zn cls d oe) (hf : ∃ vs, oe.data = .fields vs) (base' : Heap) (hb : base'.get? a = some oe) : L2H.FnH P w K mg base' CX0 1 f fd ["_law_e"] (spRaiM C0 C1 a cls d) := by
  refine ⟨fun vs H Q E h => ?_, fun A outer s H args us vs Q E p hr hot hp e0 hbd r h => ?_⟩
  · obtain ⟨d', y, z, rfl, ⟨_, h⟩ | ⟨_, h⟩⟩ := h
    · rw [h.1]
      rfl
    · rw [h.1]
      rfl
  · obtain ⟨d', y, z, rfl, ⟨rfl, h⟩ | ⟨rfl, h⟩⟩ := h
    · exact (ok_raiBN F RB.ec hb hz.zc hf RB.no G.g0 G.g1 G.g2 G.g3 G.g4 RB.k0 RB.k1 RB.k2 RB.k3 RB.k4 RB.kv G.mis G.mve).run A outer s H args us vs Q E p hr hot hp e0 hbd r h
    · exact (ok_raiBE F RE.ec hb hz.zc hf RE.no G.g0 G.g1 G.g2 G.g3 G.g4 RE.k0 RE.k1 RE.k2 RE.k3 RE.k4 RE.kv G.mis G.mve).run A outer s H args us vs Q E p hr hot hp e0 hbd r h
/-! ### names, good and bad -/
def W9s : List Str := ["", "frame", "0a", "Ab", "aB", "a b", "a_b", "a-", "abcdefghijklm"]
def W13s : List Str := ["", "frame", "0a", "Ab", "aB", "a b", "a_b", "a-", "abcdefghijklm", "frames", "fram", "abcdefghijkl", "a0"]
def W13 : List V := [.str "", .str "frame", .str "0a", .str "Ab", .str "aB", .str "a b", .str "a_b", .str "a-", .str "abcdefghijklm", .str "frames", .str "fram", .str "abcdefghijkl", .str "a0"]
theorem w13_ok : (W13s.all fun w => PyData.strOk w && decide (w.cps.toList.length ≤ 20) && (decide (w ∈ W9s) == !okNm w.cps.toList)) = true := by decide +kernel
theorem w9_bad : (W9s.all fun w => !okNm w.cps.toList) = true := by decide +kernel
theorem inV_str (z : Str) (l : List Str) : inV (.str z) (l.map V.str) = decide (z ∈ l) := by
  induction l with
  | nil => rfl
  | cons x r ih =>
    unfold inV at ih ⊢
    rw [List.map_cons, List.any_cons, ih]
    have e : eqV (.str x) (.str z) = decide (x = z) := by
      show (x == z) = decide (x = z)
      rw [Bool.eq_iff_iff]
      simp
    rw [e]
    by_cases h : x = z
    · subst h
      simp
    · have h' : ¬ z = x := fun w => h w.symm
      simp [h, h']
theorem word_ok {ns : List (List Nat)} (hn : ∀ ds ∈ ns, Nm ds) {x : V} (h : x ∈ W13 ++ NmL ns) : ∃ ds, x = .str (tx ds) ∧ PyData.strOk (tx ds) = true ∧ ds.length ≤ 20 ∧ inV x (W9s.map V.str) = !okNm ds := by
  rcases List.mem_append.mp h with h | h
  · have e : W13 = W13s.map V.str := rfl
    rw [e] at h
    obtain ⟨w, hw, rfl⟩ := List.mem_map.mp h
    have := List.all_eq_true.mp w13_ok w hw
    rw [Bool.and_eq_true, Bool.and_eq_true] at this
    obtain ⟨⟨a1, a2⟩, a3⟩ := this
    refine ⟨w.cps.toList, by rw [tx_cps], by rw [tx_cps]; exact a1, of_decide_eq_true a2, ?_⟩
    rw [inV_str]
    exact beq_iff_eq.mp a3
  · obtain ⟨ds, hds, rfl⟩ := nml_at h
    have hN := hn ds hds
    refine ⟨ds, rfl, hN.st, Nat.le_trans hN.len (by decide), ?_⟩
    rw [inV_str, hN.ok]
    refine decide_eq_false fun z => ?_
    have := List.all_eq_true.mp w9_bad _ z
    rw [tx_list, hN.ok] at this
    cases this
theorem okNm_st {ds : List Nat} (h : okNm ds = true) : PyData.strOk (tx ds) = true := by
  unfold okNm at h
  rw [Bool.and_eq_true] at h
  obtain ⟨h1, _⟩ := h
  cases ds with
  | nil => cases h1
  | cons c r =>
    rw [isNm_cons, Bool.and_eq_true] at h1
    unfold PyData.strOk
    rw [← Array.all_toList, tx_list]
    exact List.all_eq_true.mpr fun x hx => decide_eq_true (azn_small x (of_decide_eq_true (List.all_eq_true.mp h1.2 x hx)))
def DueM (H : Hp) (l : Addr) (ds : List Nat) (lo hi : Int) : Prop := (okNm ds = false ∧ RaisedAt H l [.str "BadName", .str (tx ds)]) ∨ (okNm ds = true ∧ lo > hi ∧ RaisedAt H l [.str "BadEnds", .int lo, .int hi]) ∨ (okNm ds = true ∧ lo ≤ hi ∧ H l = some (.lst []))
def bnD (w : Str) : PyData := .list [.tuple [.str "BadName", .str w]]
def beD (lo hi : Int) : PyData := .list [.tuple [.str "BadEnds", .int lo, .int hi]]
theorem dp_bn {H : Hp} {l : Addr} {w : Str} (h : RaisedAt H l [.str "BadName", .str w]) : Dp K H (.ref l) (bnD w) := by
  obtain ⟨q, z1, z2⟩ := h
  exact .lst (sql_of z1) (.cons (.tup (sql_ofT z2) (.cons (.str _) (.cons (.str _) .nil))) .nil)
theorem dp_be {H : Hp} {l : Addr} {lo hi : Int} (h : RaisedAt H l [.str "BadEnds", .int lo, .int hi]) : Dp K H (.ref l) (beD lo hi) := by
  obtain ⟨q, z1, z2⟩ := h
  exact .lst (sql_of z1) (.cons (.tup (sql_ofT z2) (.cons (.str _) (.cons (.int _) (.cons (.int _) .nil)))) .nil)
theorem sh_bn {w : Str} (h : PyData.strOk w = true) : SeqAt.shaped (bnD w) = true := by
  have e1 : PyData.strOk (Str.ofString "BadName") = true := by decide +kernel
  unfold SeqAt.shaped bnD
  simp [PyData.canLay0, PyData.canLayAll0, PyData.depth, PyData.depthAll, h, e1]
theorem sh_be {lo hi : Int} : SeqAt.shaped (beD lo hi) = true := by
  have e1 : PyData.strOk (Str.ofString "BadEnds") = true := by decide +kernel
  unfold SeqAt.shaped beD
  simp [PyData.canLay0, PyData.canLayAll0, PyData.depth, PyData.depthAll, e1]
theorem eqv_bn (w : Str) : PyData.eqv (bnD w) (bnD w) = true := by
  unfold bnD
  simp [PyData.eqv, PyData.eqvAll]
theorem eqv_be (lo hi : Int) : PyData.eqv (beD lo hi) (beD lo hi) = true := by
  unfold beD
  simp [PyData.eqv, PyData.eqvAll]
def rLenSeq (K : PySem.W.Frag) : List V → Hp → VK → Prop := fun xs H Q => ∃ p ys, xs = [.ref p] ∧ (SqL K H p ys ∨ SqT K H p ys) ∧ Q (.int ys.length) H
abbrev sMsd : Stmt := top 49
theorem scMsd : FnScope ["_law_source_here", "_law_names_here", "_law_words", "_law_word_here", "_law_floor", "_law_roof", "_law_due_here", "_law_actual", "_law_e"] ["_law_source_here", "_law_names_here"] (defScope sMsd) := ⟨rfl, rfl, rfl, by decide +kernel, rfl, by decide +kernel, by decide +kernel⟩
def spMsd : Sp := fun vs H Q _ => ∃ (a c nl : Addr) (ns : List (List Nat)), vs = [.ref a, .ref nl] ∧ Src H a c ∧ nl ≠ a ∧ H nl = some (.lst (NmL ns)) ∧ ns.length ≤ 10 ∧ (∀ ds ∈ ns, Nm ds) ∧ ∀ H', Kp a H H' → Src H' a c → Q (.bl true) H'
theorem ok_msd {C C0 C1 C2 C3 C4 CO : Addr} (D : Df K mg "_law_measured" sMsd ["_law_source_here", "_law_names_here"]) (MS : Msr P w K mg base C C0 C1) (TT : Fk P w K mg base 2 "_law_take" sTake ["_law_source_here", "_law_many"] spTake) (NU : Fk P w K mg base 3 "_law_number" sNumber ["_law_source_here"] spNumber) (IF : Fk P w K mg base 2 "_law_is_form" sIsF ["_law_actual", "_law_model"] (spIsF C)) (DR : Df K mg "_law_raised" sRai ["_law_e"]) (G : RaiG mg C0 C1 C2 C3 C4) (RB : RaiC K C0 C0 C1 C2 C3 C4 true false false false false) (RE : RaiC K C1 C0 C1 C2 C3 C4 false true false false false)
    (gO : mg "OfficeError" = some (.ref CO)) (x0 : PySem.W.exmOne K (.ref C0) (.ref CO) = some true) (x1 : PySem.W.exmOne K (.ref C1) (.ref CO) = some true) (ml : mg "len" = none) (ma : mg "abs" = none) : FnOk P w K mg base CX0 6 D.f D.fd ["_law_source_here", "_law_names_here"] spMsd := by
  refine D.fn.ok scMsd (fun vs H Q E h => ?_) (fun cdv A outer s0 H vs Q E hr h => ?_)
  · obtain ⟨a, c, nl, ns, rfl, _⟩ := h
    rfl
  · obtain ⟨a, c, nl, ns, rfl, sr, nna, hnl, hz, hnm, k⟩ := h
    have hu := hu_of hr
    refine ⟨_, (pss_cons (ps_set (i := 2) scMsd.nd rfl (.inl rfl) (pe_lst (pa_cons pe_str (pa_cons pe_str (pa_cons pe_str (pa_cons pe_str (pa_cons pe_str (pa_cons pe_str (pa_cons pe_str (pa_cons pe_str (pa_cons pe_str (pa_cons pe_str (pa_cons pe_str (pa_cons pe_str (pa_cons pe_str pa_nil)))))))))))))))
      (pss_cons (ps_set (i := 3) scMsd.nd rfl (.inl rfl) (pe_ix ix_list (pe_op op_cat (pv 2) (pv 1)) (pe_call TT.G (hr.mono (by decide)) (by rfl) TT.D.mgf TT.D.fn.kp TT.D.bd .nil pass0 (pa_cons (pv 0) (pa_cons (pe_op op_addL pe_int (pe_callB call_len_seq (by rfl) ml PySem.boot_len (pa_cons (pv 1) pa_nil))) pa_nil))) (fun _ _ => rfl)))
      (pss_cons (ps_set (i := 4) scMsd.nd rfl (.inl rfl) (pe_call NU.G (hr.mono (by decide)) (by rfl) NU.D.mgf NU.D.fn.kp NU.D.bd .nil pass0 (pa_cons (pv 0) pa_nil)))
      (C8.pss_cut (ps_set (i := 5) scMsd.nd rfl (.inl rfl) (pe_ifExp (pt_cmpR op_lt (pe_callB call_absL (by rfl) ma (by decide +kernel) (pa_cons (pv 4) pa_nil)) (pe_op op_powL pe_int pe_int) (nomark _)) (pe_op op_subL (pv 4) (pe_call TT.G (hr.mono (by decide)) (by rfl) TT.D.mgf TT.D.fn.kp TT.D.bd .nil pass0 (pa_cons (pv 0) (pa_cons pe_int pa_nil)))) (pe_call NU.G (hr.mono (by decide)) (by rfl) NU.D.mgf NU.D.fn.kp NU.D.bd .nil pass0 (pa_cons (pv 0) pa_nil))))
      (pss_cons (ps_set (i := 6) scMsd.nd rfl (.inl rfl) (pe_lst pa_nil))
      (C8.pss_cut (ps_if (pt_cmpR (show OpR _ _ (rIn K false) from op_in_seq) (pv 3) (pe_slice sl_list (pv 2) po_none (po_some pe_int)) rfl)
      (pss_one (ps_set (i := 6) scMsd.nd rfl (.inl rfl) (pe_lst (pa_cons (pe_tup (pa_cons pe_str (pa_cons (pv 3) pa_nil))) pa_nil))))
      (pss_one (ps_if (pt_cmpR op_gt (pv 4) (pv 5) (nomark _))
      (pss_one (ps_set (i := 6) scMsd.nd rfl (.inl rfl) (pe_lst (pa_cons (pe_tup (pa_cons pe_str (pa_cons (pv 4) (pa_cons (pv 5) pa_nil)))) pa_nil))))
      pss_nil)))
      (pss_cons (L2N.ps_try_as (Wout := fun _ _ _ _ => False) (i := 8) rfl rfl scMsd.nd rfl rfl ⟨by rfl, by decide, .inl gO⟩ takes0N
      (fun W pn xe tk _ => (pss_one (ps_set (i := 7) scMsd.nd rfl (.inl rfl) (pe_callNS MS.G (hr.mono (by decide)) (by rfl) MS.mgf MS.fn.kp MS.kb (L2N.passAt tk) (pa_cons (pv 3) pa_nil) (pk_cons (pv 4) (pk_cons (pv 5) pk_nil))))))
      (fun a oe cls d pn hz hf => (pss_one (ps_ret (pe_and (pe_cmpR op_eq (pe_callB (show CallR _ _ (rLenSeq K) from call_len_seq) (by rfl) ml PySem.boot_len (pa_cons (pv 6) pa_nil)) pe_int (nomark _)) (pe_one (pe_cmpR (show OpR _ _ (rEqD K) from op_eqD hr.units) (pe_callPin (fnH_raiM DR.fn G RB RE hz hf) hz hf (L2H.RoomH.mk (hr.mono (j := 1) (by decide)).dp (hr.mono (j := 1) (by decide)).un) (by rfl) DR.mgf DR.fn.kp DR.bd (pv 8)) (pv 6) (nomark _))))))))
      (pss_one (ps_ret (pe_and (pe_cmpR op_eq (pe_callB call_len_seq (by rfl) ml PySem.boot_len (pa_cons (pv 6) pa_nil)) pe_int (nomark _)) (pe_one (pe_call IF.G (hr.mono (by decide)) (by rfl) IF.D.mgf IF.D.fn.kp IF.D.bd .nil pass0 (pa_cons (pv 7) (pa_cons (pe_tup (pa_cons pe_int (pa_cons (pe_disp (pps_cons (pv 3) (pe_tup (pa_cons pe_int (pa_cons (pv 4) (pa_cons (pv 5) pa_nil)))) pps_nil) (by rfl) (by rfl) (fun z => by cases z) (by decide)) pa_nil))) pa_nil)))))))))))))), ?_⟩
    refine ⟨(by show 13 ≤ sizeLine; decide), fun wl nwl => ?_⟩
    have s1 := same_upd (o := .lst W13) nwl
    refine ⟨_, rfl, _, rfl, wl, nl, W13, NmL ns, rfl, rfl, upd_same, s1 _ _ hnl, ?_, fun bl nbl => ?_⟩
    · rw [nml_len]
      exact sz16 (show 13 + ns.length ≤ 1000 by omega)
    have s2 := s1.trans (same_upd (o := .lst (W13 ++ NmL ns)) nbl)
    have hbl : (upd (upd H wl (.lst W13)) bl (.lst (W13 ++ NmL ns))) bl = some (.lst (W13 ++ NmL ns)) := upd_same
    have hwl : (upd (upd H wl (.lst W13)) bl (.lst (W13 ++ NmL ns))) wl = some (.lst W13) := same_upd nbl _ _ upd_same
    have sr2 := sr.of_same s2
    have lb : (W13 ++ NmL ns).length = 13 + ns.length := by
      rw [List.length_append, nml_len]
      rfl
    refine ⟨_, rfl, _, rfl, nl, NmL ns, rfl, .inl (sql_of (s2 _ _ hnl)), _, _, rfl, rfl, fun q eq => ⟨a, c, q, rfl, sr2, by rw [nml_len] at eq; omega, Nat.lt_of_le_of_lt (show _ ≤ 1000 by rw [nml_len] at eq; omega) (by decide), fun t H3 t0 t1 kp3 sr3 => ?_⟩⟩
    rw [nml_len] at eq
    have nbla : bl ≠ a := sr2.ne_len hbl (by rw [lb]; omega)
    have nwla : wl ≠ a := sr2.ne_len hwl (by show (13 : Nat) ≠ 3; decide)
    obtain ⟨x, hx, ex⟩ := atV_mem (l := W13 ++ NmL ns) t0 (by rw [lb]; omega)
    obtain ⟨ds, rfl, hst, hdl_, hin⟩ := word_ok hnm hx
    refine ⟨bl, _, t, _, rfl, rfl, sql_of (kp3 _ _ hbl nbla), ex, ?_⟩
    refine ⟨_, rfl, a, c, rfl, sr3, fun lo H4 hlo kp4 sr4 => ?_⟩
    have hwl4 := kp4 _ _ (kp3 _ _ hwl nwla) nwla
    have kp04 : Kp a H H4 := ((Kp.same s2).trans kp3).trans kp4
    refine ⟨fun σ' H' => ∃ hi : Int, σ' = [some (.ref a), some (.ref nl), some (.ref wl), some (.str (tx ds)), some (.int lo), some (.int hi), none, none, none] ∧ Kp a H H' ∧ Src H' a c ∧ H' wl = some (.lst W13), ?_, ?_⟩
    · refine ⟨_, rfl, _, rfl, fun r0 z1 z2 => ⟨10, 30, rfl, rfl, ⟨by decide, by decide, by decide⟩, fun b eb => ⟨_, _, rfl, rfl, _, rfl, ite2 (fun _ => ?_) (fun _ => ?_)⟩⟩⟩
      · exact ⟨_, rfl, _, rfl, a, c, 2, rfl, sr4, by decide, by decide, fun t5 H5 _ _ kp5 sr5 => ⟨_, _, rfl, rfl, fun hi ehi => ⟨hi, rfl, kp04.trans kp5, sr5, kp5 _ _ hwl4 nwla⟩⟩⟩
      · exact ⟨_, rfl, a, c, rfl, sr4, fun hi H5 _ kp5 sr5 => ⟨hi, rfl, kp04.trans kp5, sr5, kp5 _ _ hwl4 nwla⟩⟩
    rintro σ' H5 ⟨hi, rfl, kp5, sr5, hwl5⟩
    refine ⟨Nat.zero_le _, fun dl ndl => ?_⟩
    have s6 := same_upd (o := .lst []) ndl
    have hdl : (upd H5 dl (.lst [])) dl = some (.lst []) := upd_same
    generalize (upd H5 dl (.lst [])) = H6 at s6 hdl
    refine ⟨fun σ' H' => ∃ dl : Addr, σ' = [some (.ref a), some (.ref nl), some (.ref wl), some (.str (tx ds)), some (.int lo), some (.int hi), some (.ref dl), none, none] ∧ Same H6 H' ∧ DueM H' dl ds lo hi, ?_, ?_⟩
    · refine ⟨_, rfl, _, rfl, 9, rfl, wl, W13, rfl, sql_of (s6 _ _ hwl5), fun cl ncl => ?_⟩
      have s7 := same_upd (o := .lst (cutV W13 none (some 9))) ncl
      refine ⟨cl, W9s.map V.str, rfl, .inl (sql_of upd_same), rfl, rfl, _, rfl, ?_⟩
      refine ite2 (fun e1 => ?_) (fun e1 => ?_)
      · have e2 : inV (V.str (tx ds)) (W9s.map V.str) = true := e1
        rw [hin] at e2
        have e3 : okNm ds = false := by simpa using e2
        refine ⟨_, rfl, (by show 2 ≤ sizeLine; decide), fun q nq => ⟨(by show 1 ≤ sizeLine; decide), fun l nl2 => ?_⟩⟩
        have a1 := same_upd (o := .tup [V.str "BadName", V.str (tx ds)]) nq
        have a2 := same_upd (o := .lst [V.ref q]) nl2
        exact ⟨l, rfl, (s7.trans a1).trans a2, .inl ⟨e3, q, upd_same, a2 _ _ upd_same⟩⟩
      · have e2 : ¬ inV (V.str (tx ds)) (W9s.map V.str) = true := e1
        rw [hin] at e2
        have e3 : okNm ds = true := by simpa using e2
        refine ⟨_, rfl, _, rfl, _, _, rfl, rfl, _, rfl, ite2 (fun c1 => ?_) (fun c1 => ?_)⟩
        · have c2 : lo > hi := of_decide_eq_true c1
          refine ⟨_, rfl, _, rfl, (by show 3 ≤ sizeLine; decide), fun q nq => ⟨(by show 1 ≤ sizeLine; decide), fun l nl2 => ?_⟩⟩
          have a1 := same_upd (o := .tup [V.str "BadEnds", V.int lo, V.int hi]) nq
          have a2 := same_upd (o := .lst [V.ref q]) nl2
          exact ⟨l, rfl, (s7.trans a1).trans a2, .inr (.inl ⟨e3, c2, q, upd_same, a2 _ _ upd_same⟩)⟩
        · have c2 : lo ≤ hi := by
            have : ¬ lo > hi := fun z => c1 (decide_eq_true z)
            omega
          exact ⟨dl, rfl, s7, .inr (.inr ⟨e3, c2, s7 _ _ hdl⟩)⟩
    rintro σ' H7 ⟨dl', rfl, s7, hdue⟩
    have s57 := s6.trans s7
    have kp7 : Kp a H H7 := kp5.trans (Kp.same s57)
    have sr7 := sr5.of_same s57
    refine ⟨_, rfl, _, rfl, _, rfl, rfl, rfl, ds, lo, hi, rfl, Nat.le_trans hdl_ (by decide), fun bad d2 H8 nd8 s8 hd8 => ?_, fun ok gt d2 H8 nd8 s8 hd8 => ?_, fun ok le r H8 nr s8 hf => ?_⟩
    · obtain ⟨_, q, z1, z2⟩ : okNm ds = false ∧ RaisedAt H7 dl' [.str "BadName", .str (tx ds)] := by
        rcases hdue with z | z | z
        · exact z
        · rw [bad] at z
          exact absurd z.1 (by decide)
        · rw [bad] at z
          exact absurd z.1 (by decide)
      refine ⟨true, x0, fun _ a2 na2 => ?_, fun z => nomatch z⟩
      refine ⟨_, rfl, dl', _, rfl, .inl (sql_of (s8 _ _ z1)), rfl, _, rfl, ?_⟩
      refine iteT' rfl ?_
      refine ⟨_, rfl, d2, .str (tx ds), .non, rfl, .inl ⟨rfl, rfl, hd8, fun l H9 nl9 s9 hr9 => ?_⟩⟩
      have s79 := s8.trans s9
      refine ⟨_, rfl, bnD (tx ds), bnD (tx ds), dp_bn hr9, dp_bn ⟨q, s79 _ _ z1, s79 _ _ z2⟩, sh_bn hst, sh_bn hst, ?_⟩
      rw [eqv_bn]
      exact k H9 (kp7.trans (Kp.same s79)) (sr7.of_same s79)
    · obtain ⟨_, _, q, z1, z2⟩ : okNm ds = true ∧ lo > hi ∧ RaisedAt H7 dl' [.str "BadEnds", .int lo, .int hi] := by
        rcases hdue with z | z | z
        · rw [ok] at z
          exact absurd z.1 (by decide)
        · exact z
        · omega
      refine ⟨true, x1, fun _ a2 na2 => ?_, fun z => nomatch z⟩
      refine ⟨_, rfl, dl', _, rfl, .inl (sql_of (s8 _ _ z1)), rfl, _, rfl, ?_⟩
      refine iteT' rfl ?_
      refine ⟨_, rfl, d2, .int lo, .int hi, rfl, .inr ⟨rfl, rfl, hd8, fun l H9 nl9 s9 hr9 => ?_⟩⟩
      have s79 := s8.trans s9
      refine ⟨_, rfl, beD lo hi, beD lo hi, dp_be hr9, dp_be ⟨q, s79 _ _ z1, s79 _ _ z2⟩, sh_be, sh_be, ?_⟩
      rw [eqv_be]
      exact k H9 (kp7.trans (Kp.same s79)) (sr7.of_same s79)
    · have z1 : H7 dl' = some (.lst []) := by
        rcases hdue with z | z | z
        · rw [ok] at z
          exact absurd z.1 (by decide)
        · omega
        · exact z.2.2
      refine ⟨_, rfl, dl', _, rfl, .inl (sql_of (s8 _ _ z1)), rfl, _, rfl, ?_⟩
      refine iteT' rfl ?_
      refine ⟨_, rfl, fun d nd => ?_⟩
      have u1 := same_upd (o := .dK []) nd
      refine ⟨_, rfl, _, rfl, _, rfl, (by show 3 ≤ sizeLine; decide), fun q nq => ⟨same_upd nq _ _ upd_same, [(Sum.inr (tx ds), .ref q)], rfl, (by show (1 : Nat) ≤ 15; decide), (by show 2 ≤ sizeLine; decide), fun m nm => ?_⟩⟩
      have u2 := same_upd (o := .tup [V.int 1, V.int lo, V.int hi]) nq
      have u3 : Same H8 (upd (upd (upd H8 d (.dK [])) q (.tup [V.int 1, V.int lo, V.int hi])) d (.dK (mergeK [] [(Sum.inr (tx ds), V.ref q)]))) := fun b o eb => by
        rw [upd_ne (ne_of_none eb nd)]
        exact u2 _ _ (u1 _ _ eb)
      have hq : (upd (upd (upd H8 d (.dK [])) q (.tup [V.int 1, V.int lo, V.int hi])) d (.dK (mergeK [] [(Sum.inr (tx ds), V.ref q)]))) q = some (.tup [V.int 1, V.int lo, V.int hi]) := by
        have : q ≠ d := (ne_of_none (upd_same (H := H8) (a := d) (o := .dK [])) nq).symm
        rw [upd_ne this]
        exact upd_same
      have u4 := same_upd (o := .tup [V.int 0, V.ref d]) nm
      have s78 := (s8.trans u3).trans u4
      refine ⟨r, m, 0, [⟨tx ds, 1, lo, hi⟩], rfl, (hf.keep u3).keep u4, ⟨[⟨tx ds, 1, lo, hi⟩], ⟨d, _, upd_same, rfl, rfl, fun s es => (by cases es), ⟨_, u4 _ _ upd_same, .cons ⟨tx ds, 1, lo, hi⟩ q (u4 _ _ hq) .nil⟩, List.pairwise_singleton _ _, (by show (1 : Nat) ≤ 100; decide)⟩, srt_self (List.pairwise_singleton _ _)⟩, fun x hx => ?_, fun H9 s9 => k H9 (kp7.trans (Kp.same (s78.trans s9))) (sr7.of_same (s78.trans s9))⟩
      obtain rfl := List.mem_singleton.mp hx
      exact hst
end
end DO

namespace DO
open PySem PySem.Spec PyProof.Rows L2
section
variable {P : Program} {w : World} {K : PySem.W.Frag} {mg : Str → Option Value} {base : Heap}
/-! ### the law itself -/
theorem valV_mem {kvs : List (Key × V)} {k : Key} {v : V} (h : valV kvs k = some v) : ∃ kv ∈ kvs, kv.2 = v := by
  unfold valV at h
  cases e : kvs.find? (fun p => decide (p.1 = k)) with
  | none =>
    rw [e] at h
    cases h
  | some p =>
    rw [e] at h
    exact ⟨p, List.mem_of_find?_eq_some e, Option.some.inj h⟩
theorem putK_mem {kvs : List (Key × V)} {k : Key} {v : V} {kv : Key × V} (h : kv ∈ putK kvs k v) : kv ∈ kvs ∨ kv.2 = v := by
  unfold putK at h
  split at h
  · obtain ⟨p, hp, rfl⟩ := List.mem_map.mp h
    split
    · exact .inr rfl
    · exact .inl hp
  · rcases List.mem_append.mp h with z | z
    · exact .inl z
    · rw [List.mem_singleton.mp z]
      exact .inr rfl
def EndsL (H : Hp) (kvs : List (Key × V)) (pl : Addr) : Prop := ∀ kv ∈ kvs, ∃ l t1 t2 lo1 hi1 lo2 hi2, kv.2 = .ref l ∧ l ≠ pl ∧ H l = some (.lst [.ref t1, .ref t2]) ∧ EndsAt H t1 lo1 hi1 ∧ EndsAt H t2 lo2 hi2
theorem EndsL.mono {H H' : Hp} {kvs : List (Key × V)} {pl : Addr} (h : EndsL H kvs pl) (k1 : ∀ b xs, H b = some (.tup xs) → H' b = some (.tup xs)) (k2 : ∀ b x y, b ≠ pl → H b = some (.lst [x, y]) → H' b = some (.lst [x, y])) : EndsL H' kvs pl := fun kv hkv => by
  obtain ⟨l, t1, t2, lo1, hi1, lo2, hi2, e1, e2, e3, e4, e5⟩ := h kv hkv
  exact ⟨l, t1, t2, lo1, hi1, lo2, hi2, e1, e2, k2 _ _ _ e2 e3, ⟨k1 _ _ e4.1, e4.2⟩, ⟨k1 _ _ e5.1, e5.2⟩⟩
theorem EndsL.put {H : Hp} {kvs : List (Key × V)} {pl l t1 t2 : Addr} {lo1 hi1 lo2 hi2 : Int} {k : Key} (h : EndsL H kvs pl) (e2 : l ≠ pl) (e3 : H l = some (.lst [.ref t1, .ref t2])) (e4 : EndsAt H t1 lo1 hi1) (e5 : EndsAt H t2 lo2 hi2) : EndsL H (putK kvs k (.ref l)) pl := fun kv hkv => by
  rcases putK_mem hkv with z | z
  · exact h kv z
  · exact ⟨l, t1, t2, lo1, hi1, lo2, hi2, z, e2, e3, e4, e5⟩
theorem ends_of {H : Hp} {D pl : Addr} {kvs : List (Key × V)} {NS : List Str} (hD : H D = some (.dK kvs)) (h : EndsL H kvs pl) (hn : ∀ w ∈ NS, ∃ v, valV kvs (Sum.inr w : Key) = some v) : ∃ f g, EndsD H D NS f g := by
  have step : ∀ w : Str, ∃ q : (Int × Int) × (Int × Int), w ∈ NS → ∃ l t1 t2, valV kvs (Sum.inr w : Key) = some (.ref l) ∧ H l = some (.lst [.ref t1, .ref t2]) ∧ EndsAt H t1 q.1.1 q.1.2 ∧ EndsAt H t2 q.2.1 q.2.2 := fun w => by
    by_cases hw : w ∈ NS
    · obtain ⟨v, hv⟩ := hn w hw
      obtain ⟨kv, hkv, e⟩ := valV_mem hv
      obtain ⟨l, t1, t2, lo1, hi1, lo2, hi2, e1, _, e3, e4, e5⟩ := h kv hkv
      exact ⟨((lo1, hi1), (lo2, hi2)), fun _ => ⟨l, t1, t2, by rw [hv, ← e, e1], e3, e4, e5⟩⟩
    · exact ⟨((0, 0), (0, 0)), fun z => absurd z hw⟩
  obtain ⟨F, hF⟩ := Classical.axiomOfChoice step
  exact ⟨fun w => (F w).1, fun w => (F w).2, kvs, hD, fun w hw => hF w hw⟩
theorem Ent.kd {C D pl : Addr} {H : Hp} {e : Addr} {n : Int} {ts : List Tm} {k : Str} {kvs kvs' : List (Key × V)} (h : Ent C H e n ts k) (hD : H D = some (.dK kvs)) (hL : EndsL H kvs pl) (hne : kvs ≠ []) : Ent C (upd H D (.dK kvs')) e n ts k := by
  have tp : ∀ b xs, H b = some (.tup xs) → (upd H D (.dK kvs')) b = some (.tup xs) := fun b xs z => by
    rw [upd_ne (ne_of z hD fun w => nomatch w)]
    exact z
  obtain ⟨x, m, h1, h2, M, ⟨d, xs, z1, z2, z3, z4, ⟨⟨kv, hd, hA⟩, nd, sz⟩⟩, hs⟩ := h
  refine ⟨x, m, tp _ _ h1, ?_, M, ⟨d, xs, tp _ _ z1, z2, z3, z4, ⟨⟨kv, ?_, hA.mono tp⟩, nd, sz⟩⟩, hs⟩
  · cases h2 with
    | form p n ts h =>
      obtain ⟨dx, t, us, a1, a2, a3⟩ := h
      exact .form p n ts ⟨dx, t, us, by rw [upd_ne (ne_of a1 hD fun w => nomatch w)]; exact a1, tp _ _ a2, a3.mono tp⟩
    | num n => exact .num n
  · have : d ≠ D := fun z => by
      rw [z, hD] at hd
      cases hd
      cases hA with
      | nil => exact hne rfl
      | cons y t ht r =>
        obtain ⟨l, t1, t2, _, _, _, _, e1, _, e3, _⟩ := hL _ List.mem_cons_self
        have e1' : V.ref t = V.ref l := e1
        cases e1'
        rw [ht] at e3
        cases e3
    rw [upd_ne this]
    exact hd
theorem EOk.kd {C D pl : Addr} {H : Hp} {NS : List Str} {B : Nat} {x : V} {kvs kvs' : List (Key × V)} (h : EOk C H NS B x) (hD : H D = some (.dK kvs)) (hL : EndsL H kvs pl) (hne : kvs ≠ []) : EOk C (upd H D (.dK kvs')) NS B x := by
  obtain ⟨e, n, ts, h1, h2, h3⟩ := h
  exact ⟨e, n, ts, h1, h2.kd hD hL hne, h3⟩
abbrev sLaw : Stmt := top 50
theorem scLaw : FnScope ["_law_script", "_law_source_here", "_law_many", "_law_names_here", "_law_ends_here", "_law_pool", "_law_word_here", "_law_first", "_law_number_here", "_law_one_here", "_law_k", "_law_made"] ["_law_script"] (defScope sLaw) := ⟨rfl, rfl, rfl, by decide +kernel, rfl, by decide +kernel, by decide +kernel⟩
structure FkG (P : Program) (w : World) (K : PySem.W.Frag) (mg : Str → Option Value) (base : Heap) (k : Nat) (x : Str) (st : Stmt) (ps : List Str) (sp : Sp) where
  D : Df K mg x st ps
  G : FnG P w K mg base k D.f D.fd ps sp
def spLaw (K : PySem.W.Frag) : Sp := fun vs H Q _ => ∃ (a : Addr) (ns : List Int), vs = [.ref a] ∧ SqL K H a (ns.map V.int) ∧ ns.length ≤ 63 ∧ ∀ H', Q (.bl true) H'
theorem ok_law {C : Addr} (D : Df K mg "law" sLaw ["_law_script"]) (FM : FMk P w K mg base C) (TT : Fk P w K mg base 2 "_law_take" sTake ["_law_source_here", "_law_many"] spTake) (NU : Fk P w K mg base 3 "_law_number" sNumber ["_law_source_here"] spNumber) (ON : Fk P w K mg base 6 "_law_one" sOne ["_law_word_here", "_law_ends_here"] (spOne C)) (PK : Fk P w K mg base 3 "_law_pick" sPic ["_law_source_here", "_law_pool"] spPic) (SO : Fk P w K mg base 1 "_law_source" sSource ["_law_script"] (spSource K)) (NM : Fk P w K mg base 4 "_law_names" sNames ["_law_source_here", "_law_many"] spNames) (EN : Fk P w K mg base 4 "_law_ends" sEnds ["_law_source_here"] spEnds) (OE : Fk P w K mg base 5 "_law_other_ends" sOther ["_law_source_here", "_law_ends_here"] spOther) (IF : Fk P w K mg base 2 "_law_is_form" sIsF ["_law_actual", "_law_model"] (spIsF C)) (OP : Fk P w K mg base 11 "_law_operation" sOpe ["_law_source_here", "_law_pool"] (spOpe C)) (NE : Fk P w K mg base 12 "_law_near" sNea ["_law_source_here", "_law_names_here", "_law_ends_here", "_law_one_here"] (spNea C)) (UN : Fk P w K mg base 12 "_law_unlike" sUnl ["_law_source_here", "_law_names_here", "_law_ends_here"] (spUnl C)) (BO : Fk P w K mg base 12 "_law_bounds" sBou ["_law_source_here", "_law_one_here"] (spBou C)) (MD : Fk P w K mg base 6 "_law_measured" sMsd ["_law_source_here", "_law_names_here"] spMsd) (VA : FkG P w K mg base 10 "_law_values" sVls ["_law_source_here", "_law_names_here", "_law_ends_here", "_law_one_here"] (spVls C)) (mr : mg "range" = none) :
    FnG P w K mg base 13 D.f D.fd ["_law_script"] (spLaw K) := by
  refine okG D.fn scLaw (fun vs H Q E h => ?_) (fun cdv A outer s0 H vs Q E hgd hr h => ?_)
  · obtain ⟨a, ns, rfl, _⟩ := h
    rfl
  · obtain ⟨a, cells, rfl, hcells, hc63, k⟩ := h
    have hu := hu_of hr
    refine ⟨_, (pss_cons (ps_set (i := 1) scLaw.nd rfl (.inl rfl) (pe_call SO.G (hr.mono (by decide)) (by rfl) SO.D.mgf SO.D.fn.kp SO.D.bd .nil pass0 (pa_cons (pv 0) pa_nil)))
      (pss_cons (ps_set (i := 2) scLaw.nd rfl (.inl rfl) (pe_op op_addL pe_int (pe_call TT.G (hr.mono (by decide)) (by rfl) TT.D.mgf TT.D.fn.kp TT.D.bd .nil pass0 (pa_cons (pv 1) (pa_cons pe_int pa_nil)))))
      (C8.pss_cut (ps_if (pt_cmpR op_eq (pe_call TT.G (hr.mono (by decide)) (by rfl) TT.D.mgf TT.D.fn.kp TT.D.bd .nil pass0 (pa_cons (pv 1) (pa_cons pe_int pa_nil))) pe_int (nomark _))
      (pss_one (ps_set (i := 2) scLaw.nd rfl (.inl rfl) (pe_op op_addL pe_int (pe_call TT.G (hr.mono (by decide)) (by rfl) TT.D.mgf TT.D.fn.kp TT.D.bd .nil pass0 (pa_cons (pv 1) (pa_cons pe_int pa_nil))))))
      pss_nil)
      (pss_cons (ps_set (i := 3) scLaw.nd rfl (.inl rfl) (pe_call NM.G (hr.mono (by decide)) (by rfl) NM.D.mgf NM.D.fn.kp NM.D.bd .nil pass0 (pa_cons (pv 1) (pa_cons (pv 2) pa_nil))))
      (pss_cons (ps_set (i := 4) scLaw.nd rfl (.inl rfl) pe_dnewK)
      (pss_cons (ps_set (i := 5) scLaw.nd rfl (.inl rfl) (pe_lst pa_nil))
      (pss_cons (ps_for PassesOwn.never rfl (pi_list (pv 3)) (pg_name (i := 6) scLaw.nd rfl (Or.inl rfl))
      (pss_cons (ps_set (i := 7) scLaw.nd rfl (.inl rfl) (pe_call EN.G (hr.mono (by decide)) (by rfl) EN.D.mgf EN.D.fn.kp EN.D.bd .nil pass0 (pa_cons (pv 1) pa_nil)))
      (pss_cons (ps_dput hu (pv 4) (pv 6) (pe_lst (pa_cons (pv 7) (pa_cons (pe_call OE.G (hr.mono (by decide)) (by rfl) OE.D.mgf OE.D.fn.kp OE.D.bd .nil pass0 (pa_cons (pv 1) (pa_cons (pv 7) pa_nil))) pa_nil))) rfl)
      (pss_cons (ps_expr (pe_bm PySem.F.plainAttrs_list PySem.F.slot_list_append PySem.F.type_list_append mt_append (pv 5) (pa_cons (pe_call ON.G (hr.mono (by decide)) (by rfl) ON.D.mgf ON.D.fn.kp ON.D.bd .nil pass0 (pa_cons (pv 6) (pa_cons (pe_ix ix_list (pe_dget hu (pv 4) (pv 6) (fun _ _ => rfl)) pe_int (fun _ _ => rfl)) pa_nil))) pa_nil)))
      (pss_one (ps_expr (pe_bm PySem.F.plainAttrs_list PySem.F.slot_list_append PySem.F.type_list_append mt_append (pv 5) (pa_cons (pe_call ON.G (hr.mono (by decide)) (by rfl) ON.D.mgf ON.D.fn.kp ON.D.bd .nil pass0 (pa_cons (pv 6) (pa_cons (pv 7) pa_nil))) pa_nil))))))))
      (pss_cons (ps_set (i := 8) scLaw.nd rfl (.inl rfl) (pe_call NU.G (hr.mono (by decide)) (by rfl) NU.D.mgf NU.D.fn.kp NU.D.bd .nil pass0 (pa_cons (pv 1) pa_nil)))
      (pss_cons (ps_expr (pe_bm PySem.F.plainAttrs_list PySem.F.slot_list_append PySem.F.type_list_append mt_append (pv 5) (pa_cons (pe_tup (pa_cons (pe_make FM.MK FM.GI (hr.mono (by decide)) rfl FM.T.mgC FM.MI.bd .nil pass0 (pa_cons (pv 8) pa_nil)) (pa_cons (pe_tup (pa_cons (pv 8) (pa_cons pe_dnewK (pa_cons pe_str pa_nil)))) pa_nil))) pa_nil)))
      (pss_cons (ps_for PassesOwn.never rfl (pi_list (pv 5)) (pg_name (i := 9) scLaw.nd rfl (Or.inl rfl))
      (pss_one (ps_if (pt_not (pt_val (pe_call IF.G (hr.mono (by decide)) (by rfl) IF.D.mgf IF.D.fn.kp IF.D.bd .nil pass0 (pa_cons (pe_ix ix_tup (pv 9) pe_int (fun _ _ => rfl)) (pa_cons (pe_ix ix_tup (pv 9) pe_int (fun _ _ => rfl)) pa_nil)))))
      (pss_one (ps_never))
      pss_nil)))
      (pss_cons (ps_for PassesOwn.never rfl (pi_range1 rfl mr (pa_cons (pe_op op_addL pe_int (pe_call TT.G (hr.mono (by decide)) (by rfl) TT.D.mgf TT.D.fn.kp TT.D.bd .nil pass0 (pa_cons (pv 1) (pa_cons pe_int pa_nil)))) pa_nil)) (pg_name (i := 10) scLaw.nd rfl (Or.inl rfl))
      (pss_cons (ps_set (i := 11) scLaw.nd rfl (.inl rfl) (pe_call OP.G (hr.mono (by decide)) (by rfl) OP.D.mgf OP.D.fn.kp OP.D.bd .nil pass0 (pa_cons (pv 1) (pa_cons (pv 5) pa_nil))))
      (pss_cons (ps_if (pt_cmp (pc_isN (pv 11)))
      (pss_one (ps_never))
      pss_nil)
      (pss_one (ps_set (i := 5) scLaw.nd rfl (.inl rfl) (pe_op op_cat (pv 5) (pv 11)))))))
      (pss_cons (ps_set (i := 9) scLaw.nd rfl (.inl rfl) (pe_call PK.G (hr.mono (by decide)) (by rfl) PK.D.mgf PK.D.fn.kp PK.D.bd .nil pass0 (pa_cons (pv 1) (pa_cons (pv 5) pa_nil))))
      (pss_cons (ps_if (PW.pt (pw_or (pt_not (pt_val (pe_call NE.G (hr.mono (by decide)) (by rfl) NE.D.mgf NE.D.fn.kp NE.D.bd .nil pass0 (pa_cons (pv 1) (pa_cons (pv 3) (pa_cons (pv 4) (pa_cons (pv 9) pa_nil))))))) (pw_or1 (pt_not (pt_val (pe_call UN.G (hr.mono (by decide)) (by rfl) UN.D.mgf UN.D.fn.kp UN.D.bd .nil pass0 (pa_cons (pv 1) (pa_cons (pv 3) (pa_cons (pv 4) pa_nil)))))))))
      (pss_one (ps_never))
      pss_nil)
      (pss_cons (ps_if (PW.pt (pw_or (pt_not (pt_val (pe_call BO.G (hr.mono (by decide)) (by rfl) BO.D.mgf BO.D.fn.kp BO.D.bd .nil pass0 (pa_cons (pv 1) (pa_cons (pv 9) pa_nil))))) (pw_or1 (pt_not (pt_val (pe_callG VA.G hgd (hr.mono (by decide)) (by rfl) VA.D.mgf VA.D.fn.kp VA.D.bd (pa_cons (pv 1) (pa_cons (pv 3) (pa_cons (pv 4) (pa_cons (pv 9) pa_nil))))))))))
      (pss_one (ps_never))
      pss_nil)
      (pss_cons (ps_for PassesOwn.never rfl (pi_list (pv 5)) (pg_name (i := 9) scLaw.nd rfl (Or.inl rfl))
      (pss_one (ps_if (pt_not (pt_val (pe_call IF.G (hr.mono (by decide)) (by rfl) IF.D.mgf IF.D.fn.kp IF.D.bd .nil pass0 (pa_cons (pe_ix ix_tup (pv 9) pe_int (fun _ _ => rfl)) (pa_cons (pe_ix ix_tup (pv 9) pe_int (fun _ _ => rfl)) pa_nil)))))
      (pss_one (ps_never))
      pss_nil)))
      (pss_one (ps_ret (pe_call MD.G (hr.mono (by decide)) (by rfl) MD.D.mgf MD.D.fn.kp MD.D.bd .nil pass0 (pa_cons (pv 1) (pa_cons (pv 3) pa_nil)))))))))))))))))))), ?_⟩
    refine ⟨_, rfl, a, cells, rfl, hcells, hc63, fun s c H1 _ _ _ sr1 => ?_⟩
    refine ⟨_, rfl, s, c, 4, rfl, sr1, by decide, by decide, fun t1 H2 t10 t11 kp2 sr2 => ⟨_, _, rfl, rfl, fun m1 em1 => ?_⟩⟩
    refine ⟨fun σ' H' => ∃ m : Int, σ' = [some (.ref a), some (.ref s), some (.int m), none, none, none, none, none, none, none, none, none] ∧ 1 ≤ m ∧ m ≤ 10 ∧ Src H' s c, ?_, ?_⟩
    · refine ⟨_, rfl, s, c, 8, rfl, sr2, by decide, by decide, fun t2 H3 _ _ kp3 sr3 => ⟨rfl, _, rfl, ite2 (fun _ => ?_) (fun _ => ?_)⟩⟩
      · exact ⟨_, rfl, s, c, 6, rfl, sr3, by decide, by decide, fun t3 H4 t30 t31 kp4 sr4 => ⟨_, _, rfl, rfl, fun m2 em2 => ⟨m2, rfl, by omega, by omega, sr4⟩⟩⟩
      · exact ⟨m1, rfl, by omega, by omega, sr3⟩
    rintro σ' H3 ⟨m, rfl, hm1, hm10, sr3⟩
    refine ⟨_, rfl, _, rfl, s, c, m, rfl, sr3, hm1, hm10, fun ns nl H4 nnl hlen hnm hnl kp4 sr4 => ?_⟩
    obtain ⟨_, hs3⟩ := sr3.at_
    have nls : nl ≠ s := (ne_of_none hs3 nnl).symm
    have hz : ns.length ≤ 10 := by omega
    have hz1 : 0 < ns.length := by omega
    intro D nD
    refine ⟨Nat.zero_le _, fun pl npl => ?_⟩
    have s5 := (same_upd (o := .dK []) nD).trans (same_upd (o := .lst []) npl)
    have hD5 : (upd (upd H4 D (.dK [])) pl (.lst [])) D = some (.dK []) := same_upd npl _ _ upd_same
    have hpl5 : (upd (upd H4 D (.dK [])) pl (.lst [])) pl = some (.lst []) := upd_same
    have npl4 : H4 pl = none := by
      have : pl ≠ D := fun z => by
        rw [z, upd_same] at npl
        cases npl
      rw [upd_ne this] at npl
      exact npl
    generalize (upd (upd H4 D (.dK [])) pl (.lst [])) = H5 at s5 hD5 hpl5
    obtain ⟨_, hs4⟩ := sr4.at_
    have plc : c ≠ pl := by
      obtain ⟨_, _, _, _, _, hc, _⟩ := id sr4
      exact ne_of_none hc npl4
    have pls : pl ≠ s := (ne_of_none hs4 npl4).symm
    have Ds : D ≠ s := (ne_of_none hs4 nD).symm
    have Dpl : D ≠ pl := ne_of hD5 hpl5 fun z => nomatch z
    have sr5 := sr4.of_same s5
    have hnl5 := s5 _ _ hnl
    have nlD : nl ≠ D := ne_of hnl5 hD5 fun z => nomatch z
    have nlpl : nl ≠ pl := ne_of_none hnl npl4
    refine ⟨_, rfl, nl, rfl, ⟨_, sql_of hnl5⟩, for_list (K := K) (a := nl) (xs := NmL ns) (fun i σ H' => ∃ (kvs : List (Key × V)) (xs : List V) (x6 x7 : Option V), σ = [some (.ref a), some (.ref s), some (.int m), some (.ref nl), some (.ref D), some (.ref pl), x6, x7, none, none, none, none] ∧ H' D = some (.dK kvs) ∧ H' pl = some (.lst xs) ∧ xs.length = 2 * i ∧ kvs.length ≤ i ∧ (kvs = [] → xs = []) ∧ EndsL H' kvs pl ∧ (∀ ds ∈ ns.take i, ∃ v, valV kvs (Sum.inr (tx ds) : Key) = some v) ∧ (∀ x ∈ xs, EOk C H' (ns.map tx) 201 x) ∧ H' nl = some (.lst (NmL ns)) ∧ Src H' s c)
      ⟨[], [], none, none, rfl, hD5, hpl5, rfl, Nat.le_refl _, fun _ => rfl, fun kv hkv => by simp at hkv, fun ds hds => by simp at hds, fun x hx => by simp at hx, hnl5, sr5⟩ (fun i σ H' _ ⟨_, _, _, _, _, _, _, _, _, _, _, _, _, z, _⟩ => sql_of z) ?_ ?_⟩
    · rintro i y σ H6 hi ⟨kvs, xs, x6, x7, rfl, hD6, hpl6, hxl, hkl, hke, hL, hV, hE, hnl6, sr6⟩
      have hil : i < ns.length := by
        have := (List.getElem?_eq_some_iff.mp hi).1
        rw [nml_len] at this
        exact this
      have hx : ns[i]? = some ns[i] := List.getElem?_eq_getElem hil
      generalize ns[i] = ds at hx
      have hy : y = .str (tx ds) := by
        unfold NmL at hi
        rw [List.getElem?_map, hx] at hi
        exact (Option.some.inj hi).symm
      subst hy
      have hds := List.mem_of_getElem? hx
      have hNm := hnm ds hds
      obtain ⟨_, hs6⟩ := sr6.at_
      refine ⟨_, rfl, s, c, rfl, sr6, fun lo1 hi1 t1 H7 he1 kp7 sr7 nt1 => ?_⟩
      refine ⟨_, rfl, _, rfl, _, rfl, s, c, t1, lo1, hi1, rfl, sr7, he1, nt1, fun lo2 hi2 t2 H8 he2 kp8 sr8 nt2 => ⟨(by show 2 ≤ sizeLine; decide), fun l nl8 => ?_⟩⟩
      obtain ⟨_, hs7⟩ := sr7.at_
      have he1' : EndsAt H8 t1 lo1 hi1 := ⟨tup_kp kp8 hs7 _ _ he1.1, he1.2⟩
      have kp68 := kp7.trans kp8
      have hD8 := kp68 _ _ hD6 Ds
      have hpl8 := kp68 _ _ hpl6 pls
      have hnl8 := kp68 _ _ hnl6 nls
      have hL8 : EndsL H8 kvs pl := hL.mono (tup_kp kp68 hs6) fun b x y _ z => kp68 _ _ z (sr6.ne_len z (by show (2 : Nat) ≠ 3; decide))
      have hE8 : ∀ x ∈ xs, EOk C H8 (ns.map tx) 201 x := fun x hx => (hE x hx).kp kp68 hs6
      have u9 := same_upd (o := .lst [V.ref t1, V.ref t2]) nl8
      have hl9 : (upd H8 l (.lst [V.ref t1, V.ref t2])) l = some (.lst [V.ref t1, V.ref t2]) := upd_same
      have nlp : l ≠ pl := (ne_of_none hpl8 nl8).symm
      have nlD' : l ≠ D := (ne_of_none hD8 nl8).symm
      have nls' : l ≠ s := by
        obtain ⟨_, hs8⟩ := sr8.at_
        exact (ne_of_none hs8 nl8).symm
      have sr9 := sr8.of_same u9
      have he19 : EndsAt (upd H8 l (.lst [V.ref t1, V.ref t2])) t1 lo1 hi1 := ⟨u9 _ _ he1'.1, he1'.2⟩
      have he29 : EndsAt (upd H8 l (.lst [V.ref t1, V.ref t2])) t2 lo2 hi2 := ⟨u9 _ _ he2.1, he2.2⟩
      have hL9 : EndsL (upd H8 l (.lst [V.ref t1, V.ref t2])) kvs pl := hL8.mono (fun b xs z => u9 _ _ z) fun b x y _ z => u9 _ _ z
      have hE9 : ∀ x ∈ xs, EOk C (upd H8 l (.lst [V.ref t1, V.ref t2])) (ns.map tx) 201 x := fun x hx => (hE8 x hx).keep u9
      have hD9 := u9 _ _ hD8
      have hpl9 := u9 _ _ hpl8
      have hnl9 := u9 _ _ hnl8
      generalize (upd H8 l (.lst [V.ref t1, V.ref t2])) = H9 at hl9 sr9 he19 he29 hL9 hE9 hD9 hpl9 hnl9
      refine ⟨_, rfl, _, rfl, D, _, rfl, DPut.k (k := Sum.inr (tx ds)) hD9 (small1000 (by omega)), ?_⟩
      have hLp : EndsL H9 (putK kvs (Sum.inr (tx ds)) (.ref l)) pl := hL9.put nlp hl9 he19 he29
      have kD : ∀ b o, b ≠ D → H9 b = some o → (upd H9 D (.dK (putK kvs (Sum.inr (tx ds)) (.ref l)))) b = some o := fun b o nb z => by
        rw [upd_ne nb]
        exact z
      have tD : ∀ b xs, H9 b = some (.tup xs) → (upd H9 D (.dK (putK kvs (Sum.inr (tx ds)) (.ref l)))) b = some (.tup xs) := fun b xs z => kD _ _ (ne_of z hD9 fun w => nomatch w) z
      have hLD := hLp.mono (H' := upd H9 D (.dK (putK kvs (Sum.inr (tx ds)) (.ref l)))) tD fun b x y _ z => kD _ _ (ne_of z hD9 fun w => nomatch w) z
      have hED : ∀ x ∈ xs, EOk C (upd H9 D (.dK (putK kvs (Sum.inr (tx ds)) (.ref l)))) (ns.map tx) 201 x := fun x hx => by
        refine (hE9 x hx).kd hD9 hL9 fun z => ?_
        rw [hke z] at hx
        simp at hx
      have srD : Src (upd H9 D (.dK (putK kvs (Sum.inr (tx ds)) (.ref l)))) s c := sr9.of_upd Ds.symm (by
        obtain ⟨_, _, _, _, _, hc, _⟩ := id sr9
        exact ne_of hc hD9 fun z => nomatch z)
      have hDD : (upd H9 D (.dK (putK kvs (Sum.inr (tx ds)) (.ref l)))) D = some (.dK (putK kvs (Sum.inr (tx ds)) (.ref l))) := upd_same
      have hplD := kD _ _ Dpl.symm hpl9
      have hlD := kD _ _ nlD' hl9
      have h1D := tD _ _ he19.1
      have h2D := tD _ _ he29.1
      have hnlD := kD _ _ nlD hnl9
      generalize (upd H9 D (.dK (putK kvs (Sum.inr (tx ds)) (.ref l)))) = H10 at hLD hED srD hDD hplD hlD h1D h2D hnlD
      have gv : valV (putK kvs (Sum.inr (tx ds)) (.ref l)) (Sum.inr (tx ds) : Key) = some (.ref l) := by rw [valV_put, if_pos rfl]
      have b1 : Bd 201 0 [⟨tx ds, 1, lo1, hi1⟩] := bd_one (by decide) he19.2.2.1 he19.2.2.2
      have b2 : Bd 201 0 [⟨tx ds, 1, lo2, hi2⟩] := bd_one (by decide) he29.2.2.1 he29.2.2.2
      have hw : tx ds ∈ ns.map tx := List.mem_map.mpr ⟨ds, hds, rfl⟩
      have i1 : ∀ lo hi, In (ns.map tx) [⟨tx ds, 1, lo, hi⟩] := fun lo hi z hz => by
        obtain ⟨y, hy, rfl⟩ := List.mem_map.mp hz
        obtain rfl := List.mem_singleton.mp hy
        exact hw
      -- two entries
      refine ⟨_, rfl, .inl ⟨rfl, _, sql_of hplD⟩, _, rfl, _, rfl, _, rfl, D, .ref l, rfl, by rw [← gv]; exact DGet.k (k := Sum.inr (tx ds)) hDD, l, _, 1, _, rfl, rfl, sql_of hlD, rfl, ds, t2, lo2, hi2, rfl, hNm, h2D, he29.2.1, fun e1 H11 s11 hen1 => ?_⟩
      refine ⟨pl, xs, _, rfl, rfl, s11 _ _ hplD, small1000 (by omega), ?_⟩
      have kP : Kp pl H11 (upd H11 pl (.lst (xs ++ [V.ref e1]))) := Kp.upd
      have hpl11 := s11 _ _ hplD
      have hL12 := (hLD.mono (H' := H11) (fun b xs z => s11 _ _ z) fun b x y _ z => s11 _ _ z).mono (H' := upd H11 pl (.lst (xs ++ [V.ref e1]))) (tup_kp kP hpl11) fun b x y nb z => kP _ _ z nb
      have hE12 : ∀ x ∈ xs ++ [V.ref e1], EOk C (upd H11 pl (.lst (xs ++ [V.ref e1]))) (ns.map tx) 201 x := fun x hx => by
        rcases List.mem_append.mp hx with z | z
        · exact ((hED x z).keep s11).kp kP hpl11
        · rw [List.mem_singleton.mp z]
          exact ⟨e1, 0, _, rfl, hen1.kp kP hpl11, .one hNm.st he29.2.1, b2, i1 _ _⟩
      have sr12 : Src (upd H11 pl (.lst (xs ++ [V.ref e1]))) s c := (srD.of_same s11).of_upd pls.symm plc
      have hpl12 : (upd H11 pl (.lst (xs ++ [V.ref e1]))) pl = some (.lst (xs ++ [V.ref e1])) := upd_same
      have hD12 := kP _ _ (s11 _ _ hDD) Dpl
      have h112 := tup_kp kP hpl11 _ _ (s11 _ _ h1D)
      have hnl12 := kP _ _ (s11 _ _ hnlD) nlpl
      generalize (upd H11 pl (.lst (xs ++ [V.ref e1]))) = H12 at hL12 hE12 sr12 hpl12 hD12 h112 hnl12
      refine ⟨_, rfl, .inl ⟨rfl, _, sql_of hpl12⟩, _, rfl, _, rfl, ds, t1, lo1, hi1, rfl, hNm, h112, he19.2.1, fun e2 H13 s13 hen2 => ?_⟩
      have hpl13 := s13 _ _ hpl12
      have kQ : Kp pl H13 (upd H13 pl (.lst ((xs ++ [V.ref e1]) ++ [V.ref e2]))) := Kp.upd
      refine ⟨pl, _, _, rfl, rfl, hpl13, (by rw [List.length_append]; exact small1000 (show xs.length + 1 ≤ 1000 by omega)), putK kvs (Sum.inr (tx ds)) (.ref l), (xs ++ [V.ref e1]) ++ [V.ref e2], _, _, rfl, kQ _ _ (s13 _ _ hD12) Dpl, upd_same, ?_, ?_, ?_, ?_, ?_, ?_, kQ _ _ (s13 _ _ hnl12) nlpl, ?_⟩
      · rw [List.length_append, List.length_append]
        show xs.length + 1 + 1 = _
        omega
      · refine Nat.le_trans (length_putK _ _ _) ?_
        omega
      · intro z
        exfalso
        rw [z] at gv
        cases gv
      · exact (hL12.mono (H' := H13) (fun b xs z => s13 _ _ z) fun b x y _ z => s13 _ _ z).mono (tup_kp kQ hpl13) fun b x y nb z => kQ _ _ z nb
      · intro ds' hds'
        rw [List.take_add_one, hx] at hds'
        rw [valV_put]
        rcases List.mem_append.mp hds' with w | w
        · split
          · exact ⟨_, rfl⟩
          · exact hV ds' w
        · have w' : ds' = ds := by simpa using w
          rw [w', if_pos rfl]
          exact ⟨_, rfl⟩
      · intro x hx
        rcases List.mem_append.mp hx with z | z
        · exact ((hE12 x z).keep s13).kp kQ hpl13
        · rw [List.mem_singleton.mp z]
          exact ⟨e2, 0, _, rfl, hen2.kp kQ hpl13, .one hNm.st he19.2.1, b1, i1 _ _⟩
      · exact (sr12.of_same s13).of_upd pls.symm plc
    rintro σ H6 ⟨kvs, xs, x6, x7, rfl, hD6, hpl6, hxl, hkl, hke, hL, hV, hE, hnl6, sr6⟩
    rw [nml_len] at hxl hkl hV
    rw [List.take_length] at hV
    have hz' : (ns.map tx).length ≤ 10 := by rw [List.length_map]; exact hz
    obtain ⟨_, hs6⟩ := sr6.at_
    refine ⟨_, rfl, s, c, rfl, sr6, fun z H7 hz7 kp7 sr7 => ?_⟩
    have hpl7 := kp7 _ _ hpl6 pls
    have hD7 := kp7 _ _ hD6 Ds
    have hnl7 := kp7 _ _ hnl6 nls
    have hL7 : EndsL H7 kvs pl := hL.mono (tup_kp kp7 hs6) fun b x y _ z => kp7 _ _ z (sr6.ne_len z (by show (2 : Nat) ≠ 3; decide))
    have hE7 : ∀ x ∈ xs, EOk C H7 (ns.map tx) 201 x := fun x hx => (hE x hx).kp kp7 hs6
    refine ⟨_, rfl, .inl ⟨rfl, _, sql_of hpl7⟩, _, rfl, fun x dx nx ndx _ => ⟨x, dx, z, rfl, upd_same, fun tt HA _ hxA htA kq => ⟨rfl, ?_⟩⟩⟩
    have sA := made_same nx ndx kq
    refine ⟨_, rfl, fun dd nd => ⟨(by show 3 ≤ sizeLine; decide), fun mm nm => ⟨(by show 2 ≤ sizeLine; decide), fun ee ne => ?_⟩⟩⟩
    have w1 := same_upd (o := .dK []) nd
    have w2 := same_upd (o := .tup [V.int z, V.ref dd, V.str "form"]) nm
    have w3 := same_upd (o := .tup [V.ref x, V.ref mm]) ne
    have sE := ((sA.trans w1).trans w2).trans w3
    have hEe : Ent C _ ee z [] "form" := ⟨.ref x, mm, upd_same, .form x _ [] ((show FormAt C HA x z [] from ⟨dx, tt, [], hxA, htA, .nil⟩).keep ((w1.trans w2).trans w3)), [], ⟨dd, _, w3 _ _ upd_same, rfl, rfl, fun s es => (by cases es; rfl), ⟨[], (w2.trans w3) _ _ upd_same, .nil⟩, List.nodup_nil, Nat.zero_le _⟩, srt_self (A := []) List.Pairwise.nil⟩
    generalize upd (upd (upd HA dd (.dK [])) mm (.tup [V.int z, V.ref dd, V.str "form"])) ee (.tup [V.ref x, V.ref mm]) = HE at sE hEe ⊢
    have hplE := sE _ _ hpl7
    refine ⟨pl, xs, _, rfl, rfl, hplE, small1000 (by omega), ?_⟩
    have kP : Kp pl HE (upd HE pl (.lst (xs ++ [V.ref ee]))) := Kp.upd
    have hL8 := (hL7.mono (H' := HE) (fun b xs z => sE _ _ z) fun b x y _ z => sE _ _ z).mono (H' := upd HE pl (.lst (xs ++ [V.ref ee]))) (tup_kp kP hplE) fun b x y nb z => kP _ _ z nb
    have hxs : ∀ x ∈ xs ++ [V.ref ee], EOk C (upd HE pl (.lst (xs ++ [V.ref ee]))) (ns.map tx) 201 x := fun x hx => by
      rcases List.mem_append.mp hx with w | w
      · exact ((hE7 x w).keep sE).kp kP hplE
      · rw [List.mem_singleton.mp w]
        exact ⟨ee, z, [], rfl, hEe.kp kP hplE, .nil, bd_nil (lt_pow hz7 (by decide)), fun w hw => by simp [nms] at hw⟩
    have sr8 : Src (upd HE pl (.lst (xs ++ [V.ref ee]))) s c := (sr7.of_same sE).of_upd pls.symm plc
    have hpl : (upd HE pl (.lst (xs ++ [V.ref ee]))) pl = some (.lst (xs ++ [V.ref ee])) := upd_same
    have hD8 := kP _ _ (sE _ _ hD7) Dpl
    have hnl8 := kP _ _ (sE _ _ hnl7) nlpl
    have hxl8 : (xs ++ [V.ref ee]).length = 2 * ns.length + 1 := by rw [List.length_append, hxl]; rfl
    generalize xs ++ [V.ref ee] = xs at hL8 hxs sr8 hpl hD8 hnl8 hxl8
    generalize upd HE pl (.lst xs) = H8 at hL8 hxs sr8 hpl hD8 hnl8
    obtain ⟨f, g, hEn⟩ := ends_of (NS := ns.map tx) hD8 hL8 fun w hw => by
      obtain ⟨ds, h1, rfl⟩ := List.mem_map.mp hw
      exact hV ds h1
    refine ⟨_, rfl, pl, rfl, ⟨_, sql_of hpl⟩, for_list (K := K) (a := pl) (xs := xs) (fun i σ H' => ∃ (x9 : Option V), σ = [some (.ref a), some (.ref s), some (.int m), some (.ref nl), some (.ref D), some (.ref pl), x6, x7, some (.int z), x9, none, none] ∧ Same H8 H') ⟨_, rfl, fun _ _ z => z⟩ (fun i σ H' _ ⟨_, _, z⟩ => sql_of (z _ _ hpl)) ?_ ?_⟩
    · rintro i y σ H' hi ⟨x9, rfl, s9⟩
      obtain ⟨e, n, ts, rfl, he, hg, hb, hin⟩ := (hxs y (List.mem_of_getElem? hi)).keep s9
      obtain ⟨p, m, y1, y2, y3⟩ := he.formE
      exact ⟨_, rfl, e, _, 0, _, rfl, rfl, sql_ofT y1, rfl, _, rfl, e, _, 1, _, rfl, rfl, sql_ofT y1, rfl, p, m, n, ts, rfl, y2, y3.any, hg.ok, fun H'' s'' => ⟨true, rfl, iteF' rfl ⟨_, rfl, s9.trans s''⟩⟩⟩
    rintro σ H9 ⟨x9, rfl, s9⟩
    have sr9 := sr8.of_same s9
    have hEn9 := hEn.keep s9
    refine ⟨_, rfl, s, c, 8, rfl, sr9, by decide, by decide, fun t H10 t0 t1 kp10 sr10 => ⟨_, _, rfl, rfl, fun q eq => ⟨q, rfl, by omega, by omega, for_range (lo := 0) (n := q.toNat) (fun i σ H' => ∃ (pl : Addr) (xs : List V) (x6 x7 x9 x10 x11 : Option V), σ = [some (.ref a), some (.ref s), some (.int m), some (.ref nl), some (.ref D), some (.ref pl), x6, x7, some (.int z), x9, x10, x11] ∧ H' pl = some (.lst xs) ∧ pl ≠ s ∧ 0 < xs.length ∧ xs.length ≤ 30 + i ∧ (∀ x ∈ xs, EOk C H' (ns.map tx) (201 + 200 * i) x) ∧ EndsD H' D (ns.map tx) f g ∧ H' nl = some (.lst (NmL ns)) ∧ Src H' s c)
      ⟨pl, xs, _, _, _, _, _, rfl, kp10 _ _ (s9 _ _ hpl) pls, pls, by omega, by omega, fun x hx => ((hxs x hx).keep s9).kp kp10 sr9.at_.choose_spec, hEn9.kp kp10 sr9, kp10 _ _ (s9 _ _ hnl8) nls, sr10⟩ ?_ ?_⟩⟩⟩
    · rintro i σ H11 hi ⟨pl, xs, x6, x7, x9, x10, x11, rfl, hpl, pls, hp, hxl, hE, hEn11, hnl11, sr11⟩
      have hi10 : i < 10 := by omega
      refine ⟨_, rfl, _, rfl, s, c, pl, xs, ns.map tx, 201 + 200 * i, rfl, sr11, pls, hpl, hp, by omega, hz', hE, by omega, by omega, fun l ys H12 kp12 sr12 hl hyl hys => ?_⟩
      refine ⟨_, rfl, _, rfl, iteF' rfl ?_⟩
      have hpl12 := kp12 _ _ hpl pls
      obtain ⟨_, hs11⟩ := sr11.at_
      refine ⟨_, rfl, _, rfl, pl, l, xs, ys, rfl, rfl, hpl12, hl, sz16 (by omega), fun p np => ?_⟩
      have sp := same_upd (o := .lst (xs ++ ys)) np
      obtain ⟨_, hs12⟩ := sr12.at_
      refine ⟨p, xs ++ ys, _, _, _, _, _, rfl, upd_same, (ne_of_none hs12 np).symm, by rw [List.length_append]; omega, by rw [List.length_append]; omega, fun x hx => ?_, (hEn11.kp kp12 sr11).keep sp, sp _ _ (kp12 _ _ hnl11 nls), sr12.of_same sp⟩
      rcases List.mem_append.mp hx with w | w
      · exact (((hE x w).kp kp12 hs11).mono (by omega)).keep sp
      · exact ((hys x w).mono (by omega)).keep sp
    rintro σ H11 ⟨pl, xs, x6, x7, x9, x10, x11, rfl, hpl11, pls, hp, hxl, hE, hEn11, hnl11, sr11⟩
    obtain ⟨_, hs11⟩ := sr11.at_
    have hB : 201 + 200 * q.toNat ≤ 3000 := by omega
    refine ⟨_, rfl, _, rfl, s, c, pl, xs, rfl, sr11, pls, hpl11, hp, by omega, fun x H12 hx kp12 sr12 => ?_⟩
    obtain ⟨e, n, ts, rfl, he, hg, hb, hin⟩ := (hE x hx).kp kp12 hs11
    have lts := hin.len hg hz'
    have hb3 := hb.mono hB
    have hEn12 := hEn11.kp kp12 sr11
    have hnl12 := kp12 _ _ hnl11 nls
    obtain ⟨_, hs12⟩ := sr12.at_
    refine ⟨_, rfl, _, rfl, _, rfl, _, rfl, s, c, nl, D, e, ns, f, g, n, ts, rfl, sr12, nls, hnl12, hz1, hz, hnm, hEn12, he, hg, lts, hb3, fun H13 kp13 sr13 => ⟨true, rfl, iteF' rfl ?_⟩⟩
    obtain ⟨_, hs13⟩ := sr13.at_
    have hEn13 := hEn12.kp kp13 sr12
    refine ⟨_, rfl, _, rfl, _, rfl, s, c, nl, D, ns, f, g, rfl, sr13, nls, kp13 _ _ hnl12 nls, hz, hnm, hEn13, fun H14 kp14 sr14 => ⟨true, rfl, iteF' rfl ?_⟩⟩
    have kp1214 := kp13.trans kp14
    have he14 := he.kp kp1214 hs12
    refine ⟨_, rfl, _, rfl, s, c, e, n, ts, rfl, sr14, he14, hg, lts, hb3, fun H15 kp15 sr15 => ⟨true, rfl, iteF' rfl ?_⟩⟩
    have kp1215 := kp1214.trans kp15
    refine ⟨_, rfl, _, rfl, _, rfl, _, rfl, s, c, nl, D, e, ns, f, g, n, ts, rfl, sr15, nls, kp1215 _ _ hnl12 nls, hz, hnm, hEn12.kp kp1215 sr12, he.kp kp1215 hs12, hg, hin, hb3, fun H16 kp16 sr16 => ⟨true, rfl, iteF' rfl ?_⟩⟩
    have kp1116 := (kp12.trans kp1215).trans kp16
    have hpl := kp1116 _ _ hpl11 pls
    have hxs : ∀ x ∈ xs, EOk C H16 (ns.map tx) (201 + 200 * q.toNat) x := fun x hx => (hE x hx).kp kp1116 hs11
    have hnl16 := kp1116 _ _ hnl11 nls
    refine ⟨_, rfl, pl, rfl, ⟨_, sql_of hpl⟩, for_list (K := K) (a := pl) (xs := xs) (fun i σ H' => ∃ (x9 : Option V), σ = [some (.ref a), some (.ref s), some (.int m), some (.ref nl), some (.ref D), some (.ref pl), x6, x7, some (.int z), x9, x10, x11] ∧ Same H16 H') ⟨_, rfl, fun _ _ z => z⟩ (fun i σ H' _ ⟨_, _, z⟩ => sql_of (z _ _ hpl)) ?_ ?_⟩
    · rintro i y σ H' hi ⟨x9, rfl, s9⟩
      obtain ⟨e, n, ts, rfl, he, hg, hb, hin⟩ := (hxs y (List.mem_of_getElem? hi)).keep s9
      obtain ⟨p, m, y1, y2, y3⟩ := he.formE
      exact ⟨_, rfl, e, _, 0, _, rfl, rfl, sql_ofT y1, rfl, _, rfl, e, _, 1, _, rfl, rfl, sql_ofT y1, rfl, p, m, n, ts, rfl, y2, y3.any, hg.ok, fun H'' s'' => ⟨true, rfl, iteF' rfl ⟨_, rfl, s9.trans s''⟩⟩⟩
    rintro σ H17 ⟨x9, rfl, s17⟩
    exact ⟨_, rfl, _, rfl, s, c, nl, ns, rfl, sr16.of_same s17, nls, s17 _ _ hnl16, hz, hnm, fun H18 _ _ => k H18⟩
end
end DO

namespace DO
open PySem PySem.Spec PyProof.Rows L2
section
variable {P : Program} {w : World} {K : PySem.W.Frag} {mg : Str → Option Value} {base : Heap}
/-! ### the end, for a law whose def asks for repr -/
/-- the law's run behind the top: no repr is under way there -/
theorem law_runG {mb : Str → Option Value} {k : Nat} {fa a : Addr} {fd : FuncData} {x : Str} {sp : Sp} {st : Shared} {vs : List Value} {ns : List Int}
    (inK : K.In st.heap) (gl : st.heap.Ns mainGlobals mg) (bl : st.heap.Ns builtinsNs mb) (boot : ∀ x : Str, x ≠ "__name__" → mb x = bootBuiltins x) (nolim : st.heap.NoLimit) (gens : st.gens = #[])
    (scr : st.heap.get? a = some { cls := .type "list", data := .seq vs.toArray }) (inz : IntsAre vs ns) (sz : ns.length ≤ sizeLine) (room : Room k callerA)
    (F : ∀ base : Heap, K.In base → base.Ns mainGlobals mg → FnG P w K mg base k fa fd [x] sp) (bnd : ∀ (s : Shared) (u : Value), BindsTo s fd ⟨[u], []⟩ [(x, u)])
    (sat : ∀ H : Hp, SqL K H a (ns.map V.int) → sp [.ref a] H (fun v _ => v = .bl true) E0) :
    codeAny (model P w) callerA (.call (.ref fa) ⟨[.ref a], []⟩) (fun r z => r = .ok (.ret (.bool true)) ∧ OldK st.heap z.heap ∧ z.os = st.os ∧ AllBare z.gens) st := by
  have rel := vals_ints inz
  have lv := inz.length
  -- what is tracked: the script alone, where it is no object of the text
  obtain ⟨H, hS, hok, only⟩ : ∃ H : Hp, SqL K H a (ns.map V.int) ∧ HOk P w H st.heap ∧ ∀ b u, H b = some u → b = a ∧ K.lookup a = none ∧ u = .frz { cls := .type "list", data := .seq vs.toArray } (.lst (ns.map V.int)) := by
    cases q : K.lookup a with
    | some ob =>
      have z := inK a ob q
      rw [scr] at z
      obtain rfl := Option.some.inj z
      have size : vs.toArray.size ≤ sizeLine := by rw [List.size_toArray, lv]; exact sz
      refine ⟨fun _ => none, .inr ⟨_, vs.toArray, _, q, rfl, rfl, rfl, size, by simpa using rel⟩, fun _ _ z => ?_, fun _ _ z => ?_⟩
      all_goals
        have z' : (none : Option HO) = some _ := z
        cases z'
    | none =>
      refine ⟨fun b => if b = a then some (.frz { cls := .type "list", data := .seq vs.toArray } (.lst (ns.map V.int))) else none, .inl (.inr ⟨_, if_pos rfl⟩), fun b u z => ?_, fun b u z => ?_⟩
      · dsimp only at z
        by_cases e : b = a
        · rw [if_pos e] at z
          obtain rfl := Option.some.inj z
          rw [e]
          exact ⟨scr, by rw [List.length_map]; exact sz, vs, _, rel, scr⟩
        · rw [if_neg e] at z
          cases z
      · dsimp only at z
        by_cases e : b = a
        · rw [if_pos e] at z
          exact ⟨e, rfl, (Option.some.inj z).symm⟩
        · rw [if_neg e] at z
          cases z
  have free : ∀ b ob, st.heap.get? b = some ob → (∀ ys n, ob.data ≠ .seq ys n) → H b = none := fun b ob z nd => by
    cases q : H b with
    | none => rfl
    | some u =>
      obtain ⟨rfl, _, _⟩ := only b u q
      rw [scr] at z
      obtain rfl := Option.some.inj z
      exact absurd rfl (nd _ _)
  have see : ∀ {b ob}, st.heap.get? b = some ob → H b = none → (hidT st.heap H).get? b = some ob := fun z q => hidT_get z q
  have names : ∀ {b : Addr} {m : Str → Option Value}, st.heap.Ns b m → (hidT st.heap H).Ns b m := fun {b m} z => by
    obtain ⟨ob, es, ep, z1, z2, z3⟩ := z
    refine ⟨ob, es, ep, see z1 (free b ob z1 fun ys n y => ?_), z2, z3⟩
    rw [z2] at y
    cases y
  have inB : K.In (hidT st.heap H) := fun b ob z => see (inK b ob z) (by
    cases q : H b with
    | none => rfl
    | some u =>
      obtain ⟨rfl, y, _⟩ := only b u q
      rw [z] at y
      cases y)
  obtain ⟨ml, l1, l2⟩ := nolim
  have md : Mod K mg (hidT st.heap H) := ⟨inB, names gl, ⟨mb, names bl, boot⟩, ml, names l1, l2⟩
  have env : Env0 P w K mg (hidT st.heap H) callerA [] st H := ⟨rfl, md, fun _ _ z => of_hidT z, Nat.le_of_eq (hidT_size _ _), trivial, fun b z => by simp [frs] at z, hok, .of_eq gens⟩
  have go := (F _ inB (names gl)).run callerA [] st H ⟨[.ref a], []⟩ [.ref a] [.ref a] (fun v _ => v = .bl true) E0 rfl room env (bnd st (.ref a)) (.cons rfl .nil) (sat H hS)
  refine codeAny_mono go ?_
  rintro (er | fl) z hz
  · exact False.elim hz
  cases fl
  case ret u =>
    obtain ⟨v, H2, os2, bare2, un2, ok2, rv, qv⟩ := hz
    have qv' : v = .bl true := qv
    rw [qv'] at rv
    have rv' : u = Value.bool true := rv
    refine ⟨by rw [rv'], OldK.of_keep fun b ob y => ?_, os2, bare2⟩
    cases q : H b with
    | none => exact un2.keep b ob y q (fun m => by simp [frs] at m) (by simp)
    | some t =>
      obtain ⟨rfl, _, rfl⟩ := only b t q
      have t2 := un2.frzs _ _ _ q
      obtain ⟨y2, _⟩ := ok2 _ _ t2
      rw [scr] at y
      obtain rfl := Option.some.inj y
      exact y2
  all_goals exact False.elim hz
theorem kit_self {C : Addr} : PySem.W.kitOne K (.ref C) (.ref C) = some true := by simp [PySem.W.kitOne]
/-- isinstance by an own class: what the written part tells of the two classes -/
theorem kit_cls {t : Value} {C : Addr} {b : Bool} (ne : (t == Value.ref C) = false) (h : PySem.W.isClsIn K C = true) (h2 : PySem.W.typeIn K (.ref C) = some (.type "type")) (h3 : PySem.W.subIn K t (.ref C) = some b) : PySem.W.kitOne K t (.ref C) = some b := by
  have h1 : (PySem.W.clsIn K C).isSome = true := h
  unfold PySem.W.kitOne PySem.W.kitCls
  rw [ne]
  show (if ((PySem.W.clsIn K C).isSome && PySem.W.typeIn K (.ref C) == some (.type "type")) = true then PySem.W.subIn K t (.ref C) else none) = some b
  rw [h1, h2]
  simpa using h3
theorem kit_typ {C : Addr} {T : String} {b : Bool} (hm : PySem.W.kitMeta T = true) (h3 : PySem.W.subIn K (.ref C) (.type T) = some b) : PySem.W.kitOne K (.ref C) (.type T) = some b := by
  have ne : (Value.ref C == Value.type T) = false := Bool.eq_false_iff.mpr fun q => by cases beq_iff_eq.mp q
  unfold PySem.W.kitOne PySem.W.kitCls
  rw [ne]
  show (if PySem.W.kitMeta T = true then PySem.W.subIn K (.ref C) (.type T) else none) = some b
  rw [if_pos hm]
  exact h3
theorem exm_sup {D C : Addr} (hb : PySem.W.subIn K (.ref C) (.type "BaseException") = some true) (h : PySem.W.isClsIn K C = true) (h2 : PySem.W.typeIn K (.ref C) = some (.type "type")) (h3 : PySem.W.subIn K (.ref D) (.ref C) = some true) : PySem.W.exmOne K (.ref D) (.ref C) = some true := by
  have h1 : (PySem.W.clsIn K C).isSome = true := h
  unfold PySem.W.exmOne PySem.W.kitCls
  rw [hb]
  show (if ((PySem.W.clsIn K C).isSome && PySem.W.typeIn K (.ref C) == some (.type "type")) = true then PySem.W.subIn K (.ref D) (.ref C) else none) = some true
  rw [h1, h2]
  simpa using h3
theorem azn_lit : azn = Str.ofString "abcdefghijklmnopqrstuvwxyz0123456789" := by decide +kernel
end
theorem walkG {l : PySem.W.OpenLaw} {q : Program} {loose : List Str} {XP : (Str → Option Value) → Heap → Prop} {YP : World → Heap → Prop} {d : DefRec} {K : Params → PySem.W.Frag} (most : l.most = some 63) (nodf : d.params.defaults = [])
    (inY : ∀ (w : World) (h : Heap), YP w h → (K w.params).In h)
    (F : ∀ (w : World) (mg : Str → Option Value) (fa : Addr) (h : Heap), (K w.params).In h → h.Ns mainGlobals mg → mg d.name = some (.ref fa) →
      ∃ fd : FuncData, (∀ (s : Shared) (u : Value), BindsTo s fd ⟨[u], []⟩ [("_law_script", u)]) ∧ ∀ base : Heap, (K w.params).In base → base.Ns mainGlobals mg → FnG l.prog w (K w.params) mg base 13 fa fd ["_law_script"] (spLaw (K w.params))) :
    PySem.W.WalkO q loose XP YP l.row.toRowW d [] (fun f vs => PySem.call f vs) := by
  refine Att.attach_call most nodf fun w s₀ st mg mb fa o pm cd doc a vs ns G Y ho hd hcd hmg scr inz hlen gens => ?_
  obtain ⟨fd, bnd, hF⟩ := F w mg fa _ (inY w _ Y) G.T.g hmg
  refine law_runG (inY w _ Y) G.T.g G.T.b G.T.builtins G.T.nolimit gens scr inz (Nat.le_trans hlen (by decide)) ⟨rfl, by decide, by decide⟩ hF bnd fun H hS => ?_
  exact ⟨a, ns, rfl, hS, hlen, fun _ => rfl⟩
end DO

namespace DO
open PySem PySem.Spec PyProof.Rows L2
set_option maxHeartbeats 0 in
theorem all_mk {l : PySem.W.OpenLaw} {w : World} {K : PySem.W.Frag} {h : Heap} {mg : Str → Option Value} {fa C C0 C1 C2 C3 C4 CO pPL pPM f12 f13 f16 f18 f19 f21 f22 f23 f24 f25 f26 f27 f28 f29 f30 f31 f32 f33 f34 f35 f36 f37 f38 f39 f40 f41 f42 f43 f44 f45 f46 f47 f48 f49 f50 f17 fmI fmA fmRA fmS fmRS fmM fmR fmN fmE fmL fmG fmV fPL fPM fx0 fx1 fx2 fx3 : Addr} {rePL rePM : List Value} {tFR tFS tLS tLN : Tok} {nm0 q0 N0 bs0 sn0 sub0 ab0 col0 dd0 m00 m10 m20 m30 m50 : _} {nm1 q1 N1 bs1 sn1 sub1 ab1 col1 dd1 m01 m11 m21 m31 m51 : _} {nm2 q2 N2 bs2 sn2 sub2 ab2 col2 dd2 m02 m12 m22 m32 m52 : _} {nm3 q3 N3 bs3 sn3 sub3 ab3 col3 dd3 m03 m13 m23 m33 m53 : _} (X : K.In h) (G : h.Ns mainGlobals mg) (hfa : mg "law" = some (.ref fa))
    {od12 an12 : Option Addr} {sl12 : Array (Option Value)} {oc12 kV12 dc12 pm12 cd12 ct12 : Value} {od13 an13 : Option Addr} {sl13 : Array (Option Value)} {oc13 kV13 dc13 pm13 cd13 ct13 : Value} {od16 an16 : Option Addr} {sl16 : Array (Option Value)} {oc16 kV16 dc16 pm16 cd16 ct16 : Value} {od18 an18 : Option Addr} {sl18 : Array (Option Value)} {oc18 kV18 dc18 pm18 cd18 ct18 : Value} {od19 an19 : Option Addr} {sl19 : Array (Option Value)} {oc19 kV19 dc19 pm19 cd19 ct19 : Value} {od21 an21 : Option Addr} {sl21 : Array (Option Value)} {oc21 kV21 dc21 pm21 cd21 ct21 : Value} {od22 an22 : Option Addr} {sl22 : Array (Option Value)} {oc22 kV22 dc22 pm22 cd22 ct22 : Value} {od23 an23 : Option Addr} {sl23 : Array (Option Value)} {oc23 kV23 dc23 pm23 cd23 ct23 : Value} {od24 an24 : Option Addr} {sl24 : Array (Option Value)} {oc24 kV24 dc24 pm24 cd24 ct24 : Value} {od25 an25 : Option Addr} {sl25 : Array (Option Value)} {oc25 kV25 dc25 pm25 cd25 ct25 : Value} {od26 an26 : Option Addr} {sl26 : Array (Option Value)} {oc26 kV26 dc26 pm26 cd26 ct26 : Value} {od27 an27 : Option Addr} {sl27 : Array (Option Value)} {oc27 kV27 dc27 pm27 cd27 ct27 : Value} {od28 an28 : Option Addr} {sl28 : Array (Option Value)} {oc28 kV28 dc28 pm28 cd28 ct28 : Value} {od29 an29 : Option Addr} {sl29 : Array (Option Value)} {oc29 kV29 dc29 pm29 cd29 ct29 : Value} {od30 an30 : Option Addr} {sl30 : Array (Option Value)} {oc30 kV30 dc30 pm30 cd30 ct30 : Value} {od31 an31 : Option Addr} {sl31 : Array (Option Value)} {oc31 kV31 dc31 pm31 cd31 ct31 : Value} {od32 an32 : Option Addr} {sl32 : Array (Option Value)} {oc32 kV32 dc32 pm32 cd32 ct32 : Value} {od33 an33 : Option Addr} {sl33 : Array (Option Value)} {oc33 kV33 dc33 pm33 cd33 ct33 : Value} {od34 an34 : Option Addr} {sl34 : Array (Option Value)} {oc34 kV34 dc34 pm34 cd34 ct34 : Value} {od35 an35 : Option Addr} {sl35 : Array (Option Value)} {oc35 kV35 dc35 pm35 cd35 ct35 : Value} {od36 an36 : Option Addr} {sl36 : Array (Option Value)} {oc36 kV36 dc36 pm36 cd36 ct36 : Value} {od37 an37 : Option Addr} {sl37 : Array (Option Value)} {oc37 kV37 dc37 pm37 cd37 ct37 : Value} {od38 an38 : Option Addr} {sl38 : Array (Option Value)} {oc38 kV38 dc38 pm38 cd38 ct38 : Value} {od39 an39 : Option Addr} {sl39 : Array (Option Value)} {oc39 kV39 dc39 pm39 cd39 ct39 : Value} {od40 an40 : Option Addr} {sl40 : Array (Option Value)} {oc40 kV40 dc40 pm40 cd40 ct40 : Value} {od41 an41 : Option Addr} {sl41 : Array (Option Value)} {oc41 kV41 dc41 pm41 cd41 ct41 : Value} {od42 an42 : Option Addr} {sl42 : Array (Option Value)} {oc42 kV42 dc42 pm42 cd42 ct42 : Value} {od43 an43 : Option Addr} {sl43 : Array (Option Value)} {oc43 kV43 dc43 pm43 cd43 ct43 : Value} {od44 an44 : Option Addr} {sl44 : Array (Option Value)} {oc44 kV44 dc44 pm44 cd44 ct44 : Value} {od45 an45 : Option Addr} {sl45 : Array (Option Value)} {oc45 kV45 dc45 pm45 cd45 ct45 : Value} {od46 an46 : Option Addr} {sl46 : Array (Option Value)} {oc46 kV46 dc46 pm46 cd46 ct46 : Value} {od47 an47 : Option Addr} {sl47 : Array (Option Value)} {oc47 kV47 dc47 pm47 cd47 ct47 : Value} {od48 an48 : Option Addr} {sl48 : Array (Option Value)} {oc48 kV48 dc48 pm48 cd48 ct48 : Value} {od49 an49 : Option Addr} {sl49 : Array (Option Value)} {oc49 kV49 dc49 pm49 cd49 ct49 : Value} {od50 an50 : Option Addr} {sl50 : Array (Option Value)} {oc50 kV50 dc50 pm50 cd50 ct50 : Value} {od17 an17 : Option Addr} {sl17 : Array (Option Value)} {oc17 kV17 dc17 pm17 cd17 ct17 : Value} {odmI anmI : Option Addr} {slmI : Array (Option Value)} {ocmI kVmI dcmI pmmI cdmI ctmI : Value} {odmA anmA : Option Addr} {slmA : Array (Option Value)} {ocmA kVmA dcmA pmmA cdmA ctmA : Value} {odmRA anmRA : Option Addr} {slmRA : Array (Option Value)} {ocmRA kVmRA dcmRA pmmRA cdmRA ctmRA : Value} {odmS anmS : Option Addr} {slmS : Array (Option Value)} {ocmS kVmS dcmS pmmS cdmS ctmS : Value} {odmRS anmRS : Option Addr} {slmRS : Array (Option Value)} {ocmRS kVmRS dcmRS pmmRS cdmRS ctmRS : Value} {odmM anmM : Option Addr} {slmM : Array (Option Value)} {ocmM kVmM dcmM pmmM cdmM ctmM : Value} {odmR anmR : Option Addr} {slmR : Array (Option Value)} {ocmR kVmR dcmR pmmR cdmR ctmR : Value} {odmN anmN : Option Addr} {slmN : Array (Option Value)} {ocmN kVmN dcmN pmmN cdmN ctmN : Value} {odmE anmE : Option Addr} {slmE : Array (Option Value)} {ocmE kVmE dcmE pmmE cdmE ctmE : Value} {odmL anmL : Option Addr} {slmL : Array (Option Value)} {ocmL kVmL dcmL pmmL cdmL ctmL : Value} {odmG anmG : Option Addr} {slmG : Array (Option Value)} {ocmG kVmG dcmG pmmG cdmG ctmG : Value} {odmV anmV : Option Addr} {slmV : Array (Option Value)} {ocmV kVmV dcmV pmmV cdmV ctmV : Value} {odPL anPL : Option Addr} {slPL : Array (Option Value)} {ocPL kVPL dcPL pmPL cdPL ctPL : Value} {odPM anPM : Option Addr} {slPM : Array (Option Value)} {ocPM kVPM dcPM pmPM cdPM ctPM : Value} {odx0 anx0 : Option Addr} {slx0 : Array (Option Value)} {ocx0 kVx0 dcx0 pmx0 cdx0 ctx0 : Value} {odx1 anx1 : Option Addr} {slx1 : Array (Option Value)} {ocx1 kVx1 dcx1 pmx1 cdx1 ctx1 : Value} {odx2 anx2 : Option Addr} {slx2 : Array (Option Value)} {ocx2 kVx2 dcx2 pmx2 cdx2 ctx2 : Value} {odx3 anx3 : Option Addr} {slx3 : Array (Option Value)} {ocx3 kVx3 dcx3 pmx3 cdx3 ctx3 : Value}
    (a12 : PySem.W.nsIn K mainGlobals "is_name" = some (some (.ref f12))) (l12 : K.lookup f12 = some ⟨oc12, od12, .func (PySem.W.fnOf "is_name" "is_name" (defArgs sIsNm) (defBody sIsNm) (defScope sIsNm) .none kV12 dc12 pm12 an12 cd12 ct12), sl12⟩) (c12 : PySem.W.codeIn K cd12 "is_name" = true) (k12 : PySem.W.keepIn K (.ref f12) = true)
    (a13 : PySem.W.nsIn K mainGlobals "check_name" = some (some (.ref f13))) (l13 : K.lookup f13 = some ⟨oc13, od13, .func (PySem.W.fnOf "check_name" "check_name" (defArgs sChn) (defBody sChn) (defScope sChn) .none kV13 dc13 pm13 an13 cd13 ct13), sl13⟩) (c13 : PySem.W.codeIn K cd13 "check_name" = true) (k13 : PySem.W.keepIn K (.ref f13) = true)
    (a16 : PySem.W.nsIn K mainGlobals "form_of" = some (some (.ref f16))) (l16 : K.lookup f16 = some ⟨oc16, od16, .func (PySem.W.fnOf "form_of" "form_of" (defArgs sFof) (defBody sFof) (defScope sFof) .none kV16 dc16 pm16 an16 cd16 ct16), sl16⟩) (c16 : PySem.W.codeIn K cd16 "form_of" = true) (k16 : PySem.W.keepIn K (.ref f16) = true)
    (a18 : PySem.W.nsIn K mainGlobals "_check_ends" = some (some (.ref f18))) (l18 : K.lookup f18 = some ⟨oc18, od18, .func (PySem.W.fnOf "_check_ends" "_check_ends" (defArgs sChk) (defBody sChk) (defScope sChk) .none kV18 dc18 pm18 an18 cd18 ct18), sl18⟩) (c18 : PySem.W.codeIn K cd18 "_check_ends" = true) (k18 : PySem.W.keepIn K (.ref f18) = true)
    (a19 : PySem.W.nsIn K mainGlobals "_added" = some (some (.ref f19))) (l19 : K.lookup f19 = some ⟨oc19, od19, .func (PySem.W.fnOf "_added" "_added" (defArgs sAdded) (defBody sAdded) (defScope sAdded) .none kV19 dc19 pm19 an19 cd19 ct19), sl19⟩) (c19 : PySem.W.codeIn K cd19 "_added" = true) (k19 : PySem.W.keepIn K (.ref f19) = true)
    (a21 : PySem.W.nsIn K mainGlobals "_law_mixed" = some (some (.ref f21))) (l21 : K.lookup f21 = some ⟨oc21, od21, .func (PySem.W.fnOf "_law_mixed" "_law_mixed" (defArgs sMixed) (defBody sMixed) (defScope sMixed) .none kV21 dc21 pm21 an21 cd21 ct21), sl21⟩) (c21 : PySem.W.codeIn K cd21 "_law_mixed" = true) (k21 : PySem.W.keepIn K (.ref f21) = true)
    (a22 : PySem.W.nsIn K mainGlobals "_law_source" = some (some (.ref f22))) (l22 : K.lookup f22 = some ⟨oc22, od22, .func (PySem.W.fnOf "_law_source" "_law_source" (defArgs sSource) (defBody sSource) (defScope sSource) .none kV22 dc22 pm22 an22 cd22 ct22), sl22⟩) (c22 : PySem.W.codeIn K cd22 "_law_source" = true) (k22 : PySem.W.keepIn K (.ref f22) = true)
    (a23 : PySem.W.nsIn K mainGlobals "_law_take" = some (some (.ref f23))) (l23 : K.lookup f23 = some ⟨oc23, od23, .func (PySem.W.fnOf "_law_take" "_law_take" (defArgs sTake) (defBody sTake) (defScope sTake) .none kV23 dc23 pm23 an23 cd23 ct23), sl23⟩) (c23 : PySem.W.codeIn K cd23 "_law_take" = true) (k23 : PySem.W.keepIn K (.ref f23) = true)
    (a24 : PySem.W.nsIn K mainGlobals "_law_word" = some (some (.ref f24))) (l24 : K.lookup f24 = some ⟨oc24, od24, .func (PySem.W.fnOf "_law_word" "_law_word" (defArgs sWord) (defBody sWord) (defScope sWord) .none kV24 dc24 pm24 an24 cd24 ct24), sl24⟩) (c24 : PySem.W.codeIn K cd24 "_law_word" = true) (k24 : PySem.W.keepIn K (.ref f24) = true)
    (a25 : PySem.W.nsIn K mainGlobals "_law_names" = some (some (.ref f25))) (l25 : K.lookup f25 = some ⟨oc25, od25, .func (PySem.W.fnOf "_law_names" "_law_names" (defArgs sNames) (defBody sNames) (defScope sNames) .none kV25 dc25 pm25 an25 cd25 ct25), sl25⟩) (c25 : PySem.W.codeIn K cd25 "_law_names" = true) (k25 : PySem.W.keepIn K (.ref f25) = true)
    (a26 : PySem.W.nsIn K mainGlobals "_law_number" = some (some (.ref f26))) (l26 : K.lookup f26 = some ⟨oc26, od26, .func (PySem.W.fnOf "_law_number" "_law_number" (defArgs sNumber) (defBody sNumber) (defScope sNumber) .none kV26 dc26 pm26 an26 cd26 ct26), sl26⟩) (c26 : PySem.W.codeIn K cd26 "_law_number" = true) (k26 : PySem.W.keepIn K (.ref f26) = true)
    (a27 : PySem.W.nsIn K mainGlobals "_law_ends" = some (some (.ref f27))) (l27 : K.lookup f27 = some ⟨oc27, od27, .func (PySem.W.fnOf "_law_ends" "_law_ends" (defArgs sEnds) (defBody sEnds) (defScope sEnds) .none kV27 dc27 pm27 an27 cd27 ct27), sl27⟩) (c27 : PySem.W.codeIn K cd27 "_law_ends" = true) (k27 : PySem.W.keepIn K (.ref f27) = true)
    (a28 : PySem.W.nsIn K mainGlobals "_law_other_ends" = some (some (.ref f28))) (l28 : K.lookup f28 = some ⟨oc28, od28, .func (PySem.W.fnOf "_law_other_ends" "_law_other_ends" (defArgs sOther) (defBody sOther) (defScope sOther) .none kV28 dc28 pm28 an28 cd28 ct28), sl28⟩) (c28 : PySem.W.codeIn K cd28 "_law_other_ends" = true) (k28 : PySem.W.keepIn K (.ref f28) = true)
    (a29 : PySem.W.nsIn K mainGlobals "_law_is_number" = some (some (.ref f29))) (l29 : K.lookup f29 = some ⟨oc29, od29, .func (PySem.W.fnOf "_law_is_number" "_law_is_number" (defArgs sIsN) (defBody sIsN) (defScope sIsN) .none kV29 dc29 pm29 an29 cd29 ct29), sl29⟩) (c29 : PySem.W.codeIn K cd29 "_law_is_number" = true) (k29 : PySem.W.keepIn K (.ref f29) = true)
    (a30 : PySem.W.nsIn K mainGlobals "_law_terms" = some (some (.ref f30))) (l30 : K.lookup f30 = some ⟨oc30, od30, .func (PySem.W.fnOf "_law_terms" "_law_terms" (defArgs sTerms) (defBody sTerms) (defScope sTerms) .none kV30 dc30 pm30 an30 cd30 ct30), sl30⟩) (c30 : PySem.W.codeIn K cd30 "_law_terms" = true) (k30 : PySem.W.keepIn K (.ref f30) = true)
    (a31 : PySem.W.nsIn K mainGlobals "_law_is_form" = some (some (.ref f31))) (l31 : K.lookup f31 = some ⟨oc31, od31, .func (PySem.W.fnOf "_law_is_form" "_law_is_form" (defArgs sIsF) (defBody sIsF) (defScope sIsF) .none kV31 dc31 pm31 an31 cd31 ct31), sl31⟩) (c31 : PySem.W.codeIn K cd31 "_law_is_form" = true) (k31 : PySem.W.keepIn K (.ref f31) = true)
    (a32 : PySem.W.nsIn K mainGlobals "_law_sum" = some (some (.ref f32))) (l32 : K.lookup f32 = some ⟨oc32, od32, .func (PySem.W.fnOf "_law_sum" "_law_sum" (defArgs sSum) (defBody sSum) (defScope sSum) .none kV32 dc32 pm32 an32 cd32 ct32), sl32⟩) (c32 : PySem.W.codeIn K cd32 "_law_sum" = true) (k32 : PySem.W.keepIn K (.ref f32) = true)
    (a33 : PySem.W.nsIn K mainGlobals "_law_scaled" = some (some (.ref f33))) (l33 : K.lookup f33 = some ⟨oc33, od33, .func (PySem.W.fnOf "_law_scaled" "_law_scaled" (defArgs sSca) (defBody sSca) (defScope sSca) .none kV33 dc33 pm33 an33 cd33 ct33), sl33⟩) (c33 : PySem.W.codeIn K cd33 "_law_scaled" = true) (k33 : PySem.W.keepIn K (.ref f33) = true)
    (a34 : PySem.W.nsIn K mainGlobals "_law_far" = some (some (.ref f34))) (l34 : K.lookup f34 = some ⟨oc34, od34, .func (PySem.W.fnOf "_law_far" "_law_far" (defArgs sFar) (defBody sFar) (defScope sFar) .none kV34 dc34 pm34 an34 cd34 ct34), sl34⟩) (c34 : PySem.W.codeIn K cd34 "_law_far" = true) (k34 : PySem.W.keepIn K (.ref f34) = true)
    (a35 : PySem.W.nsIn K mainGlobals "_law_raised" = some (some (.ref f35))) (l35 : K.lookup f35 = some ⟨oc35, od35, .func (PySem.W.fnOf "_law_raised" "_law_raised" (defArgs sRai) (defBody sRai) (defScope sRai) .none kV35 dc35 pm35 an35 cd35 ct35), sl35⟩) (c35 : PySem.W.codeIn K cd35 "_law_raised" = true) (k35 : PySem.W.keepIn K (.ref f35) = true)
    (a36 : PySem.W.nsIn K mainGlobals "_law_tried" = some (some (.ref f36))) (l36 : K.lookup f36 = some ⟨oc36, od36, .func (PySem.W.fnOf "_law_tried" "_law_tried" (defArgs sTri) (defBody sTri) (defScope sTri) .none kV36 dc36 pm36 an36 cd36 ct36), sl36⟩) (c36 : PySem.W.codeIn K cd36 "_law_tried" = true) (k36 : PySem.W.keepIn K (.ref f36) = true)
    (a37 : PySem.W.nsIn K mainGlobals "_law_due" = some (some (.ref f37))) (l37 : K.lookup f37 = some ⟨oc37, od37, .func (PySem.W.fnOf "_law_due" "_law_due" (defArgs sDue) (defBody sDue) (defScope sDue) .none kV37 dc37 pm37 an37 cd37 ct37), sl37⟩) (c37 : PySem.W.codeIn K cd37 "_law_due" = true) (k37 : PySem.W.keepIn K (.ref f37) = true)
    (a38 : PySem.W.nsIn K mainGlobals "_law_meets" = some (some (.ref f38))) (l38 : K.lookup f38 = some ⟨oc38, od38, .func (PySem.W.fnOf "_law_meets" "_law_meets" (defArgs sMts) (defBody sMts) (defScope sMts) .none kV38 dc38 pm38 an38 cd38 ct38), sl38⟩) (c38 : PySem.W.codeIn K cd38 "_law_meets" = true) (k38 : PySem.W.keepIn K (.ref f38) = true)
    (a39 : PySem.W.nsIn K mainGlobals "_law_asked" = some (some (.ref f39))) (l39 : K.lookup f39 = some ⟨oc39, od39, .func (PySem.W.fnOf "_law_asked" "_law_asked" (defArgs sAsk) (defBody sAsk) (defScope sAsk) .none kV39 dc39 pm39 an39 cd39 ct39), sl39⟩) (c39 : PySem.W.codeIn K cd39 "_law_asked" = true) (k39 : PySem.W.keepIn K (.ref f39) = true)
    (a40 : PySem.W.nsIn K mainGlobals "_law_plain" = some (some (.ref f40))) (l40 : K.lookup f40 = some ⟨oc40, od40, .func (PySem.W.fnOf "_law_plain" "_law_plain" (defArgs sPla) (defBody sPla) (defScope sPla) .none kV40 dc40 pm40 an40 cd40 ct40), sl40⟩) (c40 : PySem.W.codeIn K cd40 "_law_plain" = true) (k40 : PySem.W.keepIn K (.ref f40) = true)
    (a41 : PySem.W.nsIn K mainGlobals "_law_pick" = some (some (.ref f41))) (l41 : K.lookup f41 = some ⟨oc41, od41, .func (PySem.W.fnOf "_law_pick" "_law_pick" (defArgs sPic) (defBody sPic) (defScope sPic) .none kV41 dc41 pm41 an41 cd41 ct41), sl41⟩) (c41 : PySem.W.codeIn K cd41 "_law_pick" = true) (k41 : PySem.W.keepIn K (.ref f41) = true)
    (a42 : PySem.W.nsIn K mainGlobals "_law_operation" = some (some (.ref f42))) (l42 : K.lookup f42 = some ⟨oc42, od42, .func (PySem.W.fnOf "_law_operation" "_law_operation" (defArgs sOpe) (defBody sOpe) (defScope sOpe) .none kV42 dc42 pm42 an42 cd42 ct42), sl42⟩) (c42 : PySem.W.codeIn K cd42 "_law_operation" = true) (k42 : PySem.W.keepIn K (.ref f42) = true)
    (a43 : PySem.W.nsIn K mainGlobals "_law_one" = some (some (.ref f43))) (l43 : K.lookup f43 = some ⟨oc43, od43, .func (PySem.W.fnOf "_law_one" "_law_one" (defArgs sOne) (defBody sOne) (defScope sOne) .none kV43 dc43 pm43 an43 cd43 ct43), sl43⟩) (c43 : PySem.W.codeIn K cd43 "_law_one" = true) (k43 : PySem.W.keepIn K (.ref f43) = true)
    (a44 : PySem.W.nsIn K mainGlobals "_law_all_signs" = some (some (.ref f44))) (l44 : K.lookup f44 = some ⟨oc44, od44, .func (PySem.W.fnOf "_law_all_signs" "_law_all_signs" (defArgs sAll) (defBody sAll) (defScope sAll) .none kV44 dc44 pm44 an44 cd44 ct44), sl44⟩) (c44 : PySem.W.codeIn K cd44 "_law_all_signs" = true) (k44 : PySem.W.keepIn K (.ref f44) = true)
    (a45 : PySem.W.nsIn K mainGlobals "_law_near" = some (some (.ref f45))) (l45 : K.lookup f45 = some ⟨oc45, od45, .func (PySem.W.fnOf "_law_near" "_law_near" (defArgs sNea) (defBody sNea) (defScope sNea) .none kV45 dc45 pm45 an45 cd45 ct45), sl45⟩) (c45 : PySem.W.codeIn K cd45 "_law_near" = true) (k45 : PySem.W.keepIn K (.ref f45) = true)
    (a46 : PySem.W.nsIn K mainGlobals "_law_unlike" = some (some (.ref f46))) (l46 : K.lookup f46 = some ⟨oc46, od46, .func (PySem.W.fnOf "_law_unlike" "_law_unlike" (defArgs sUnl) (defBody sUnl) (defScope sUnl) .none kV46 dc46 pm46 an46 cd46 ct46), sl46⟩) (c46 : PySem.W.codeIn K cd46 "_law_unlike" = true) (k46 : PySem.W.keepIn K (.ref f46) = true)
    (a47 : PySem.W.nsIn K mainGlobals "_law_bounds" = some (some (.ref f47))) (l47 : K.lookup f47 = some ⟨oc47, od47, .func (PySem.W.fnOf "_law_bounds" "_law_bounds" (defArgs sBou) (defBody sBou) (defScope sBou) .none kV47 dc47 pm47 an47 cd47 ct47), sl47⟩) (c47 : PySem.W.codeIn K cd47 "_law_bounds" = true) (k47 : PySem.W.keepIn K (.ref f47) = true)
    (a48 : PySem.W.nsIn K mainGlobals "_law_values" = some (some (.ref f48))) (l48 : K.lookup f48 = some ⟨oc48, od48, .func (PySem.W.fnOf "_law_values" "_law_values" (defArgs sVls) (defBody sVls) (defScope sVls) .none kV48 dc48 pm48 an48 cd48 ct48), sl48⟩) (c48 : PySem.W.codeIn K cd48 "_law_values" = true) (k48 : PySem.W.keepIn K (.ref f48) = true)
    (a49 : PySem.W.nsIn K mainGlobals "_law_measured" = some (some (.ref f49))) (l49 : K.lookup f49 = some ⟨oc49, od49, .func (PySem.W.fnOf "_law_measured" "_law_measured" (defArgs sMsd) (defBody sMsd) (defScope sMsd) .none kV49 dc49 pm49 an49 cd49 ct49), sl49⟩) (c49 : PySem.W.codeIn K cd49 "_law_measured" = true) (k49 : PySem.W.keepIn K (.ref f49) = true)
    (a50 : PySem.W.nsIn K mainGlobals "law" = some (some (.ref f50))) (l50 : K.lookup f50 = some ⟨oc50, od50, .func (PySem.W.fnOf "law" "law" (defArgs sLaw) (defBody sLaw) (defScope sLaw) .none kV50 dc50 pm50 an50 cd50 ct50), sl50⟩) (c50 : PySem.W.codeIn K cd50 "law" = true) (k50 : PySem.W.keepIn K (.ref f50) = true)
    (a17 : PySem.W.nsIn K mainGlobals "measured" = some (some (.ref f17))) (l17 : K.lookup f17 = some ⟨oc17, od17, .func (PySem.W.fnOf "measured" "measured" (defArgs sMea) (defBody sMea) (defScope sMea) .none kV17 dc17 pm17 an17 cd17 ct17), sl17⟩) (c17 : PySem.W.codeIn K cd17 "measured" = true) (k17 : PySem.W.keepIn K (.ref f17) = true)
    (amI : PySem.W.findIn K (.ref C) "__init__" = some (some (.ref fmI))) (imI : PySem.W.isFn K (.ref fmI) = true) (lmI : K.lookup fmI = some ⟨ocmI, odmI, .func (PySem.W.fnOf "__init__" "Form.__init__" (defArgs sIni) (defBody sIni) (defScope sIni) .none kVmI dcmI pmmI anmI cdmI ctmI), slmI⟩) (cmI : PySem.W.codeIn K cdmI "Form.__init__" = true) (kmI : PySem.W.keepIn K (.ref fmI) = true)
    (amA : PySem.W.findIn K (.ref C) "__add__" = some (some (.ref fmA))) (imA : PySem.W.isFn K (.ref fmA) = true) (lmA : K.lookup fmA = some ⟨ocmA, odmA, .func (PySem.W.fnOf "__add__" "Form.__add__" (defArgs sAdd) (defBody sAdd) (defScope sAdd) .none kVmA dcmA pmmA anmA cdmA ctmA), slmA⟩) (cmA : PySem.W.codeIn K cdmA "Form.__add__" = true) (kmA : PySem.W.keepIn K (.ref fmA) = true)
    (amRA : PySem.W.findIn K (.ref C) "__radd__" = some (some (.ref fmRA))) (imRA : PySem.W.isFn K (.ref fmRA) = true) (lmRA : K.lookup fmRA = some ⟨ocmRA, odmRA, .func (PySem.W.fnOf "__radd__" "Form.__radd__" (defArgs sRadd) (defBody sRadd) (defScope sRadd) .none kVmRA dcmRA pmmRA anmRA cdmRA ctmRA), slmRA⟩) (cmRA : PySem.W.codeIn K cdmRA "Form.__radd__" = true) (kmRA : PySem.W.keepIn K (.ref fmRA) = true)
    (amS : PySem.W.findIn K (.ref C) "__sub__" = some (some (.ref fmS))) (imS : PySem.W.isFn K (.ref fmS) = true) (lmS : K.lookup fmS = some ⟨ocmS, odmS, .func (PySem.W.fnOf "__sub__" "Form.__sub__" (defArgs sSub) (defBody sSub) (defScope sSub) .none kVmS dcmS pmmS anmS cdmS ctmS), slmS⟩) (cmS : PySem.W.codeIn K cdmS "Form.__sub__" = true) (kmS : PySem.W.keepIn K (.ref fmS) = true)
    (amRS : PySem.W.findIn K (.ref C) "__rsub__" = some (some (.ref fmRS))) (imRS : PySem.W.isFn K (.ref fmRS) = true) (lmRS : K.lookup fmRS = some ⟨ocmRS, odmRS, .func (PySem.W.fnOf "__rsub__" "Form.__rsub__" (defArgs sRsub) (defBody sRsub) (defScope sRsub) .none kVmRS dcmRS pmmRS anmRS cdmRS ctmRS), slmRS⟩) (cmRS : PySem.W.codeIn K cdmRS "Form.__rsub__" = true) (kmRS : PySem.W.keepIn K (.ref fmRS) = true)
    (amM : PySem.W.findIn K (.ref C) "__mul__" = some (some (.ref fmM))) (imM : PySem.W.isFn K (.ref fmM) = true) (lmM : K.lookup fmM = some ⟨ocmM, odmM, .func (PySem.W.fnOf "__mul__" "Form.__mul__" (defArgs sMul) (defBody sMul) (defScope sMul) .none kVmM dcmM pmmM anmM cdmM ctmM), slmM⟩) (cmM : PySem.W.codeIn K cdmM "Form.__mul__" = true) (kmM : PySem.W.keepIn K (.ref fmM) = true)
    (amR : PySem.W.findIn K (.ref C) "__rmul__" = some (some (.ref fmR))) (imR : PySem.W.isFn K (.ref fmR) = true) (lmR : K.lookup fmR = some ⟨ocmR, odmR, .func (PySem.W.fnOf "__rmul__" "Form.__rmul__" (defArgs sRmu) (defBody sRmu) (defScope sRmu) .none kVmR dcmR pmmR anmR cdmR ctmR), slmR⟩) (cmR : PySem.W.codeIn K cdmR "Form.__rmul__" = true) (kmR : PySem.W.keepIn K (.ref fmR) = true)
    (amN : PySem.W.findIn K (.ref C) "__neg__" = some (some (.ref fmN))) (imN : PySem.W.isFn K (.ref fmN) = true) (lmN : K.lookup fmN = some ⟨ocmN, odmN, .func (PySem.W.fnOf "__neg__" "Form.__neg__" (defArgs sNeg) (defBody sNeg) (defScope sNeg) .none kVmN dcmN pmmN anmN cdmN ctmN), slmN⟩) (cmN : PySem.W.codeIn K cdmN "Form.__neg__" = true) (kmN : PySem.W.keepIn K (.ref fmN) = true)
    (amE : PySem.W.findIn K (.ref C) "__eq__" = some (some (.ref fmE))) (imE : PySem.W.isFn K (.ref fmE) = true) (lmE : K.lookup fmE = some ⟨ocmE, odmE, .func (PySem.W.fnOf "__eq__" "Form.__eq__" (defArgs sEq) (defBody sEq) (defScope sEq) .none kVmE dcmE pmmE anmE cdmE ctmE), slmE⟩) (cmE : PySem.W.codeIn K cdmE "Form.__eq__" = true) (kmE : PySem.W.keepIn K (.ref fmE) = true)
    (amL : PySem.W.findIn K (.ref C) "__le__" = some (some (.ref fmL))) (imL : PySem.W.isFn K (.ref fmL) = true) (lmL : K.lookup fmL = some ⟨ocmL, odmL, .func (PySem.W.fnOf "__le__" "Form.__le__" (defArgs sLe) (defBody sLe) (defScope sLe) .none kVmL dcmL pmmL anmL cdmL ctmL), slmL⟩) (cmL : PySem.W.codeIn K cdmL "Form.__le__" = true) (kmL : PySem.W.keepIn K (.ref fmL) = true)
    (amG : PySem.W.findIn K (.ref C) "__ge__" = some (some (.ref fmG))) (imG : PySem.W.isFn K (.ref fmG) = true) (lmG : K.lookup fmG = some ⟨ocmG, odmG, .func (PySem.W.fnOf "__ge__" "Form.__ge__" (defArgs sGe) (defBody sGe) (defScope sGe) .none kVmG dcmG pmmG anmG cdmG ctmG), slmG⟩) (cmG : PySem.W.codeIn K cdmG "Form.__ge__" = true) (kmG : PySem.W.keepIn K (.ref fmG) = true)
    (amV : PySem.W.findIn K (.ref C) "value" = some (some (.ref fmV))) (imV : PySem.W.isFn K (.ref fmV) = true) (lmV : K.lookup fmV = some ⟨ocmV, odmV, .func (PySem.W.fnOf "value" "Form.value" (defArgs sVal) (defBody sVal) (defScope sVal) .none kVmV dcmV pmmV anmV cdmV ctmV), slmV⟩) (cmV : PySem.W.codeIn K cdmV "Form.value" = true) (kmV : PySem.W.keepIn K (.ref fmV) = true)
    (aPL : PySem.W.findIn K (.ref C) "least" = some (some (.ref pPL))) (gPL : PySem.W.specialIn K (.ref pPL) "__get__" = some (some (.builtin "property.__get__"))) (tPL : PySem.W.takesIn K (.ref pPL) = some true) (rPL : PySem.W.recIn K pPL "property" = some (.ref fPL :: rePL)) (lPL : K.lookup fPL = some ⟨ocPL, odPL, .func (PySem.W.fnOf "least" "Form.least" (defArgs sLeast) (defBody sLeast) (defScope sLeast) .none kVPL dcPL pmPL anPL cdPL ctPL), slPL⟩) (cPL : PySem.W.codeIn K cdPL "Form.least" = true) (kPL : PySem.W.keepIn K (.ref fPL) = true)
    (aPM : PySem.W.findIn K (.ref C) "most" = some (some (.ref pPM))) (gPM : PySem.W.specialIn K (.ref pPM) "__get__" = some (some (.builtin "property.__get__"))) (tPM : PySem.W.takesIn K (.ref pPM) = some true) (rPM : PySem.W.recIn K pPM "property" = some (.ref fPM :: rePM)) (lPM : K.lookup fPM = some ⟨ocPM, odPM, .func (PySem.W.fnOf "most" "Form.most" (defArgs sMost) (defBody sMost) (defScope sMost) .none kVPM dcPM pmPM anPM cdPM ctPM), slPM⟩) (cPM : PySem.W.codeIn K cdPM "Form.most" = true) (kPM : PySem.W.keepIn K (.ref fPM) = true)
    (aC : PySem.W.nsIn K mainGlobals "Form" = some (some (.ref C)))
    (pg : PySem.W.plainGet K C Str.empty = true)
    (hd : PySem.W.hasDictIn K C = true)
    (po : PySem.W.plainOver K C = true)
    (sa : PySem.W.findIn K (.ref C) "__setattr__" = some (some (.builtin "object.__setattr__")))
    (mk : PySem.W.makesIn K C = true)
    (kc : PySem.W.keepIn K (.ref C) = true)
    (nC : PySem.W.findIn K (.ref C) "constant" = some none)
    (nT : PySem.W.findIn K (.ref C) "terms" = some none)
    (sf : PySem.W.selfFirst K C = true)
    (ha : PySem.W.findIn K (.ref C) "__class__" = some (some (.builtin "object.__class__")))
    (hn : PySem.W.specialIn K (.builtin "object.__class__") "__get__" = some (some (.builtin "getset_descriptor.__get__")))
    (ht : PySem.W.takesIn K (.builtin "object.__class__") = some true)
    (hm : PySem.W.mroIn K C (.type "object") = some true)
    (ic : PySem.W.isClsIn K C = true)
    (ty : PySem.W.typeIn K (.ref C) = some (.type "type"))
    (nF : PySem.W.notFirst K C (.type "int") = true)
    (sJ : PySem.W.subIn K (.ref C) (.type "int") = some false)
    (sI : PySem.W.subIn K (.type "int") (.ref C) = some false)
    (im : PySem.W.findIn K (.type "int") "__mul__" = some (some (.builtin "int.__mul__")))
    (ir : PySem.W.findIn K (.type "int") "__rmul__" = some (some (.builtin "int.__rmul__")))
    (ia : PySem.W.findIn K (.type "int") "__add__" = some (some (.builtin "int.__add__")))
    (ira : PySem.W.findIn K (.type "int") "__radd__" = some (some (.builtin "int.__radd__")))
    (is_ : PySem.W.findIn K (.type "int") "__sub__" = some (some (.builtin "int.__sub__")))
    (irs : PySem.W.findIn K (.type "int") "__rsub__" = some (some (.builtin "int.__rsub__")))
    (vFR : PySem.W.nsIn K mainGlobals "FRAME" = some (some (.str (Str.ofString "frame") tFR)))
    (vFS : PySem.W.nsIn K mainGlobals "FIRST_SIGNS" = some (some (.str (Str.ofString "abcdefghijklmnopqrstuvwxyz") tFS)))
    (vLS : PySem.W.nsIn K mainGlobals "LATER_SIGNS" = some (some (.str (Str.ofString "abcdefghijklmnopqrstuvwxyz0123456789") tLS)))
    (vLN : PySem.W.nsIn K mainGlobals "LONGEST_NAME" = some (some (.int 12 tLN)))
    (zint : PySem.W.nsIn K mainGlobals "int" = some none)
    (zabs : PySem.W.nsIn K mainGlobals "abs" = some none)
    (zlen : PySem.W.nsIn K mainGlobals "len" = some none)
    (zlist : PySem.W.nsIn K mainGlobals "list" = some none)
    (zrange : PySem.W.nsIn K mainGlobals "range" = some none)
    (zsorted : PySem.W.nsIn K mainGlobals "sorted" = some none)
    (zstr : PySem.W.nsIn K mainGlobals "str" = some none)
    (zisinstance : PySem.W.nsIn K mainGlobals "isinstance" = some none)
    (zbool : PySem.W.nsIn K mainGlobals "bool" = some none)
    (zsum : PySem.W.nsIn K mainGlobals "sum" = some none)
    (zmax : PySem.W.nsIn K mainGlobals "max" = some none)
    (zmin : PySem.W.nsIn K mainGlobals "min" = some none)
    (ztuple : PySem.W.nsIn K mainGlobals "tuple" = some none)
    (zzip : PySem.W.nsIn K mainGlobals "zip" = some none)
    (zall : PySem.W.nsIn K mainGlobals "all" = some none)
    (zrepr : PySem.W.nsIn K mainGlobals "repr" = some none)
    (zValueError : PySem.W.nsIn K mainGlobals "ValueError" = some none)
    (aC0 : PySem.W.nsIn K mainGlobals "BadName" = some (some (.ref C0)))
    (iC0 : PySem.W.isClsIn K C0 = true)
    (tC0 : PySem.W.typeIn K (.ref C0) = some (.type "type"))
    (aC1 : PySem.W.nsIn K mainGlobals "BadEnds" = some (some (.ref C1)))
    (iC1 : PySem.W.isClsIn K C1 = true)
    (tC1 : PySem.W.typeIn K (.ref C1) = some (.type "type"))
    (aC2 : PySem.W.nsIn K mainGlobals "UnknownName" = some (some (.ref C2)))
    (iC2 : PySem.W.isClsIn K C2 = true)
    (tC2 : PySem.W.typeIn K (.ref C2) = some (.type "type"))
    (aC3 : PySem.W.nsIn K mainGlobals "UnlikeEnds" = some (some (.ref C3)))
    (iC3 : PySem.W.isClsIn K C3 = true)
    (tC3 : PySem.W.typeIn K (.ref C3) = some (.type "type"))
    (aC4 : PySem.W.nsIn K mainGlobals "BadTold" = some (some (.ref C4)))
    (iC4 : PySem.W.isClsIn K C4 = true)
    (tC4 : PySem.W.typeIn K (.ref C4) = some (.type "type"))
    (aCO : PySem.W.nsIn K mainGlobals "OfficeError" = some (some (.ref CO)))
    (iCO : PySem.W.isClsIn K CO = true)
    (tCO : PySem.W.typeIn K (.ref CO) = some (.type "type"))
    (eCO : PySem.W.subIn K (.ref CO) (.type "BaseException") = some true)
    (xL0 : K.lookup C0 = some (excClassObj nm0 q0 C0 N0 bs0 [.ref CO, .type "ValueError", .type "Exception", .type "BaseException", .type "object"] true sn0 sub0 ab0 col0 dd0 m00 m10 m20 m30 m50 "ValueError.__new__"))
    (xs0 : PySem.W.findIn K (.ref C0) "__setattr__" = some (some (.builtin "object.__setattr__")))
    (xg0 : PySem.W.findIn K (.ref C0) "__getattribute__" = some (some (.builtin "BaseException.__getattribute__")))
    (xk0 : PySem.W.findIn K (.ref C0) "__getattr__" = some none)
    (xname0 : PySem.W.findIn K (.ref C0) "name" = some none)
    (xlow0 : PySem.W.findIn K (.ref C0) "low" = some none)
    (xhigh0 : PySem.W.findIn K (.ref C0) "high" = some none)
    (xi0 : PySem.W.findIn K (.ref C0) "__init__" = some (some (.ref fx0)))
    (xt0 : PySem.W.typeIn K (.ref fx0) = some (.type "function"))
    (xK0 : PySem.W.keepIn K (.ref C0) = true)
    (xe0 : PySem.W.subIn K (.ref C0) (.type "BaseException") = some true)
    (xd0 : PySem.W.hasDictIn K C0 = true)
    (xa0 : PySem.W.findIn K (.ref C0) "__class__" = some (some (.builtin "object.__class__")))
    (xm0 : PySem.W.mroIn K C0 (.type "object") = some true)
    (xv0 : PySem.W.subIn K (.ref C0) (.type "ValueError") = some true)
    (xo0 : PySem.W.subIn K (.ref C0) (.ref CO) = some true)
    (ne01 : (Value.ref C0 == Value.ref C1) = false)
    (sb01 : PySem.W.subIn K (.ref C0) (.ref C1) = some false)
    (ne02 : (Value.ref C0 == Value.ref C2) = false)
    (sb02 : PySem.W.subIn K (.ref C0) (.ref C2) = some false)
    (ne03 : (Value.ref C0 == Value.ref C3) = false)
    (sb03 : PySem.W.subIn K (.ref C0) (.ref C3) = some false)
    (ne04 : (Value.ref C0 == Value.ref C4) = false)
    (sb04 : PySem.W.subIn K (.ref C0) (.ref C4) = some false)
    (xL1 : K.lookup C1 = some (excClassObj nm1 q1 C1 N1 bs1 [.ref CO, .type "ValueError", .type "Exception", .type "BaseException", .type "object"] true sn1 sub1 ab1 col1 dd1 m01 m11 m21 m31 m51 "ValueError.__new__"))
    (xs1 : PySem.W.findIn K (.ref C1) "__setattr__" = some (some (.builtin "object.__setattr__")))
    (xg1 : PySem.W.findIn K (.ref C1) "__getattribute__" = some (some (.builtin "BaseException.__getattribute__")))
    (xk1 : PySem.W.findIn K (.ref C1) "__getattr__" = some none)
    (xname1 : PySem.W.findIn K (.ref C1) "name" = some none)
    (xlow1 : PySem.W.findIn K (.ref C1) "low" = some none)
    (xhigh1 : PySem.W.findIn K (.ref C1) "high" = some none)
    (xi1 : PySem.W.findIn K (.ref C1) "__init__" = some (some (.ref fx1)))
    (xt1 : PySem.W.typeIn K (.ref fx1) = some (.type "function"))
    (xK1 : PySem.W.keepIn K (.ref C1) = true)
    (xe1 : PySem.W.subIn K (.ref C1) (.type "BaseException") = some true)
    (xd1 : PySem.W.hasDictIn K C1 = true)
    (xa1 : PySem.W.findIn K (.ref C1) "__class__" = some (some (.builtin "object.__class__")))
    (xm1 : PySem.W.mroIn K C1 (.type "object") = some true)
    (xv1 : PySem.W.subIn K (.ref C1) (.type "ValueError") = some true)
    (xo1 : PySem.W.subIn K (.ref C1) (.ref CO) = some true)
    (ne10 : (Value.ref C1 == Value.ref C0) = false)
    (sb10 : PySem.W.subIn K (.ref C1) (.ref C0) = some false)
    (ne12 : (Value.ref C1 == Value.ref C2) = false)
    (sb12 : PySem.W.subIn K (.ref C1) (.ref C2) = some false)
    (ne13 : (Value.ref C1 == Value.ref C3) = false)
    (sb13 : PySem.W.subIn K (.ref C1) (.ref C3) = some false)
    (ne14 : (Value.ref C1 == Value.ref C4) = false)
    (sb14 : PySem.W.subIn K (.ref C1) (.ref C4) = some false)
    (xL2 : K.lookup C2 = some (excClassObj nm2 q2 C2 N2 bs2 [.ref CO, .type "ValueError", .type "Exception", .type "BaseException", .type "object"] true sn2 sub2 ab2 col2 dd2 m02 m12 m22 m32 m52 "ValueError.__new__"))
    (xs2 : PySem.W.findIn K (.ref C2) "__setattr__" = some (some (.builtin "object.__setattr__")))
    (xg2 : PySem.W.findIn K (.ref C2) "__getattribute__" = some (some (.builtin "BaseException.__getattribute__")))
    (xk2 : PySem.W.findIn K (.ref C2) "__getattr__" = some none)
    (xname2 : PySem.W.findIn K (.ref C2) "name" = some none)
    (xlow2 : PySem.W.findIn K (.ref C2) "low" = some none)
    (xhigh2 : PySem.W.findIn K (.ref C2) "high" = some none)
    (xi2 : PySem.W.findIn K (.ref C2) "__init__" = some (some (.ref fx2)))
    (xt2 : PySem.W.typeIn K (.ref fx2) = some (.type "function"))
    (xK2 : PySem.W.keepIn K (.ref C2) = true)
    (xe2 : PySem.W.subIn K (.ref C2) (.type "BaseException") = some true)
    (xd2 : PySem.W.hasDictIn K C2 = true)
    (xa2 : PySem.W.findIn K (.ref C2) "__class__" = some (some (.builtin "object.__class__")))
    (xm2 : PySem.W.mroIn K C2 (.type "object") = some true)
    (xv2 : PySem.W.subIn K (.ref C2) (.type "ValueError") = some true)
    (xo2 : PySem.W.subIn K (.ref C2) (.ref CO) = some true)
    (ne20 : (Value.ref C2 == Value.ref C0) = false)
    (sb20 : PySem.W.subIn K (.ref C2) (.ref C0) = some false)
    (ne21 : (Value.ref C2 == Value.ref C1) = false)
    (sb21 : PySem.W.subIn K (.ref C2) (.ref C1) = some false)
    (ne23 : (Value.ref C2 == Value.ref C3) = false)
    (sb23 : PySem.W.subIn K (.ref C2) (.ref C3) = some false)
    (ne24 : (Value.ref C2 == Value.ref C4) = false)
    (sb24 : PySem.W.subIn K (.ref C2) (.ref C4) = some false)
    (xL3 : K.lookup C3 = some (excClassObj nm3 q3 C3 N3 bs3 [.ref CO, .type "ValueError", .type "Exception", .type "BaseException", .type "object"] true sn3 sub3 ab3 col3 dd3 m03 m13 m23 m33 m53 "ValueError.__new__"))
    (xs3 : PySem.W.findIn K (.ref C3) "__setattr__" = some (some (.builtin "object.__setattr__")))
    (xg3 : PySem.W.findIn K (.ref C3) "__getattribute__" = some (some (.builtin "BaseException.__getattribute__")))
    (xk3 : PySem.W.findIn K (.ref C3) "__getattr__" = some none)
    (xname3 : PySem.W.findIn K (.ref C3) "name" = some none)
    (xlow3 : PySem.W.findIn K (.ref C3) "low" = some none)
    (xhigh3 : PySem.W.findIn K (.ref C3) "high" = some none)
    (xi3 : PySem.W.findIn K (.ref C3) "__init__" = some (some (.ref fx3)))
    (xt3 : PySem.W.typeIn K (.ref fx3) = some (.type "function"))
    (xK3 : PySem.W.keepIn K (.ref C3) = true)
    (xe3 : PySem.W.subIn K (.ref C3) (.type "BaseException") = some true)
    (xd3 : PySem.W.hasDictIn K C3 = true)
    (xa3 : PySem.W.findIn K (.ref C3) "__class__" = some (some (.builtin "object.__class__")))
    (xm3 : PySem.W.mroIn K C3 (.type "object") = some true)
    (xv3 : PySem.W.subIn K (.ref C3) (.type "ValueError") = some true)
    (xo3 : PySem.W.subIn K (.ref C3) (.ref CO) = some true)
    (ne30 : (Value.ref C3 == Value.ref C0) = false)
    (sb30 : PySem.W.subIn K (.ref C3) (.ref C0) = some false)
    (ne31 : (Value.ref C3 == Value.ref C1) = false)
    (sb31 : PySem.W.subIn K (.ref C3) (.ref C1) = some false)
    (ne32 : (Value.ref C3 == Value.ref C2) = false)
    (sb32 : PySem.W.subIn K (.ref C3) (.ref C2) = some false)
    (ne34 : (Value.ref C3 == Value.ref C4) = false)
    (sb34 : PySem.W.subIn K (.ref C3) (.ref C4) = some false)
    (lx0 : K.lookup fx0 = some ⟨ocx0, odx0, .func (PySem.W.fnOf "__init__" "BadName.__init__" (defArgs sXBadName) (defBody sXBadName) (defScope sXBadName) .none kVx0 dcx0 pmx0 anx0 cdx0 ctx0), slx0⟩) (cx0 : PySem.W.codeIn K cdx0 "BadName.__init__" = true) (kx0 : PySem.W.keepIn K (.ref fx0) = true)
    (lx1 : K.lookup fx1 = some ⟨ocx1, odx1, .func (PySem.W.fnOf "__init__" "BadEnds.__init__" (defArgs sXBadEnds) (defBody sXBadEnds) (defScope sXBadEnds) .none kVx1 dcx1 pmx1 anx1 cdx1 ctx1), slx1⟩) (cx1 : PySem.W.codeIn K cdx1 "BadEnds.__init__" = true) (kx1 : PySem.W.keepIn K (.ref fx1) = true)
    (lx2 : K.lookup fx2 = some ⟨ocx2, odx2, .func (PySem.W.fnOf "__init__" "UnknownName.__init__" (defArgs sXUnknownName) (defBody sXUnknownName) (defScope sXUnknownName) .none kVx2 dcx2 pmx2 anx2 cdx2 ctx2), slx2⟩) (cx2 : PySem.W.codeIn K cdx2 "UnknownName.__init__" = true) (kx2 : PySem.W.keepIn K (.ref fx2) = true)
    (lx3 : K.lookup fx3 = some ⟨ocx3, odx3, .func (PySem.W.fnOf "__init__" "UnlikeEnds.__init__" (defArgs sXUnlikeEnds) (defBody sXUnlikeEnds) (defScope sXUnlikeEnds) .none kVx3 dcx3 pmx3 anx3 cdx3 ctx3), slx3⟩) (cx3 : PySem.W.codeIn K cdx3 "UnlikeEnds.__init__" = true) (kx3 : PySem.W.keepIn K (.ref fx3) = true) :
    ∃ fd : FuncData, (∀ (s : Shared) (v : Value), BindsTo s fd ⟨[v], []⟩ [("_law_script", v)]) ∧ ∀ base : Heap, K.In base → base.Ns mainGlobals mg → FnG l.prog w K mg base 13 fa fd ["_law_script"] (spLaw K) := by
  have F12 := fun_mk (st := sIsNm) l12 c12 k12
  let D12 : Df K mg "is_name" sIsNm ["text"] := ⟨f12, _, PySem.W.mg_of X G a12, F12, (F12.binds (ps := ["text"]) fun _ _ _ _ _ _ us hl => match us, hl with | [_], _ => rfl)⟩
  have F13 := fun_mk (st := sChn) l13 c13 k13
  let D13 : Df K mg "check_name" sChn ["text"] := ⟨f13, _, PySem.W.mg_of X G a13, F13, (F13.binds (ps := ["text"]) fun _ _ _ _ _ _ us hl => match us, hl with | [_], _ => rfl)⟩
  have F16 := fun_mk (st := sFof) l16 c16 k16
  let D16 : Df K mg "form_of" sFof ["constant", "terms"] := ⟨f16, _, PySem.W.mg_of X G a16, F16, (F16.binds (ps := ["constant", "terms"]) fun _ _ _ _ _ _ us hl => match us, hl with | [_, _], _ => rfl)⟩
  have F18 := fun_mk (st := sChk) l18 c18 k18
  let D18 : Df K mg "_check_ends" sChk ["first", "second"] := ⟨f18, _, PySem.W.mg_of X G a18, F18, (F18.binds (ps := ["first", "second"]) fun _ _ _ _ _ _ us hl => match us, hl with | [_, _], _ => rfl)⟩
  have F19 := fun_mk (st := sAdded) l19 c19 k19
  let D19 : Df K mg "_added" sAdded ["first", "second"] := ⟨f19, _, PySem.W.mg_of X G a19, F19, (F19.binds (ps := ["first", "second"]) fun _ _ _ _ _ _ us hl => match us, hl with | [_, _], _ => rfl)⟩
  have F21 := fun_mk (st := sMixed) l21 c21 k21
  let D21 : Df K mg "_law_mixed" sMixed ["_law_cell", "_law_place"] := ⟨f21, _, PySem.W.mg_of X G a21, F21, (F21.binds (ps := ["_law_cell", "_law_place"]) fun _ _ _ _ _ _ us hl => match us, hl with | [_, _], _ => rfl)⟩
  have F22 := fun_mk (st := sSource) l22 c22 k22
  let D22 : Df K mg "_law_source" sSource ["_law_script"] := ⟨f22, _, PySem.W.mg_of X G a22, F22, (F22.binds (ps := ["_law_script"]) fun _ _ _ _ _ _ us hl => match us, hl with | [_], _ => rfl)⟩
  have F23 := fun_mk (st := sTake) l23 c23 k23
  let D23 : Df K mg "_law_take" sTake ["_law_source_here", "_law_many"] := ⟨f23, _, PySem.W.mg_of X G a23, F23, (F23.binds (ps := ["_law_source_here", "_law_many"]) fun _ _ _ _ _ _ us hl => match us, hl with | [_, _], _ => rfl)⟩
  have F24 := fun_mk (st := sWord) l24 c24 k24
  let D24 : Df K mg "_law_word" sWord ["_law_source_here", "_law_size"] := ⟨f24, _, PySem.W.mg_of X G a24, F24, (F24.binds (ps := ["_law_source_here", "_law_size"]) fun _ _ _ _ _ _ us hl => match us, hl with | [_, _], _ => rfl)⟩
  have F25 := fun_mk (st := sNames) l25 c25 k25
  let D25 : Df K mg "_law_names" sNames ["_law_source_here", "_law_many"] := ⟨f25, _, PySem.W.mg_of X G a25, F25, (F25.binds (ps := ["_law_source_here", "_law_many"]) fun _ _ _ _ _ _ us hl => match us, hl with | [_, _], _ => rfl)⟩
  have F26 := fun_mk (st := sNumber) l26 c26 k26
  let D26 : Df K mg "_law_number" sNumber ["_law_source_here"] := ⟨f26, _, PySem.W.mg_of X G a26, F26, (F26.binds (ps := ["_law_source_here"]) fun _ _ _ _ _ _ us hl => match us, hl with | [_], _ => rfl)⟩
  have F27 := fun_mk (st := sEnds) l27 c27 k27
  let D27 : Df K mg "_law_ends" sEnds ["_law_source_here"] := ⟨f27, _, PySem.W.mg_of X G a27, F27, (F27.binds (ps := ["_law_source_here"]) fun _ _ _ _ _ _ us hl => match us, hl with | [_], _ => rfl)⟩
  have F28 := fun_mk (st := sOther) l28 c28 k28
  let D28 : Df K mg "_law_other_ends" sOther ["_law_source_here", "_law_ends_here"] := ⟨f28, _, PySem.W.mg_of X G a28, F28, (F28.binds (ps := ["_law_source_here", "_law_ends_here"]) fun _ _ _ _ _ _ us hl => match us, hl with | [_, _], _ => rfl)⟩
  have F29 := fun_mk (st := sIsN) l29 c29 k29
  let D29 : Df K mg "_law_is_number" sIsN ["_law_actual"] := ⟨f29, _, PySem.W.mg_of X G a29, F29, (F29.binds (ps := ["_law_actual"]) fun _ _ _ _ _ _ us hl => match us, hl with | [_], _ => rfl)⟩
  have F30 := fun_mk (st := sTerms) l30 c30 k30
  let D30 : Df K mg "_law_terms" sTerms ["_law_model"] := ⟨f30, _, PySem.W.mg_of X G a30, F30, (F30.binds (ps := ["_law_model"]) fun _ _ _ _ _ _ us hl => match us, hl with | [_], _ => rfl)⟩
  have F31 := fun_mk (st := sIsF) l31 c31 k31
  let D31 : Df K mg "_law_is_form" sIsF ["_law_actual", "_law_model"] := ⟨f31, _, PySem.W.mg_of X G a31, F31, (F31.binds (ps := ["_law_actual", "_law_model"]) fun _ _ _ _ _ _ us hl => match us, hl with | [_, _], _ => rfl)⟩
  have F32 := fun_mk (st := sSum) l32 c32 k32
  let D32 : Df K mg "_law_sum" sSum ["_law_one_here", "_law_two", "_law_sign"] := ⟨f32, _, PySem.W.mg_of X G a32, F32, (F32.binds (ps := ["_law_one_here", "_law_two", "_law_sign"]) fun _ _ _ _ _ _ us hl => match us, hl with | [_, _, _], _ => rfl)⟩
  have F33 := fun_mk (st := sSca) l33 c33 k33
  let D33 : Df K mg "_law_scaled" sSca ["_law_model", "_law_factor"] := ⟨f33, _, PySem.W.mg_of X G a33, F33, (F33.binds (ps := ["_law_model", "_law_factor"]) fun _ _ _ _ _ _ us hl => match us, hl with | [_, _], _ => rfl)⟩
  have F34 := fun_mk (st := sFar) l34 c34 k34
  let D34 : Df K mg "_law_far" sFar ["_law_model", "_law_sign"] := ⟨f34, _, PySem.W.mg_of X G a34, F34, (F34.binds (ps := ["_law_model", "_law_sign"]) fun _ _ _ _ _ _ us hl => match us, hl with | [_, _], _ => rfl)⟩
  have F35 := fun_mk (st := sRai) l35 c35 k35
  let D35 : Df K mg "_law_raised" sRai ["_law_e"] := ⟨f35, _, PySem.W.mg_of X G a35, F35, (F35.binds (ps := ["_law_e"]) fun _ _ _ _ _ _ us hl => match us, hl with | [_], _ => rfl)⟩
  have F36 := fun_mk (st := sTri) l36 c36 k36
  let D36 : Df K mg "_law_tried" sTri ["_law_sign", "_law_one_here", "_law_two"] := ⟨f36, _, PySem.W.mg_of X G a36, F36, (F36.binds (ps := ["_law_sign", "_law_one_here", "_law_two"]) fun _ _ _ _ _ _ us hl => match us, hl with | [_, _, _], _ => rfl)⟩
  have F37 := fun_mk (st := sDue) l37 c37 k37
  let D37 : Df K mg "_law_due" sDue ["_law_sign", "_law_one_here", "_law_two"] := ⟨f37, _, PySem.W.mg_of X G a37, F37, (F37.binds (ps := ["_law_sign", "_law_one_here", "_law_two"]) fun _ _ _ _ _ _ us hl => match us, hl with | [_, _, _], _ => rfl)⟩
  have F38 := fun_mk (st := sMts) l38 c38 k38
  let D38 : Df K mg "_law_meets" sMts ["_law_tried_here", "_law_due_here"] := ⟨f38, _, PySem.W.mg_of X G a38, F38, (F38.binds (ps := ["_law_tried_here", "_law_due_here"]) fun _ _ _ _ _ _ us hl => match us, hl with | [_, _], _ => rfl)⟩
  have F39 := fun_mk (st := sAsk) l39 c39 k39
  let D39 : Df K mg "_law_asked" sAsk ["_law_sign", "_law_one_here", "_law_two"] := ⟨f39, _, PySem.W.mg_of X G a39, F39, (F39.binds (ps := ["_law_sign", "_law_one_here", "_law_two"]) fun _ _ _ _ _ _ us hl => match us, hl with | [_, _, _], _ => rfl)⟩
  have F40 := fun_mk (st := sPla) l40 c40 k40
  let D40 : Df K mg "_law_plain" sPla ["_law_number_here"] := ⟨f40, _, PySem.W.mg_of X G a40, F40, (F40.binds (ps := ["_law_number_here"]) fun _ _ _ _ _ _ us hl => match us, hl with | [_], _ => rfl)⟩
  have F41 := fun_mk (st := sPic) l41 c41 k41
  let D41 : Df K mg "_law_pick" sPic ["_law_source_here", "_law_pool"] := ⟨f41, _, PySem.W.mg_of X G a41, F41, (F41.binds (ps := ["_law_source_here", "_law_pool"]) fun _ _ _ _ _ _ us hl => match us, hl with | [_, _], _ => rfl)⟩
  have F42 := fun_mk (st := sOpe) l42 c42 k42
  let D42 : Df K mg "_law_operation" sOpe ["_law_source_here", "_law_pool"] := ⟨f42, _, PySem.W.mg_of X G a42, F42, (F42.binds (ps := ["_law_source_here", "_law_pool"]) fun _ _ _ _ _ _ us hl => match us, hl with | [_, _], _ => rfl)⟩
  have F43 := fun_mk (st := sOne) l43 c43 k43
  let D43 : Df K mg "_law_one" sOne ["_law_word_here", "_law_ends_here"] := ⟨f43, _, PySem.W.mg_of X G a43, F43, (F43.binds (ps := ["_law_word_here", "_law_ends_here"]) fun _ _ _ _ _ _ us hl => match us, hl with | [_, _], _ => rfl)⟩
  have F44 := fun_mk (st := sAll) l44 c44 k44
  let D44 : Df K mg "_law_all_signs" sAll ["_law_one_here", "_law_two"] := ⟨f44, _, PySem.W.mg_of X G a44, F44, (F44.binds (ps := ["_law_one_here", "_law_two"]) fun _ _ _ _ _ _ us hl => match us, hl with | [_, _], _ => rfl)⟩
  have F45 := fun_mk (st := sNea) l45 c45 k45
  let D45 : Df K mg "_law_near" sNea ["_law_source_here", "_law_names_here", "_law_ends_here", "_law_one_here"] := ⟨f45, _, PySem.W.mg_of X G a45, F45, (F45.binds (ps := ["_law_source_here", "_law_names_here", "_law_ends_here", "_law_one_here"]) fun _ _ _ _ _ _ us hl => match us, hl with | [_, _, _, _], _ => rfl)⟩
  have F46 := fun_mk (st := sUnl) l46 c46 k46
  let D46 : Df K mg "_law_unlike" sUnl ["_law_source_here", "_law_names_here", "_law_ends_here"] := ⟨f46, _, PySem.W.mg_of X G a46, F46, (F46.binds (ps := ["_law_source_here", "_law_names_here", "_law_ends_here"]) fun _ _ _ _ _ _ us hl => match us, hl with | [_, _, _], _ => rfl)⟩
  have F47 := fun_mk (st := sBou) l47 c47 k47
  let D47 : Df K mg "_law_bounds" sBou ["_law_source_here", "_law_one_here"] := ⟨f47, _, PySem.W.mg_of X G a47, F47, (F47.binds (ps := ["_law_source_here", "_law_one_here"]) fun _ _ _ _ _ _ us hl => match us, hl with | [_, _], _ => rfl)⟩
  have F48 := fun_mk (st := sVls) l48 c48 k48
  let D48 : Df K mg "_law_values" sVls ["_law_source_here", "_law_names_here", "_law_ends_here", "_law_one_here"] := ⟨f48, _, PySem.W.mg_of X G a48, F48, (F48.binds (ps := ["_law_source_here", "_law_names_here", "_law_ends_here", "_law_one_here"]) fun _ _ _ _ _ _ us hl => match us, hl with | [_, _, _, _], _ => rfl)⟩
  have F49 := fun_mk (st := sMsd) l49 c49 k49
  let D49 : Df K mg "_law_measured" sMsd ["_law_source_here", "_law_names_here"] := ⟨f49, _, PySem.W.mg_of X G a49, F49, (F49.binds (ps := ["_law_source_here", "_law_names_here"]) fun _ _ _ _ _ _ us hl => match us, hl with | [_, _], _ => rfl)⟩
  have F50 := fun_mk (st := sLaw) l50 c50 k50
  let D50 : Df K mg "law" sLaw ["_law_script"] := ⟨f50, _, PySem.W.mg_of X G a50, F50, (F50.binds (ps := ["_law_script"]) fun _ _ _ _ _ _ us hl => match us, hl with | [_], _ => rfl)⟩
  have F17 := fun_mk (st := sMea) l17 c17 k17
  have FmI := fun_mk (st := sIni) lmI cmI kmI
  let MI : Mf K C "__init__" "Form.__init__" sIni ["self", "constant"] := ⟨fmI, _, ⟨amI, imI, kmI⟩, FmI, (FmI.binds (ps := ["self", "constant"]) fun _ _ _ _ _ _ us hl => match us, hl with | [_, _], _ => rfl)⟩
  have FmA := fun_mk (st := sAdd) lmA cmA kmA
  let MA : Mf K C "__add__" "Form.__add__" sAdd ["self", "other"] := ⟨fmA, _, ⟨amA, imA, kmA⟩, FmA, (FmA.binds (ps := ["self", "other"]) fun _ _ _ _ _ _ us hl => match us, hl with | [_, _], _ => rfl)⟩
  have FmRA := fun_mk (st := sRadd) lmRA cmRA kmRA
  let MRA : Mf K C "__radd__" "Form.__radd__" sRadd ["self", "other"] := ⟨fmRA, _, ⟨amRA, imRA, kmRA⟩, FmRA, (FmRA.binds (ps := ["self", "other"]) fun _ _ _ _ _ _ us hl => match us, hl with | [_, _], _ => rfl)⟩
  have FmS := fun_mk (st := sSub) lmS cmS kmS
  let MS : Mf K C "__sub__" "Form.__sub__" sSub ["self", "other"] := ⟨fmS, _, ⟨amS, imS, kmS⟩, FmS, (FmS.binds (ps := ["self", "other"]) fun _ _ _ _ _ _ us hl => match us, hl with | [_, _], _ => rfl)⟩
  have FmRS := fun_mk (st := sRsub) lmRS cmRS kmRS
  let MRS : Mf K C "__rsub__" "Form.__rsub__" sRsub ["self", "other"] := ⟨fmRS, _, ⟨amRS, imRS, kmRS⟩, FmRS, (FmRS.binds (ps := ["self", "other"]) fun _ _ _ _ _ _ us hl => match us, hl with | [_, _], _ => rfl)⟩
  have FmM := fun_mk (st := sMul) lmM cmM kmM
  let MM : Mf K C "__mul__" "Form.__mul__" sMul ["self", "other"] := ⟨fmM, _, ⟨amM, imM, kmM⟩, FmM, (FmM.binds (ps := ["self", "other"]) fun _ _ _ _ _ _ us hl => match us, hl with | [_, _], _ => rfl)⟩
  have FmR := fun_mk (st := sRmu) lmR cmR kmR
  let MR : Mf K C "__rmul__" "Form.__rmul__" sRmu ["self", "other"] := ⟨fmR, _, ⟨amR, imR, kmR⟩, FmR, (FmR.binds (ps := ["self", "other"]) fun _ _ _ _ _ _ us hl => match us, hl with | [_, _], _ => rfl)⟩
  have FmN := fun_mk (st := sNeg) lmN cmN kmN
  let MN : Mf K C "__neg__" "Form.__neg__" sNeg ["self"] := ⟨fmN, _, ⟨amN, imN, kmN⟩, FmN, (FmN.binds (ps := ["self"]) fun _ _ _ _ _ _ us hl => match us, hl with | [_], _ => rfl)⟩
  have FmE := fun_mk (st := sEq) lmE cmE kmE
  let ME : Mf K C "__eq__" "Form.__eq__" sEq ["self", "other"] := ⟨fmE, _, ⟨amE, imE, kmE⟩, FmE, (FmE.binds (ps := ["self", "other"]) fun _ _ _ _ _ _ us hl => match us, hl with | [_, _], _ => rfl)⟩
  have FmL := fun_mk (st := sLe) lmL cmL kmL
  let ML : Mf K C "__le__" "Form.__le__" sLe ["self", "other"] := ⟨fmL, _, ⟨amL, imL, kmL⟩, FmL, (FmL.binds (ps := ["self", "other"]) fun _ _ _ _ _ _ us hl => match us, hl with | [_, _], _ => rfl)⟩
  have FmG := fun_mk (st := sGe) lmG cmG kmG
  let MG : Mf K C "__ge__" "Form.__ge__" sGe ["self", "other"] := ⟨fmG, _, ⟨amG, imG, kmG⟩, FmG, (FmG.binds (ps := ["self", "other"]) fun _ _ _ _ _ _ us hl => match us, hl with | [_, _], _ => rfl)⟩
  have FmV := fun_mk (st := sVal) lmV cmV kmV
  let MV : Mf K C "value" "Form.value" sVal ["self", "values"] := ⟨fmV, _, ⟨amV, imV, kmV⟩, FmV, (FmV.binds (ps := ["self", "values"]) fun _ _ _ _ _ _ us hl => match us, hl with | [_, _], _ => rfl)⟩
  have FPL := fun_mk (st := sLeast) lPL cPL kPL
  have bPL := (FPL.binds (ps := ["self"]) fun _ _ _ _ _ _ us hl => match us, hl with | [_], _ => rfl)
  have PPL : PropOf K C "least" pPL fPL := ⟨aPL, gPL, tPL, rePL, rPL⟩
  have FPM := fun_mk (st := sMost) lPM cPM kPM
  have bPM := (FPM.binds (ps := ["self"]) fun _ _ _ _ _ _ us hl => match us, hl with | [_], _ => rfl)
  have PPM : PropOf K C "most" pPM fPM := ⟨aPM, gPM, tPM, rePM, rPM⟩
  have qint := PySem.W.mg_none_of X G zint
  have qabs := PySem.W.mg_none_of X G zabs
  have qlen := PySem.W.mg_none_of X G zlen
  have qlist := PySem.W.mg_none_of X G zlist
  have qrange := PySem.W.mg_none_of X G zrange
  have qsorted := PySem.W.mg_none_of X G zsorted
  have qstr := PySem.W.mg_none_of X G zstr
  have qisinstance := PySem.W.mg_none_of X G zisinstance
  have qbool := PySem.W.mg_none_of X G zbool
  have qsum := PySem.W.mg_none_of X G zsum
  have qmax := PySem.W.mg_none_of X G zmax
  have qmin := PySem.W.mg_none_of X G zmin
  have qtuple := PySem.W.mg_none_of X G ztuple
  have qzip := PySem.W.mg_none_of X G zzip
  have qall := PySem.W.mg_none_of X G zall
  have qrepr := PySem.W.mg_none_of X G zrepr
  have qValueError := PySem.W.mg_none_of X G zValueError
  have T : Frm K mg C := ⟨⟨pg, hd, po, sa⟩, nC, nT, PySem.W.mg_of X G aC, sf, ha, hn, ht, hm, kit_self, kit_cls (Bool.eq_false_iff.mpr fun q => by cases beq_iff_eq.mp q) ic ty sI, kit_typ (by decide +kernel) sJ, nF, sJ, sI⟩
  have TM : FrmM K C := ⟨im, ir⟩
  have TA : FrmA K := ⟨ia, ira, is_, irs⟩
  have MK : Mk K C MI.f := ⟨mk, amI, imI, kc⟩
  have N : Nam mg := ⟨⟨_, PySem.W.mg_of X G vFR⟩, ⟨_, PySem.W.mg_of X G vFS⟩, ⟨_, by rw [azn_lit]; exact PySem.W.mg_of X G vLS⟩, ⟨_, PySem.W.mg_of X G vLN⟩⟩
  have Fx0 := fun_mk (st := sXBadName) lx0 cx0 kx0
  have ox0 : OexC K C0 := ⟨⟨_, _, _, _, _, _, _, _, _, _, _, _, _, _, _, xL0, by rfl⟩, xs0, xe0, tC0, xK0⟩
  let X0 : Xc K mg "BadName" "BadName.__init__" sXBadName ["name"] ["self", "name"] := ⟨C0, fx0, _, PySem.W.mg_of X G aC0, ox0, xi0, xt0, Fx0, (Fx0.binds (ps := ["self", "name"]) fun _ _ _ _ _ _ us hl => match us, hl with | [_, _], _ => rfl), fun g hg => by
      simp only [List.mem_cons, List.not_mem_nil, or_false] at hg
      obtain rfl := hg
      exact xname0⟩
  have R0 : RaiC K C0 C0 C1 C2 C3 C4 true false false false false := ⟨⟨iC0, xg0, xk0, xe0, xd0, xa0, hn, ht, xm0⟩, fun g hg => by
      simp only [List.mem_cons, List.not_mem_nil, or_false] at hg
      rcases hg with rfl | rfl | rfl
      · exact xname0
      · exact xlow0
      · exact xhigh0, kit_self, kit_cls ne01 iC1 tC1 sb01, kit_cls ne02 iC2 tC2 sb02, kit_cls ne03 iC3 tC3 sb03, kit_cls ne04 iC4 tC4 sb04, kit_typ (by decide +kernel) xv0⟩
  have y0 := exm_sup eCO iCO tCO xo0
  have Fx1 := fun_mk (st := sXBadEnds) lx1 cx1 kx1
  have ox1 : OexC K C1 := ⟨⟨_, _, _, _, _, _, _, _, _, _, _, _, _, _, _, xL1, by rfl⟩, xs1, xe1, tC1, xK1⟩
  let X1 : Xc K mg "BadEnds" "BadEnds.__init__" sXBadEnds ["low", "high"] ["self", "low", "high"] := ⟨C1, fx1, _, PySem.W.mg_of X G aC1, ox1, xi1, xt1, Fx1, (Fx1.binds (ps := ["self", "low", "high"]) fun _ _ _ _ _ _ us hl => match us, hl with | [_, _, _], _ => rfl), fun g hg => by
      simp only [List.mem_cons, List.not_mem_nil, or_false] at hg
      rcases hg with rfl | rfl
      · exact xlow1
      · exact xhigh1⟩
  have R1 : RaiC K C1 C0 C1 C2 C3 C4 false true false false false := ⟨⟨iC1, xg1, xk1, xe1, xd1, xa1, hn, ht, xm1⟩, fun g hg => by
      simp only [List.mem_cons, List.not_mem_nil, or_false] at hg
      rcases hg with rfl | rfl | rfl
      · exact xname1
      · exact xlow1
      · exact xhigh1, kit_cls ne10 iC0 tC0 sb10, kit_self, kit_cls ne12 iC2 tC2 sb12, kit_cls ne13 iC3 tC3 sb13, kit_cls ne14 iC4 tC4 sb14, kit_typ (by decide +kernel) xv1⟩
  have y1 := exm_sup eCO iCO tCO xo1
  have Fx2 := fun_mk (st := sXUnknownName) lx2 cx2 kx2
  have ox2 : OexC K C2 := ⟨⟨_, _, _, _, _, _, _, _, _, _, _, _, _, _, _, xL2, by rfl⟩, xs2, xe2, tC2, xK2⟩
  let X2 : Xc K mg "UnknownName" "UnknownName.__init__" sXUnknownName ["name"] ["self", "name"] := ⟨C2, fx2, _, PySem.W.mg_of X G aC2, ox2, xi2, xt2, Fx2, (Fx2.binds (ps := ["self", "name"]) fun _ _ _ _ _ _ us hl => match us, hl with | [_, _], _ => rfl), fun g hg => by
      simp only [List.mem_cons, List.not_mem_nil, or_false] at hg
      obtain rfl := hg
      exact xname2⟩
  have R2 : RaiC K C2 C0 C1 C2 C3 C4 false false true false false := ⟨⟨iC2, xg2, xk2, xe2, xd2, xa2, hn, ht, xm2⟩, fun g hg => by
      simp only [List.mem_cons, List.not_mem_nil, or_false] at hg
      rcases hg with rfl | rfl | rfl
      · exact xname2
      · exact xlow2
      · exact xhigh2, kit_cls ne20 iC0 tC0 sb20, kit_cls ne21 iC1 tC1 sb21, kit_self, kit_cls ne23 iC3 tC3 sb23, kit_cls ne24 iC4 tC4 sb24, kit_typ (by decide +kernel) xv2⟩
  have y2 := exm_sup eCO iCO tCO xo2
  have Fx3 := fun_mk (st := sXUnlikeEnds) lx3 cx3 kx3
  have ox3 : OexC K C3 := ⟨⟨_, _, _, _, _, _, _, _, _, _, _, _, _, _, _, xL3, by rfl⟩, xs3, xe3, tC3, xK3⟩
  let X3 : Xc K mg "UnlikeEnds" "UnlikeEnds.__init__" sXUnlikeEnds ["name"] ["self", "name"] := ⟨C3, fx3, _, PySem.W.mg_of X G aC3, ox3, xi3, xt3, Fx3, (Fx3.binds (ps := ["self", "name"]) fun _ _ _ _ _ _ us hl => match us, hl with | [_, _], _ => rfl), fun g hg => by
      simp only [List.mem_cons, List.not_mem_nil, or_false] at hg
      obtain rfl := hg
      exact xname3⟩
  have R3 : RaiC K C3 C0 C1 C2 C3 C4 false false false true false := ⟨⟨iC3, xg3, xk3, xe3, xd3, xa3, hn, ht, xm3⟩, fun g hg => by
      simp only [List.mem_cons, List.not_mem_nil, or_false] at hg
      rcases hg with rfl | rfl | rfl
      · exact xname3
      · exact xlow3
      · exact xhigh3, kit_cls ne30 iC0 tC0 sb30, kit_cls ne31 iC1 tC1 sb31, kit_cls ne32 iC2 tC2 sb32, kit_self, kit_cls ne34 iC4 tC4 sb34, kit_typ (by decide +kernel) xv3⟩
  have y3 := exm_sup eCO iCO tCO xo3
  have RG : RaiG mg C0 C1 C2 C3 C4 := ⟨PySem.W.mg_of X G aC0, PySem.W.mg_of X G aC1, PySem.W.mg_of X G aC2, PySem.W.mg_of X G aC3, PySem.W.mg_of X G aC4, qisinstance, qValueError⟩
  have gO := PySem.W.mg_of X G aCO
  refine ⟨PySem.W.fnOf "law" "law" (defArgs sLaw) (defBody sLaw) (defScope sLaw) .none kV50 dc50 pm50 an50 cd50 ct50, fun s v => .of_eq rfl, fun base _ _ => ?_⟩
  have e := hfa.symm.trans (PySem.W.mg_of X G a50)
  cases e
  have GIni : FnOk l.prog w K mg base CX0 1 _ _ _ _ := ok_ini T MI
  have GFof : FnOk l.prog w K mg base CX0 3 _ _ _ _ := ok_fof T D16 MI MK qtuple
  have GMul : FnOk l.prog w K mg base CX0 4 _ _ _ _ := ok_mul T MM MI MK D16 GFof qisinstance qint
  have GRmu : FnOk l.prog w K mg base CX0 5 _ _ _ _ := ok_rmu T TM MR MM GMul
  have GNeg : FnOk l.prog w K mg base CX0 5 _ _ _ _ := ok_neg T TM MN MR MM GMul
  have GLea : FnOk l.prog w K mg base CX0 1 fPL _ ["self"] (spEnd C mnT) := ok_least T FPL qsum
  have GMos : FnOk l.prog w K mg base CX0 1 fPM _ ["self"] (spEnd C mxT) := ok_most T FPM qsum
  have GEq : FnOk l.prog w K mg base CX0 1 _ _ _ _ := ok_eq T ME qisinstance
  have GChk : FnOk l.prog w K mg base (L2N.CX l.prog w) 4 _ _ _ (spChk C3) := ok_chk D18 X3
  have GAdded : FnOk l.prog w K mg base CX0 1 _ _ _ _ := ok_added D19 qsorted qstr
  have GAdd : FnOk l.prog w K mg base (L2N.CX l.prog w) 5 _ _ _ (spAdd K C C3) := ok_add T MA D16 GFof D18 GChk D19 GAdded qisinstance qint
  have GRadd : FnOk l.prog w K mg base (L2N.CX l.prog w) 6 _ _ _ _ := ok_radd T MA GAdd MRA TA
  have GSub : FnOk l.prog w K mg base (L2N.CX l.prog w) 6 _ _ _ (spSub C C3) := ok_sub T MS MA GAdd MRA TA MM GMul MR TM qisinstance qint
  have GRsub : FnOk l.prog w K mg base (L2N.CX l.prog w) 6 _ _ _ _ := ok_rsub T MRS MA GAdd MRA TA MM GMul MR TM
  have GLe : FnOk l.prog w K mg base (L2N.CX l.prog w) 7 _ _ _ (spLe C C3) := ok_le T ML MS GSub MRS TA PPM GMos bPM qisinstance qint
  have GGe : FnOk l.prog w K mg base (L2N.CX l.prog w) 7 _ _ _ (spGe C C3) := ok_ge T MG MS GSub MRS TA PPL GLea bPL qisinstance qint
  have GVal : FnOk l.prog w K mg base (L2N.CX l.prog w) 4 _ _ _ (spVal C C2) := ok_val T MV X2
  have O : FoK l.prog w K mg base C C3 C2 := ⟨T, TA, TM, MA, GAdd, MRA, GRadd, MS, GSub, MRS, GRsub, MM, GMul, MR, GRmu, MN, GNeg, ME, GEq, ML, GLe, MG, GGe, MV, GVal⟩
  have GIsNm : FnOk l.prog w K mg base CX0 1 _ _ _ _ := ok_isNm D12 N qlen qall
  have GChn : FnOk l.prog w K mg base (L2N.CX l.prog w) 4 _ _ _ (spChn C0) := ok_chn D13 N D12 GIsNm X0
  have GMea : FnOk l.prog w K mg base (L2N.CX l.prog w) 5 f17 _ _ (spMea C C0 C1) := ok_mea F17 D13 GChn D16 GFof X1
  have MS_ : Msr l.prog w K mg base C C0 C1 := ⟨f17, _, PySem.W.mg_of X G a17, F17, ⟨fun s us ws _ h1 h2 => by
    match us, h1, ws, h2 with
    | [_], _, [_, _], _ => exact .of_eq rfl, fun r1 r2 => r1.append r2⟩, GMea⟩
  have FM : FMk l.prog w K mg base C := ⟨T, MI, MK, GIni⟩
  have TT : Fk l.prog w K mg base 2 _ _ _ spTake := ⟨D23, ok_take D23 D21 qint qabs qlen⟩
  have WO : Fk l.prog w K mg base 3 _ _ _ spWord := ⟨D24, ok_word D24 TT.D TT.G qrange⟩
  have NM : Fk l.prog w K mg base 4 _ _ _ spNames := ⟨D25, ok_names D25 TT.D TT.G WO.D WO.G qrange qint qstr⟩
  have NU : Fk l.prog w K mg base 3 _ _ _ spNumber := ⟨D26, ok_number D26 TT.D TT.G qrange⟩
  have EN : Fk l.prog w K mg base 4 _ _ _ spEnds := ⟨D27, ok_ends D27 TT.D TT.G NU.D NU.G qint qmin qmax⟩
  have OE : Fk l.prog w K mg base 5 _ _ _ spOther := ⟨D28, ok_other D28 TT.D TT.G EN.D EN.G qabs⟩
  have IN : Fk l.prog w K mg base 1 _ _ _ spIsN := ⟨D29, ok_isN D29 qisinstance qint qbool⟩
  have TE : Fk l.prog w K mg base 1 _ _ _ spTerms := ⟨D30, ok_terms D30 qsorted qstr qtuple⟩
  have IF : Fk l.prog w K mg base 2 _ _ _ (spIsF C) := ⟨D31, ok_isF T D31 IN.D IN.G TE.D TE.G qisinstance qstr qtuple qlen qzip⟩
  have SU : Fk l.prog w K mg base 1 _ _ _ spSum := ⟨D32, ok_sum D32 qsorted qstr⟩
  have SC : Fk l.prog w K mg base 1 _ _ _ spSca := ⟨D33, ok_sca D33⟩
  have FA : Fk l.prog w K mg base 1 _ _ _ spFar := ⟨D34, ok_far D34 qmax qint⟩
  have GTri : FnOk l.prog w K mg base CX0 9 D36.f D36.fd _ (spTri C C3 C2) := ok_tri D36 O D35 RG R3 R2 gO y3 y2
  have GTriV : FnOk l.prog w K mg base CX0 9 D36.f D36.fd _ (spTriV C) := ok_triV D36 O D35 RG R3 R2 gO y3 y2
  have GDue : FnOk l.prog w K mg base CX0 2 _ _ _ _ := ok_due D37 SC.D SC.G FA.D FA.G SU.D SU.G
  have GMts : FnOk l.prog w K mg base CX0 3 _ _ _ (spMts C) := ok_mts D38 IF.D IF.G qisinstance qbool
  have AK : Fk l.prog w K mg base 10 _ _ _ (spAsk C) := ⟨D39, ok_ask D39 D37 GDue D36 GTri D38 GMts⟩
  have PL : Fk l.prog w K mg base 1 _ _ _ (spPla C) := ⟨D40, ok_pla D40⟩
  have PK : Fk l.prog w K mg base 3 _ _ _ spPic := ⟨D41, ok_pic D41 TT qlen⟩
  have OP : Fk l.prog w K mg base 11 _ _ _ (spOpe C) := ⟨D42, ok_ope D42 TT PK NU PL AK⟩
  have ON : Fk l.prog w K mg base 6 _ _ _ (spOne C) := ⟨D43, ok_one D43 MS_⟩
  have AL : Fk l.prog w K mg base 11 _ _ _ (spAll C) := ⟨D44, ok_all D44 AK⟩
  have NE : Fk l.prog w K mg base 12 _ _ _ (spNea C) := ⟨D45, ok_nea D45 T TT PL ON AK AL FA PPL GLea bPL qlen⟩
  have UN : Fk l.prog w K mg base 12 _ _ _ (spUnl C) := ⟨D46, ok_unl D46 FM TT PL ON AK AL⟩
  have BO : Fk l.prog w K mg base 12 _ _ _ (spBou C) := ⟨D47, ok_bou D47 T TT PL AL FA IN PPL GLea bPL PPM GMos bPM qabs⟩
  have VA : FkG l.prog w K mg base 10 _ _ _ (spVls C) := ⟨D48, ok_vls D48 TT NU IN D36 GTriV qsorted qstr qlen qrepr⟩
  have MD : Fk l.prog w K mg base 6 _ _ _ spMsd := ⟨D49, ok_msd D49 MS_ TT NU IF D35 RG R0 R1 gO y0 y1 qlen qabs⟩
  have SO : Fk l.prog w K mg base 1 _ _ _ (spSource K) := ⟨D22, ok_source D22 qlist⟩
  exact ok_law D50 FM TT NU ON PK SO NM EN OE IF OP NE UN BO MD VA qrange
end DO
open PySem PySem.W PyProof.Rows
set_option maxRecDepth 100000 in
set_option maxHeartbeats 0 in
theorem PySem.Challenge.cw_drawingoffice_k00_forms_at_all_values_holds : PySem.Challenge.rw_drawingoffice_k00_forms_at_all_values.Holds := by
  w_on; o_law; k_head; (case hw => w_witness2)
  k_fill
  refine DO.walkG (l := PySem.Challenge.rw_drawingoffice_k00_forms_at_all_values) rfl rfl (fun w h Y => PySem.W.kIn_of Y) ?F
  case F =>
    intro w mg fa h KX G hmg
    refine' DO.all_mk KX G hmg ?a12 ?l12 ?c12 ?k12 ?a13 ?l13 ?c13 ?k13 ?a16 ?l16 ?c16 ?k16 ?a18 ?l18 ?c18 ?k18 ?a19 ?l19 ?c19 ?k19 ?a21 ?l21 ?c21 ?k21 ?a22 ?l22 ?c22 ?k22 ?a23 ?l23 ?c23 ?k23 ?a24 ?l24 ?c24 ?k24 ?a25 ?l25 ?c25 ?k25 ?a26 ?l26 ?c26 ?k26 ?a27 ?l27 ?c27 ?k27 ?a28 ?l28 ?c28 ?k28 ?a29 ?l29 ?c29 ?k29 ?a30 ?l30 ?c30 ?k30 ?a31 ?l31 ?c31 ?k31 ?a32 ?l32 ?c32 ?k32 ?a33 ?l33 ?c33 ?k33 ?a34 ?l34 ?c34 ?k34 ?a35 ?l35 ?c35 ?k35 ?a36 ?l36 ?c36 ?k36 ?a37 ?l37 ?c37 ?k37 ?a38 ?l38 ?c38 ?k38 ?a39 ?l39 ?c39 ?k39 ?a40 ?l40 ?c40 ?k40 ?a41 ?l41 ?c41 ?k41 ?a42 ?l42 ?c42 ?k42 ?a43 ?l43 ?c43 ?k43 ?a44 ?l44 ?c44 ?k44 ?a45 ?l45 ?c45 ?k45 ?a46 ?l46 ?c46 ?k46 ?a47 ?l47 ?c47 ?k47 ?a48 ?l48 ?c48 ?k48 ?a49 ?l49 ?c49 ?k49 ?a50 ?l50 ?c50 ?k50 ?a17 ?l17 ?c17 ?k17 ?amI ?imI ?lmI ?cmI ?kmI ?amA ?imA ?lmA ?cmA ?kmA ?amRA ?imRA ?lmRA ?cmRA ?kmRA ?amS ?imS ?lmS ?cmS ?kmS ?amRS ?imRS ?lmRS ?cmRS ?kmRS ?amM ?imM ?lmM ?cmM ?kmM ?amR ?imR ?lmR ?cmR ?kmR ?amN ?imN ?lmN ?cmN ?kmN ?amE ?imE ?lmE ?cmE ?kmE ?amL ?imL ?lmL ?cmL ?kmL ?amG ?imG ?lmG ?cmG ?kmG ?amV ?imV ?lmV ?cmV ?kmV ?aPL ?gPL ?tPL ?rPL ?lPL ?cPL ?kPL ?aPM ?gPM ?tPM ?rPM ?lPM ?cPM ?kPM ?aC ?pg ?hd ?po ?sa ?mk ?kc ?nC ?nT ?sf ?ha ?hn ?ht ?hm ?ic ?ty ?nF ?sJ ?sI ?im ?ir ?ia ?ira ?is_ ?irs ?vFR ?vFS ?vLS ?vLN ?zint ?zabs ?zlen ?zlist ?zrange ?zsorted ?zstr ?zisinstance ?zbool ?zsum ?zmax ?zmin ?ztuple ?zzip ?zall ?zrepr ?zValueError ?aC0 ?iC0 ?tC0 ?aC1 ?iC1 ?tC1 ?aC2 ?iC2 ?tC2 ?aC3 ?iC3 ?tC3 ?aC4 ?iC4 ?tC4 ?aCO ?iCO ?tCO ?eCO ?xL0 ?xs0 ?xg0 ?xk0 ?xname0 ?xlow0 ?xhigh0 ?xi0 ?xt0 ?xK0 ?xe0 ?xd0 ?xa0 ?xm0 ?xv0 ?xo0 ?ne01 ?sb01 ?ne02 ?sb02 ?ne03 ?sb03 ?ne04 ?sb04 ?xL1 ?xs1 ?xg1 ?xk1 ?xname1 ?xlow1 ?xhigh1 ?xi1 ?xt1 ?xK1 ?xe1 ?xd1 ?xa1 ?xm1 ?xv1 ?xo1 ?ne10 ?sb10 ?ne12 ?sb12 ?ne13 ?sb13 ?ne14 ?sb14 ?xL2 ?xs2 ?xg2 ?xk2 ?xname2 ?xlow2 ?xhigh2 ?xi2 ?xt2 ?xK2 ?xe2 ?xd2 ?xa2 ?xm2 ?xv2 ?xo2 ?ne20 ?sb20 ?ne21 ?sb21 ?ne23 ?sb23 ?ne24 ?sb24 ?xL3 ?xs3 ?xg3 ?xk3 ?xname3 ?xlow3 ?xhigh3 ?xi3 ?xt3 ?xK3 ?xe3 ?xd3 ?xa3 ?xm3 ?xv3 ?xo3 ?ne30 ?sb30 ?ne31 ?sb31 ?ne32 ?sb32 ?ne34 ?sb34 ?lx0 ?cx0 ?kx0 ?lx1 ?cx1 ?kx1 ?lx2 ?cx2 ?kx2 ?lx3 ?cx3 ?kx3
    (case aC => k_is)
    (case aC0 => k_is)
    (case aC1 => k_is)
    (case aC2 => k_is)
    (case aC3 => k_is)
    (case aC4 => k_is)
    (case aCO => k_is)
    (case xi0 => k_is)
    (case xi1 => k_is)
    (case xi2 => k_is)
    (case xi3 => k_is)
    (case a12 => k_is)
    (case l12 => k_is)
    (case c12 => k_is)
    (case k12 => k_is)
    (case a13 => k_is)
    (case l13 => k_is)
    (case c13 => k_is)
    (case k13 => k_is)
    (case a16 => k_is)
    (case l16 => k_is)
    (case c16 => k_is)
    (case k16 => k_is)
    (case a18 => k_is)
    (case l18 => k_is)
    (case c18 => k_is)
    (case k18 => k_is)
    (case a19 => k_is)
    (case l19 => k_is)
    (case c19 => k_is)
    (case k19 => k_is)
    (case a21 => k_is)
    (case l21 => k_is)
    (case c21 => k_is)
    (case k21 => k_is)
    (case a22 => k_is)
    (case l22 => k_is)
    (case c22 => k_is)
    (case k22 => k_is)
    (case a23 => k_is)
    (case l23 => k_is)
    (case c23 => k_is)
    (case k23 => k_is)
    (case a24 => k_is)
    (case l24 => k_is)
    (case c24 => k_is)
    (case k24 => k_is)
    (case a25 => k_is)
    (case l25 => k_is)
    (case c25 => k_is)
    (case k25 => k_is)
    (case a26 => k_is)
    (case l26 => k_is)
    (case c26 => k_is)
    (case k26 => k_is)
    (case a27 => k_is)
    (case l27 => k_is)
    (case c27 => k_is)
    (case k27 => k_is)
    (case a28 => k_is)
    (case l28 => k_is)
    (case c28 => k_is)
    (case k28 => k_is)
    (case a29 => k_is)
    (case l29 => k_is)
    (case c29 => k_is)
    (case k29 => k_is)
    (case a30 => k_is)
    (case l30 => k_is)
    (case c30 => k_is)
    (case k30 => k_is)
    (case a31 => k_is)
    (case l31 => k_is)
    (case c31 => k_is)
    (case k31 => k_is)
    (case a32 => k_is)
    (case l32 => k_is)
    (case c32 => k_is)
    (case k32 => k_is)
    (case a33 => k_is)
    (case l33 => k_is)
    (case c33 => k_is)
    (case k33 => k_is)
    (case a34 => k_is)
    (case l34 => k_is)
    (case c34 => k_is)
    (case k34 => k_is)
    (case a35 => k_is)
    (case l35 => k_is)
    (case c35 => k_is)
    (case k35 => k_is)
    (case a36 => k_is)
    (case l36 => k_is)
    (case c36 => k_is)
    (case k36 => k_is)
    (case a37 => k_is)
    (case l37 => k_is)
    (case c37 => k_is)
    (case k37 => k_is)
    (case a38 => k_is)
    (case l38 => k_is)
    (case c38 => k_is)
    (case k38 => k_is)
    (case a39 => k_is)
    (case l39 => k_is)
    (case c39 => k_is)
    (case k39 => k_is)
    (case a40 => k_is)
    (case l40 => k_is)
    (case c40 => k_is)
    (case k40 => k_is)
    (case a41 => k_is)
    (case l41 => k_is)
    (case c41 => k_is)
    (case k41 => k_is)
    (case a42 => k_is)
    (case l42 => k_is)
    (case c42 => k_is)
    (case k42 => k_is)
    (case a43 => k_is)
    (case l43 => k_is)
    (case c43 => k_is)
    (case k43 => k_is)
    (case a44 => k_is)
    (case l44 => k_is)
    (case c44 => k_is)
    (case k44 => k_is)
    (case a45 => k_is)
    (case l45 => k_is)
    (case c45 => k_is)
    (case k45 => k_is)
    (case a46 => k_is)
    (case l46 => k_is)
    (case c46 => k_is)
    (case k46 => k_is)
    (case a47 => k_is)
    (case l47 => k_is)
    (case c47 => k_is)
    (case k47 => k_is)
    (case a48 => k_is)
    (case l48 => k_is)
    (case c48 => k_is)
    (case k48 => k_is)
    (case a49 => k_is)
    (case l49 => k_is)
    (case c49 => k_is)
    (case k49 => k_is)
    (case a50 => k_is)
    (case l50 => k_is)
    (case c50 => k_is)
    (case k50 => k_is)
    (case a17 => k_is)
    (case l17 => k_is)
    (case c17 => k_is)
    (case k17 => k_is)
    (case amI => k_is)
    (case imI => k_is)
    (case lmI => k_is)
    (case cmI => k_is)
    (case kmI => k_is)
    (case amA => k_is)
    (case imA => k_is)
    (case lmA => k_is)
    (case cmA => k_is)
    (case kmA => k_is)
    (case amRA => k_is)
    (case imRA => k_is)
    (case lmRA => k_is)
    (case cmRA => k_is)
    (case kmRA => k_is)
    (case amS => k_is)
    (case imS => k_is)
    (case lmS => k_is)
    (case cmS => k_is)
    (case kmS => k_is)
    (case amRS => k_is)
    (case imRS => k_is)
    (case lmRS => k_is)
    (case cmRS => k_is)
    (case kmRS => k_is)
    (case amM => k_is)
    (case imM => k_is)
    (case lmM => k_is)
    (case cmM => k_is)
    (case kmM => k_is)
    (case amR => k_is)
    (case imR => k_is)
    (case lmR => k_is)
    (case cmR => k_is)
    (case kmR => k_is)
    (case amN => k_is)
    (case imN => k_is)
    (case lmN => k_is)
    (case cmN => k_is)
    (case kmN => k_is)
    (case amE => k_is)
    (case imE => k_is)
    (case lmE => k_is)
    (case cmE => k_is)
    (case kmE => k_is)
    (case amL => k_is)
    (case imL => k_is)
    (case lmL => k_is)
    (case cmL => k_is)
    (case kmL => k_is)
    (case amG => k_is)
    (case imG => k_is)
    (case lmG => k_is)
    (case cmG => k_is)
    (case kmG => k_is)
    (case amV => k_is)
    (case imV => k_is)
    (case lmV => k_is)
    (case cmV => k_is)
    (case kmV => k_is)
    (case aPL => k_is)
    (case gPL => k_is)
    (case tPL => k_is)
    (case rPL => k_is)
    (case lPL => k_is)
    (case cPL => k_is)
    (case kPL => k_is)
    (case aPM => k_is)
    (case gPM => k_is)
    (case tPM => k_is)
    (case rPM => k_is)
    (case lPM => k_is)
    (case cPM => k_is)
    (case kPM => k_is)
    (case pg => k_is)
    (case hd => k_is)
    (case po => k_is)
    (case sa => k_is)
    (case mk => k_is)
    (case kc => k_is)
    (case nC => k_is)
    (case nT => k_is)
    (case sf => k_is)
    (case ha => k_is)
    (case hn => k_is)
    (case ht => k_is)
    (case hm => k_is)
    (case ic => k_is)
    (case ty => k_is)
    (case nF => k_is)
    (case sJ => k_is)
    (case sI => k_is)
    (case im => k_is)
    (case ir => k_is)
    (case ia => k_is)
    (case ira => k_is)
    (case is_ => k_is)
    (case irs => k_is)
    (case vFR => k_is)
    (case vFS => k_is)
    (case vLS => k_is)
    (case vLN => k_is)
    (case zint => k_is)
    (case zabs => k_is)
    (case zlen => k_is)
    (case zlist => k_is)
    (case zrange => k_is)
    (case zsorted => k_is)
    (case zstr => k_is)
    (case zisinstance => k_is)
    (case zbool => k_is)
    (case zsum => k_is)
    (case zmax => k_is)
    (case zmin => k_is)
    (case ztuple => k_is)
    (case zzip => k_is)
    (case zall => k_is)
    (case zrepr => k_is)
    (case zValueError => k_is)
    (case iC0 => k_is)
    (case tC0 => k_is)
    (case iC1 => k_is)
    (case tC1 => k_is)
    (case iC2 => k_is)
    (case tC2 => k_is)
    (case iC3 => k_is)
    (case tC3 => k_is)
    (case iC4 => k_is)
    (case tC4 => k_is)
    (case iCO => k_is)
    (case tCO => k_is)
    (case eCO => k_is)
    (case xL0 => k_is)
    (case xs0 => k_is)
    (case xg0 => k_is)
    (case xk0 => k_is)
    (case xname0 => k_is)
    (case xlow0 => k_is)
    (case xhigh0 => k_is)
    (case xt0 => k_is)
    (case xK0 => k_is)
    (case xe0 => k_is)
    (case xd0 => k_is)
    (case xa0 => k_is)
    (case xm0 => k_is)
    (case xv0 => k_is)
    (case xo0 => k_is)
    (case ne01 => first | rfl | decide)
    (case sb01 => k_is)
    (case ne02 => first | rfl | decide)
    (case sb02 => k_is)
    (case ne03 => first | rfl | decide)
    (case sb03 => k_is)
    (case ne04 => first | rfl | decide)
    (case sb04 => k_is)
    (case xL1 => k_is)
    (case xs1 => k_is)
    (case xg1 => k_is)
    (case xk1 => k_is)
    (case xname1 => k_is)
    (case xlow1 => k_is)
    (case xhigh1 => k_is)
    (case xt1 => k_is)
    (case xK1 => k_is)
    (case xe1 => k_is)
    (case xd1 => k_is)
    (case xa1 => k_is)
    (case xm1 => k_is)
    (case xv1 => k_is)
    (case xo1 => k_is)
    (case ne10 => first | rfl | decide)
    (case sb10 => k_is)
    (case ne12 => first | rfl | decide)
    (case sb12 => k_is)
    (case ne13 => first | rfl | decide)
    (case sb13 => k_is)
    (case ne14 => first | rfl | decide)
    (case sb14 => k_is)
    (case xL2 => k_is)
    (case xs2 => k_is)
    (case xg2 => k_is)
    (case xk2 => k_is)
    (case xname2 => k_is)
    (case xlow2 => k_is)
    (case xhigh2 => k_is)
    (case xt2 => k_is)
    (case xK2 => k_is)
    (case xe2 => k_is)
    (case xd2 => k_is)
    (case xa2 => k_is)
    (case xm2 => k_is)
    (case xv2 => k_is)
    (case xo2 => k_is)
    (case ne20 => first | rfl | decide)
    (case sb20 => k_is)
    (case ne21 => first | rfl | decide)
    (case sb21 => k_is)
    (case ne23 => first | rfl | decide)
    (case sb23 => k_is)
    (case ne24 => first | rfl | decide)
    (case sb24 => k_is)
    (case xL3 => k_is)
    (case xs3 => k_is)
    (case xg3 => k_is)
    (case xk3 => k_is)
    (case xname3 => k_is)
    (case xlow3 => k_is)
    (case xhigh3 => k_is)
    (case xt3 => k_is)
    (case xK3 => k_is)
    (case xe3 => k_is)
    (case xd3 => k_is)
    (case xa3 => k_is)
    (case xm3 => k_is)
    (case xv3 => k_is)
    (case xo3 => k_is)
    (case ne30 => first | rfl | decide)
    (case sb30 => k_is)
    (case ne31 => first | rfl | decide)
    (case sb31 => k_is)
    (case ne32 => first | rfl | decide)
    (case sb32 => k_is)
    (case ne34 => first | rfl | decide)
    (case sb34 => k_is)
    (case lx0 => k_is)
    (case cx0 => k_is)
    (case kx0 => k_is)
    (case lx1 => k_is)
    (case cx1 => k_is)
    (case kx1 => k_is)
    (case lx2 => k_is)
    (case cx2 => k_is)
    (case kx2 => k_is)
    (case lx3 => k_is)
    (case cx3 => k_is)
    (case kx3 => k_is)
